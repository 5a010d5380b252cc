import Derived.WalkSpells
import Derived.Deep.RegionHeld3
import Derived.Deep.AppendLies
import Derived.BigQuiet
import Derived.OneCell
import Derived.Test.YtkdijoogonigpaaGreatDoorHUk01
import Derived.Lib.Bytealg
set_option linter.all false
set_option maxRecDepth 100000
set_option maxHeartbeats 6400000
open Go renaming World->M,Value->W,Calls->X,maxLen->B5
open Go.Proofs.Tryz renaming prog->N
open Option renaming none->O,some->R
open Go.Value renaming string->Q,int->T,slice->Y,pointer->B1,bool->B2,tuple->B4
open Bool renaming false->S,true->B0
open Go.Ending renaming returned->U
open Go.IntKind renaming i64->V,u8->A0,u64->Ce
open ByteArray renaming empty->Z
open Go.RowKit renaming Below->Ax,intOf->B6
open Go.World renaming setCell->A2,news_of_block->Br
open Go.Instr renaming index->B3
namespace Go.Proofs.YtkdijoogonigpaaGreatDoor
open Go.RowKit
theorem Tryz.info5:(Tryz.prog.info? 5).map (fun i=>(i.zero,i.size,i.bytes))=R (R (T A0 0),1,1):=by kernel_rfl
def B8(l:List Int):List W:=l.map (Value.int A0)
theorem Hs(a b:List Int):B8 (a++b)=B8 a++B8 b:=by simp[B8]
theorem Ht(a:List Int):(B8 a).length=a.length:=by simp[B8]
theorem oI{w:M}{base n:Nat}{v:W}{l:List Int}(a:w.ownsRow base 5 1 v n (B8 l)):l.length=n:=by
 have:=a.1;simpa [B8] using this
theorem fs{i:Array Oper}{j:List Oper}{e:Oper}{a:Act}{f:Exit->Act->M->Prop}{w:M}(q:e.guard=O)(s x:Operand)
  (A:e.op= .call {callee:= .builtin .append,args:=#[s,x],argTypes:=#[22,22]}) (base:Nat) (v:W) (n:Nat) (l:List Int) (C:a.eval s=v)
  (g:w.ownsRow base 5 1 v n (B8 l)) (o:base<=w.heap.size) (L:n<=100000) (d:List Int) (m:Nat) (y:d.length=m) (z:0<m) (K:m<=100) (cs:Array W) (p:cs.toList=B8 d)
  (E:a.eval x= .slice (R ⟨w.heap.size,0,O⟩) m m)
  (k:∀c b w1,w1.ownsRow base 5 1 (.slice (R ⟨c,0,O⟩) (n+m) b) (n+m) (B8 (l++d))->Ax base w w1->wpList N i f j (a.put e.dst (.slice (R ⟨c,0,O⟩) (n+m) b)) w1):
  wpList N i f (e::j) a (w.alloc (.cells cs 5)):=by
 obtain⟨I,t,F,G,H⟩:=fd Tryz.info5;refine wpList_append_lies _ q s x 22 A base 5 I (.int .u8 0) 1 1 Tryz.underlying22 t F G H rfl (by decide) v n (B8 l) C (g.alloc _) ⟨w.heap.size,0,O⟩ m m (B8 d) E (by simp[B8,y])
  (by rw[<-p];exact Br (fr:=(0,0)) (ax w _)) (by intro ak h;simp[B8]at h;obtain⟨af,_,rfl⟩:=h;rfl) z (by unfold B5;omega) (by omega) (by simp;omega) (w.heap.size+1) (by simp) ?_
 intro c b w1 B r _ _;refine k c b w1 (by rw[Hs];exact B) (((aq base w).alloc o _).grown r (by simp;omega) (fun J u=>(g.lt J u).1))
def gg(d:Int):Int:=if d<10 then 48+d else 87+d
def esc(c:Int):List Int:=if c=10 then [92,110] else if c=9 then [92,116] else if c=34\/c=92 then [92,c] else if c<32\/126<c then [92,120,gg (c / 16),gg (c%16)] else [c]
theorem aeG(v:W)(n base:Nat)(l:List Int)(w:M)(h:w.ownsRow base 5 1 v n (B8 l))(f:base<=w.heap.size)(g:n<=100000):
  X N 56 #[v,T A0 10] w fun e c=>∃b a,e= U (Y (R ⟨b,0,O⟩) (n+2) a)/\
   c.ownsRow base 5 1 (Y (R ⟨b,0,O⟩) (n+2) a) (n+2) (B8 (l++[92,110]))/\Ax base w c:=by
 go_in;go_wp2_with (at_builtin;refine fs rfl (.tmp 8) (.tmp 9) rfl base v n l rfl h f g [92,110] 2 rfl (by decide) (by decide) _ rfl rfl ?_;intro b a w1 i d);go_wp2;go_ret;exact⟨b,a,rfl,i,d⟩
theorem acA(v:W)(n base:Nat)(l:List Int)(w:M)(h:w.ownsRow base 5 1 v n (B8 l))(f:base<=w.heap.size)(g:n<=100000):
  X N 56 #[v,T A0 9] w fun e c=>∃b a,e= U (Y (R ⟨b,0,O⟩) (n+2) a)/\
   c.ownsRow base 5 1 (Y (R ⟨b,0,O⟩) (n+2) a) (n+2) (B8 (l++[92,116]))/\Ax base w c:=by
 go_in;go_wp2_with (at_builtin;refine fs rfl (.tmp 14) (.tmp 15) rfl base v n l rfl h f g [92,116] 2 rfl (by decide) (by decide) _ rfl rfl ?_;intro b a w1 i d);go_wp2;go_ret;exact⟨b,a,rfl,i,d⟩
theorem acB(v:W)(n base:Nat)(l:List Int)(c:Int)(k:c=34\/c=92)(w:M)(i:w.ownsRow base 5 1 v n (B8 l))(g:base<=w.heap.size)(h:n<=100000):
  X N 56 #[v,T A0 c] w fun e j=>∃b a,e= U (Y (R ⟨b,0,O⟩) (n+2) a)/\
   j.ownsRow base 5 1 (Y (R ⟨b,0,O⟩) (n+2) a) (n+2) (B8 (l++[92,c]))/\Ax base w j:=by
 rcases k with rfl|rfl
 ·go_in;go_wp2_with (at_builtin;refine fs rfl (.tmp 24) (.tmp 26) rfl base v n l rfl i g h [92,34] 2 rfl (by decide) (by decide) _ rfl rfl ?_;intro b a w1 f d);go_wp2;go_ret;exact⟨b,a,rfl,f,d⟩
 ·go_in;go_wp2_with (at_builtin;refine fs rfl (.tmp 24) (.tmp 26) rfl base v n l rfl i g h [92,92] 2 rfl (by decide) (by decide) _ rfl rfl ?_;intro b a w1 f d);go_wp2;go_ret;exact⟨b,a,rfl,f,d⟩
theorem aad(v:W)(n base:Nat)(l:List Int)(c:Int)(k:32<=c)(m:c<=126)(o:(c==34)=S)(p:(c==92)=S)(w:M)(i:w.ownsRow base 5 1 v n (B8 l))(g:base<=w.heap.size)(h:n<=100000):
  X N 56 #[v,T A0 c] w fun e d=>∃b a,e= U (Y (R ⟨b,0,O⟩) (n+1) a)/\
   d.ownsRow base 5 1 (Y (R ⟨b,0,O⟩) (n+1) a) (n+1) (B8 (l++[c]))/\Ax base w d:=by
 go_in;go_wp2_with (at_builtin;refine fs rfl (.tmp 44) (.tmp 46) rfl base v n l rfl i g h [c] 1 rfl (by decide) (by decide) _ rfl rfl ?_;intro b a w1 j f);go_wp2;go_ret;exact⟨b,a,rfl,j,f⟩
def DG:ByteArray:=⟨#[48,49,50,51,52,53,54,55,56,57,97,98,99,100,101,102]⟩
theorem acC:∀i:Fin 16,((DG[i.val]'(by have:=i.isLt;exact this)).toNat:Int)=gg (i.val:Int):=by decide
theorem ab9(d:Int)(c:0<=d)(e:d<16)(b:d.toNat<DG.size):((DG[d.toNat]'b).toNat:Int)=gg d:=by
 have:=acC ⟨d.toNat,by omega⟩;have a:((d.toNat:Nat):Int)=d:=by omega
 simp only[a]at this;exact this
theorem sn(d:Int)(b:0<=d)(c:d<16)(w:M):(B3 9 (Q ⟨#[48,49,50,51,52,53,54,55,56,57,97,98,99,100,101,102]⟩) (T A0 d)).run N w= .ok (T A0 (gg d)) w:=by
 have a:d.toNat<DG.size:=by simp only[DG];show d.toNat<16;omega
 have e:=ab9 d b c a;go_simp;exact e
theorem acD(c:Int)(a:0<=c)(b:c<256):bits .and A0 c 15=c%16:=by
 have:=bits_mask A0 8 (by decide) wraps_u8 4 (by decide) c a b;simpa using this
theorem ug{K:Array Oper}{b:Oper}{a:Act}{f:Act->M->Prop}{i:Exit->Act->M->Prop}{E:Prop}{w:M}(p:b.guard=O)(s x:Operand)
  (z:b.op= .call {callee:= .builtin .append,args:=#[s,x],argTypes:=#[22,22]}) (base:Nat) (v:W) (n:Nat) (l:List Int) (B:a.eval s=v)
  (g:w.ownsRow base 5 1 v n (B8 l)) (k:base<=w.heap.size) (af:n<=100000) (e:List Int) (m:Nat) (u:e.length=m) (y:0<m) (L:m<=100) (cs:Array W) (o:cs.toList=B8 e)
  (C:a.eval x= .slice (R ⟨w.heap.size,0,O⟩) m m)
  (j:∀d c w1,w1.ownsRow base 5 1 (.slice (R ⟨d,0,O⟩) (n+m) c) (n+m) (B8 (l++e))->Ax base w w1->f (a.put b.dst (.slice (R ⟨d,0,O⟩) (n+m) c)) w1):
  if Region.wanted b (yielded K a.tmps)=B0 then Oper.wp N b a (w.alloc (.cells cs 5)).drew f i else E:=by
 obtain⟨I,r,F,G,H⟩:=fd Tryz.info5;refine step_append_lies _ p s x 22 z base 5 I (.int .u8 0) 1 1 Tryz.underlying22 r F G H rfl (by decide) v n (B8 l) B ((g.alloc _).drew) ⟨w.heap.size,0,O⟩ m m (B8 e) C (by simp[B8,u])
  (by rw[<-o];exact Br (fr:=(0,0)) (ax w _)) (by intro al h;simp[B8]at h;obtain⟨ak,_,rfl⟩:=h;rfl) y (by unfold B5;omega) (by omega) (by simp;omega) (w.heap.size+1) (by simp) ?_
 intro d c w1 A q _ _;refine j d c w1 (by rw[Hs];exact A) ((((aq base w).alloc k _).drew).grown q (by simp;omega) (fun J t=>(g.lt J t).1))
theorem acE(v:W)(n base:Nat)(l:List Int)(c:Int)(f:0<=c)(p:c<32)(q:(c==10)=S)(r:(c==9)=S)(s:(c==34)=S)(t:(c==92)=S)(w:M)(i:w.ownsRow base 5 1 v n (B8 l))(g:base<=w.heap.size)(h:n<=100000):
  X N 56 #[v,T A0 c] w fun e d=>∃b a,e= U (Y (R ⟨b,0,O⟩) (n+4) a)/\
   d.ownsRow base 5 1 (Y (R ⟨b,0,O⟩) (n+4) a) (n+4) (B8 (l++[92,120,gg (c / 16),gg (c%16)]))/\Ax base w d:=by
 have z:=sn (c / 16) (by omega) (by omega);have A:=sn (c%16) (by omega) (by omega);have x:bits .and A0 c 15=c%16:=acD c f (by omega);have j:0<=c / 16:=by omega
 have k:c / 16<16:=by omega
 have m:0<=c%16:=by omega
 have o:c%16<16:=by omega
 go_in;go_wp2_with fail;go_region_held3 (fun d=>True) (trivial) ((refine ug (by rfl) _ _ (by rfl) base v n l (by rfl) i g h [92,120,_,_] 4 (by rfl) (by decide) (by decide) _ (by rfl) (by rfl) ?_;intro b a w1 y u))
 all_goals
  go_wp2;go_ret;exact⟨_,_,rfl,by assumption,by assumption⟩
theorem Hu(v:W)(n base:Nat)(l:List Int)(c:Int)(p:126<c)(f:c<256)(q:(c==10)=S)(r:(c==9)=S)(s:(c==34)=S)(t:(c==92)=S)(w:M)(i:w.ownsRow base 5 1 v n (B8 l))(g:base<=w.heap.size)(h:n<=100000):
  X N 56 #[v,T A0 c] w fun e d=>∃b a,e= U (Y (R ⟨b,0,O⟩) (n+4) a)/\
   d.ownsRow base 5 1 (Y (R ⟨b,0,O⟩) (n+4) a) (n+4) (B8 (l++[92,120,gg (c / 16),gg (c%16)]))/\Ax base w d:=by
 have z:=sn (c / 16) (by omega) (by omega);have A:=sn (c%16) (by omega) (by omega);have x:bits .and A0 c 15=c%16:=acD c (by omega) f;have j:0<=c / 16:=by omega
 have k:c / 16<16:=by omega
 have m:0<=c%16:=by omega
 have o:c%16<16:=by omega
 go_in;go_wp2_with fail;go_region_held3 (fun d=>True) (trivial) ((refine ug (by rfl) _ _ (by rfl) base v n l (by rfl) i g h [92,120,_,_] 4 (by rfl) (by decide) (by decide) _ (by rfl) (by rfl) ?_;intro b a w1 y u))
 all_goals
  go_wp2;go_ret;exact⟨_,_,rfl,by assumption,by assumption⟩
theorem acF(v:W)(n base:Nat)(l:List Int)(c:Int)(m:0<=c)(o:c<256)(w:M)(g:w.ownsRow base 5 1 v n (B8 l))(d:base<=w.heap.size)(f:n<=100000):
  X N 56 #[v,T A0 c] w fun e k=>∃j i,e= U (Y (R ⟨j,0,O⟩) (n+(esc c).length) i)/\
   k.ownsRow base 5 1 (Y (R ⟨j,0,O⟩) (n+(esc c).length) i) (n+(esc c).length) (B8 (l++esc c))/\Ax base w k:=by
 by_cases a:c=10
 ·subst a;exact aeG v n base l w g d f
 by_cases b:c=9
 ·subst b;exact acA v n base l w g d f
 by_cases h:c=34\/c=92
 ·have:esc c=[92,c]:=by unfold esc;rw[aa a,aa b,ab h]
  rw[this];exact acB v n base l c h w g d f
 by_cases e4:c<32\/126<c
 ·have:esc c=[92,120,gg (c / 16),gg (c%16)]:=by unfold esc;rw[aa a,aa b,aa h,ab e4]
  rw[this];rcases e4 with e4|e4
  ·exact acE v n base l c m e4 (by simp[a]) (by simp[b]) (by simp;omega) (by simp;omega) w g d f
  ·exact Hu v n base l c e4 o (by simp[a]) (by simp[b]) (by simp;omega) (by simp;omega) w g d f
 ·have:esc c=[c]:=by unfold esc;rw[aa a,aa b,aa h,aa e4]
  rw[this];exact aad v n base l c (by omega) (by omega) (by simp;omega) (by simp;omega) w g d f
def co(l:List Int):ByteArray:=l.foldl (fun b a=>b.push (UInt8.ofNat a.toNat)) Z
theorem ir{w:M}{base c n b:Nat}{l:List Int}(d:w.ownsRow base 5 1 (.slice (R ⟨c,0,O⟩) n b) n (B8 l)):
  (convert 22 9 (.slice (R ⟨c,0,O⟩) n b)).run N w= .ok (.string (co l)) w:=by
 rw[zd w 22 9 5 _ _ _ Tryz.underlying22 Tryz.underlying5 Tryz.underlying9];have g:=oI d;refine run_bytesToString w _ n b l ?_;rcases d.2 with⟨e,_⟩|⟨p,m,o,i,_,f,_,_,q,h⟩
 ·cases e
 ·cases i;have:=run_loadCells_list (P:=N) w ⟨c,0,O⟩ (B8 l) (fun j k a=>by
   refine Br f j k ?_;rw[<-h]at a;rw[oF]at a;split at a
   ·exact a
   ·cases a)
  rw[Ht,g]at this;exact this
theorem oJ(w:M)(c:Int):(w.alloc (.cells #[T A0 c] 5)).ownsRow w.heap.size 5 1 (Y (R ⟨w.heap.size,0,O⟩) 1 1) 1 (B8 [c]):=
 ⟨rfl,.inr ⟨w.heap.size,1,#[T A0 c],rfl,ag _,ax w _,ag _,by unfold B5;omega,rfl,rfl⟩⟩
theorem aae(c:Int):(esc c).length<=4:=by
 unfold esc;split
 ·decide
 split
 ·decide
 split
 ·simp
 split<;>simp
def qt(s:ByteArray)(k:Nat):List Int:=34::(s.data.toList.take k).flatMap fun a=>esc (a.toNat:Int)
theorem Ey(s:ByteArray):qt s 0=[34]:=rfl
theorem np(s:ByteArray)(k:Nat)(a:k<s.size):qt s (k+1)=qt s k++esc (s[k].toNat:Int):=by
 unfold qt;rw[List.take_succ_eq_append_getElem (by simpa using a)];simp only[Ep,qC,List.flatMap_nil,fL,gn];rfl
theorem zg(s:ByteArray):∀k,k<=s.size->(qt s k).length<=1+4*k
 |0,_=>by simp[qt]
 |k+1,a=>by
  have:=zg s k (by omega);have b:=aae (s[k].toNat:Int);rw[np s k (by omega),aH];omega
def bG(s:ByteArray):List Int:=qt s s.size++[34]
theorem Gg(s:ByteArray)(v:s.size<=4000)(w:M):
  X N 21 #[Q s] w fun e i=>e= U (Q (co (bG s)))/\Ax w.heap.size w i:=by
 go_in;go_wp2_with fail;go_loopw [3,11] (fun r h wr=>∃a b:Nat,a<=s.size/\h= T V a/\wr.ownsRow w.heap.size 5 1 r b (B8 (qt s a))/\Ax w.heap.size w wr) (fun _ h _=>s.size-(B6 h).toNat)
 case atStart=>exact⟨0,1,aG _,rfl,oJ w 34,(aq _ _).alloc (ag _) _⟩
 case round=>
  obtain⟨a,b,l,rfl,f,c⟩:=hrel;have n:=oI f;have p:=zg s a l;have u:b<=20000:=by omega
  clear n p;by_cases o:a<s.size
  ·have q:Hid (qt s (a+1)=qt s a++esc (s[a].toNat:Int)):=np s a o;have t:(s[a].toNat:Int)<256:=by have:=s[a].toNat_lt;omega
   go_wp2_with (go_at_call 56;refine(acF _ b w.heap.size (qt s a) _ (by omega) (by omega) _ f c.size (by omega)).mono ?_;rintro e i ⟨k,j,rfl,g,d⟩);go_roundw
   case rel=>exact⟨a+1,_,by omega,by go_num,by rw[q.out];exact g,c.trans d⟩
   case measure=>simp[B6];omega
  ·have m:a=s.size:=by omega
   subst m;go_wp2_with (at_builtin;refine fs rfl (.tmp 20) (.tmp 21) rfl w.heap.size _ b (qt s s.size) rfl f c.size (by omega) [34] 1 rfl (by decide) (by decide) _ rfl rfl ?_;intro k j w1 g d;have x:=ir g);go_ret;exact⟨rfl,c.trans d⟩
theorem aaf(s:ByteArray)(c:4000<s.size)(b:s.size<=1048576)(w:M):
  X N 21 #[Q s] w fun e a=>e= U (Q ⟨#[]⟩)/\a=w:=by
 go_in;go_wp2;go_ret;exact⟨rfl,rfl⟩
def Code(base:Nat)(w:M)(f:Option Addr)(d:Nat):Prop:=
 d=0\/∃a e,f=R ⟨a,e,O⟩/\a<base/\∀c,c<d->∃b:Int,0<=b/\b<256/\w.cell? ⟨a,e+c,O⟩=R (T A0 b)
theorem Code.below{base:Nat}{w h:M}{b:Option Addr}{f:Nat}(a:Code base w b f)(j:Ax base w h):Code base h b f:=by
 rcases a with a|⟨c,g,i,d,k⟩
 ·exact .inl a
 ·exact .inr ⟨c,g,i,d,fun e l=>by obtain⟨n,z0,o,m⟩:=k e l;exact⟨n,z0,o,(j.cell (p:=⟨c,g+e,O⟩) d).trans m⟩⟩
def dv(b:Nat)(w:M)(a:Option Addr)(d c:Nat)(p q r:Int):Prop:=
 w.heap[b]?=R (.cells #[Y a d c,T V p,T Ce q,T V r] 35 (0,0))
theorem oK{b:Nat}{w:M}{c:Option Addr}{e d:Nat}{p q r:Int}(a:dv b w c e d p q r):
  w.cell? ⟨b,0,O⟩=R (Y c e d)/\w.cell? ⟨b,1,O⟩=R (T V p)/\w.cell? ⟨b,2,O⟩=R (T Ce q)/\w.cell? ⟨b,3,O⟩=R (T V r)/\
  w.frozen? ⟨b,1,O⟩=S/\w.frozen? ⟨b,2,O⟩=S/\w.frozen? ⟨b,3,O⟩=S:=by
 unfold dv at a;refine⟨by rw[ay _ _ _ _ _ _ a];rfl,by rw[ay _ _ _ _ _ _ a];rfl,by rw[ay _ _ _ _ _ _ a];rfl,by rw[ay _ _ _ _ _ _ a];rfl,dp _ _ _ _ _ a,dp _ _ _ _ _ a,dp _ _ _ _ _ a⟩
theorem dv.set1{b:Nat}{w:M}{a:Option Addr}{d c:Nat}{p q r:Int}(e:dv b w a d c p q r)(x:Int):dv b (w.setCell ⟨b,1,O⟩ (T V x)) a d c x q r:=bK w b 1 _ _ _ e
theorem dv.set2{b:Nat}{w:M}{a:Option Addr}{d c:Nat}{p q r:Int}(e:dv b w a d c p q r)(x:Int):dv b (w.setCell ⟨b,2,O⟩ (T Ce x)) a d c p x r:=bK w b 2 _ _ _ e
theorem dv.set3{b:Nat}{w:M}{a:Option Addr}{d c:Nat}{p q r:Int}(e:dv b w a d c p q r)(x:Int):dv b (w.setCell ⟨b,3,O⟩ (T V x)) a d c p q x:=bK w b 3 _ _ _ e
theorem dv.drewN{b:Nat}{w:M}{a:Option Addr}{d c:Nat}{p q r:Int}(e:dv b w a d c p q r)(n:Nat):dv b (w.drewN n) a d c p q r:=e
theorem dv.lt{b:Nat}{w:M}{a:Option Addr}{e c:Nat}{p q r:Int}(d:dv b w a e c p q r):b<w.heap.size:=au d
theorem lH(w:M)(b:Nat):w.grownBy w (R b):=⟨rfl,rfl,rfl,ag _,fun _ _ _=>rfl⟩
theorem qG{w0 w:M}{b:Nat}(a:w0.grownBy w (R b))(n:Nat):w0.grownBy (w.drewN n) (R b):=⟨a.os,a.tape,a.output,a.size,a.block⟩
theorem pI{w0 w:M}{b:Nat}(a:w0.grownBy w (R b))(i:Nat)(v:W):w0.grownBy (w.setCell ⟨b,i,O⟩ v) (R b):=
 ⟨a.os,a.tape,a.output,by simpa [A2] using a.size,fun f e c=>by rw[bC _ _ _ _ (fun d=>c (by rw[d]))];exact a.block f e c⟩
theorem AG{x y z:M}{b:Nat}(a:x.grownBy y (R b))(k:y.grownBy z (R b)):x.grownBy z (R b):=
 ⟨k.os.trans a.os,k.tape.trans a.tape,k.output.trans a.output,bA a.size k.size,fun e c d=>(k.block e (eI c a.size) d).trans (a.block e c d)⟩
theorem jr{x y:M}{b base:Nat}(c:x.grownBy y (R b))(d:base<=b)(e:base<=x.heap.size):Ax base x y:=
 (aq base x).grown c e (fun f a=>by cases a;exact d)
theorem agh(x:Int):0<=wrap64 (bits .and Ce (IntKind.u64.wrap x / 1099511627776) 255)/\wrap64 (bits .and Ce (IntKind.u64.wrap x / 1099511627776) 255)<256:=by
 have b:IntKind.u64.wrap x=x%18446744073709551616:=by simp[IntKind.wrap,IntKind.bits,IntKind.signed]
 have f:0<=IntKind.u64.wrap x / 1099511627776:=by rw[b];omega
 have g:IntKind.u64.wrap x / 1099511627776<2 ^ 24:=by rw[b];omega
 have h:∀a:Int,0<=a->a<2 ^ 24->IntKind.u64.wrap a=a:=fun a i j=>by
  have c:IntKind.u64.wrap a=a%18446744073709551616:=by simp[IntKind.wrap,IntKind.bits,IntKind.signed]
  rw[c];omega
 have:=bits_mask Ce 24 (by decide) h 8 (by decide) _ f g;have d:((2:Int) ^ 8-1)=255:=by decide
 rw[d]at this;have e:((2:Int) ^ 8)=256:=by decide
 rw[this,e];unfold wrap64;omega
theorem aag(b base:Nat)(w:M)(c d a f:Nat)(p q r:Int)(g:dv b w (R ⟨c,d,O⟩) a f p q r)(v:0<=p)(t:p<a)(u:a<=1048576)
  (z:Int) (z0:0<=z) (y:z<256) (x:w.cell? ⟨c,d+p.toNat,O⟩=R (T A0 z)):
  X N 28 #[B1 (R ⟨b,0,O⟩)] w fun e h=>e= U (T V z)/\∃i,dv b h (R ⟨c,d,O⟩) a f (p+1) i r/\w.grownBy h (R b):=by
 obtain⟨j,k,l,m,n,o,s⟩:=oK g;go_in;go_wp2;go_quiet (fail)
 go_wp2;go_quiet (fail)
 go_wp2;go_ret;exact⟨rfl,_,((g.drewN _).set1 _).set2 _,pI (pI (qG (lH w b) _) _ _) _ _⟩
theorem Hv(b base:Nat)(w:M)(c:Option Addr)(a d:Nat)(p q r:Int)(g:dv b w c a d p q r)(v:0<=p)(x:p<=1000000000)(t:¬p<a)(u:a<=1048576):
  X N 28 #[B1 (R ⟨b,0,O⟩)] w fun e h=>∃z:Int,0<=z/\z<256/\e= U (T V z)/\∃i,dv b h c a d (p+1) i r/\w.grownBy h (R b):=by
 obtain⟨j,k,l,m,n,o,s⟩:=oK g;go_in;go_wp2;go_quiet (fail)
 go_wp2;go_ret;have f:=agh (IntKind.u64.wrap (q*6364136223846793005)+1442695040888963407);exact⟨_,f.1,f.2,rfl,_,((g.drewN _).set2 _).set1 _,pI (pI (qG (lH w b) _) _ _) _ _⟩
theorem qH(b base:Nat)(w:M)(c:Option Addr)(a d:Nat)(p q r:Int)(g:dv b w c a d p q r)(m:Code base w c a)(j:0<=p)(s:p<=1000000000)(i:a<=1048576):
  X N 28 #[B1 (R ⟨b,0,O⟩)] w fun e f=>∃z:Int,0<=z/\z<256/\e= U (T V z)/\∃x,dv b f c a d (p+1) x r/\w.grownBy f (R b):=by
 by_cases h:p<a
 ·rcases m with y|⟨l,v,rfl,A,n⟩
  ·omega
  ·obtain⟨z,z0,k,u⟩:=n p.toNat (by omega);exact(aag b base w l v a d p q r g j h i z z0 k u).mono fun e f ⟨o,t⟩=>⟨z,z0,k,o,t⟩
 ·exact Hv b base w c a d p q r g j s h i
theorem uy(k:Int)(s:2<=k)(t:k<=200)(b base:Nat)(w:M)(c:Option Addr)(a d:Nat)(p q r:Int)(i:dv b w c a d p q r)(l:Code base w c a)(n:0<=p)(o:p<=1000000000)(m:a<=1048576):
  X N 9 #[B1 (R ⟨b,0,O⟩),T V k] w fun e g=>∃z:Int,0<=z/\z<k/\e= U (T V z)/\∃f,dv b g c a d (p+1) f r/\w.grownBy g (R b):=by
 go_in;go_wp2_with (go_at_call 28;refine(qH b base w c a d p q r i l n o m).mono ?_;rintro e g ⟨z,z0,u,rfl,f,j,h⟩);go_ret;exact⟨z%k,Int.emod_nonneg _ (by omega),Int.emod_lt_of_pos _ (by omega),rfl,f,j,h⟩
theorem dv.below{a b:Nat}{w f:M}{c:Option Addr}{e d:Nat}{p q r:Int}(g:dv b w c e d p q r)(h:Ax a w f)(i:b<a):dv b f c e d p q r:=
 (h.block b i).trans g
theorem qI(w:M):(convert 22 9 (.slice O 0 0)).run N w= .ok (.string Z) w:=by
 rw[zd w 22 9 5 _ _ _ Tryz.underlying22 Tryz.underlying5 Tryz.underlying9];simp[Conv.bytesToString,Sem.run_pure]
theorem Gh(l:List Int):∀r:ByteArray,(l.foldl (fun r n=>r.push (UInt8.ofNat n.toNat)) r).size=r.size+l.length:=by
 induction l with
 |nil=>intro r;rfl
 |cons b l a=>intro r;simp only[ni,db];rw[a,ByteArray.size_push];omega
theorem kF(l:List Int):(co l).size=l.length:=by
 unfold co;rw[Gh];simp
theorem acG{w:M}{base e size:Nat}{v:W}{n:Nat}{c:List W}{b:Nat}(a:w.ownsRow base e size v n c)(d:b<base):v.ownBlock=O\/v.ownBlock≠R b:=by
 right;intro e;have:=(a.lt b e).1;omega
theorem acH{x y z:M}{b:Nat}(a:x.grownBy y (R b))(k:Ax x.heap.size y z):x.grownBy z (R b):=
 ⟨k.os.trans a.os,k.tape.trans a.tape,k.output.trans a.output,bA a.size k.size,fun d c e=>(k.block d c).trans (a.block d c e)⟩
theorem xw(n:Nat)(a5:n<=100)(b base:Nat)(w:M)(h:Option Addr)(g k:Nat)(p q r:Int)(H:base<=b)(I:base<=w.heap.size)(y:dv b w h g k p q r)(K:Code base w h g)(al:0<=p)(a6:p<=900000000)(L:g<=1048576):
  X N 30 #[B1 (R ⟨b,0,O⟩),T V n] w fun e B=>∃s:ByteArray,s.size<=n/\e= U (Q s)/\∃a f,0<=a/\a<=p+n/\dv b B h g k a f r/\w.grownBy B (R b):=by
 have x:=y.lt;go_in;go_wp2_with fail;go_loopw [1,5] (fun u ap wr=>∃(d c:Nat) (t:List Int) (a f:Int),u= T V d/\d+c=n/\wr.ownsRow w.heap.size 5 1 ap c (B8 t)/\dv b wr h g k a f r/\0<=a/\a<=p+c/\w.grownBy wr (R b)) (fun u _ _=>(B6 u).toNat)
 case atStart=>exact⟨n,0,[],p,q,rfl,rfl,dB _ _ _ _,y,al,by omega,lH w b⟩
 case round=>
  obtain⟨d,c,t,a,f,rfl,A,j,l,o,a7,i⟩:=hrel;have z:=oI j;have a8:=i.size;have E:=ar A;have a2:c<=n:=by omega
  have a4:d<=n:=by omega
  have C:=ar z;clear A z;by_cases a3:0<d
  ·go_wp2_with (first
    |(go_at_call 28;refine(qH b base wr h g k a f r l (K.below (jr i H I)) o (by omega) L).mono ?_;rintro e w1 ⟨bf,z0,bj,rfl,an,J,m⟩;have af:=j.kept m (acG j x);have a9:=m.size)
    |(at_builtin;refine fs rfl (.tmp 10) (.tmp 14) rfl w.heap.size _ c t rfl af (by omega) (by omega) [_] 1 rfl (by decide) (by decide) _ rfl rfl ?_;intro G F bd ak v))
   go_roundw
   case rel=>exact⟨d-1,c+1,_,a+1,an,by go_num,by have:=E.out;omega,ak,J.below v x,by omega,by omega,acH (AG i m) v⟩
   case measure=>simp[B6];omega
  ·obtain rfl:d=0:=by omega
   rcases j.2 with⟨rfl,a1⟩|⟨G,F,av,rfl,bb⟩
   ·have am:=qI;go_wp2;go_ret;exact⟨_,by simp,rfl,a,f,o,by omega,l,i⟩
   ·have am:=ir j;go_wp2;go_ret;exact⟨_,by rw[kF];have:=C.out;omega,rfl,a,f,o,by omega,l,i⟩
def Hw(n:Nat):Prop:=n=10\/n=20\/n=40\/n=80\/n=160\/n=320\/n=640\/n=1280\/n=2560\/n=5120
theorem xy{t:ByteArray}(a:Hw t.size)(b:t.size<4000):Hw (t++t).size:=by
 rw[ae];unfold Hw at *;omega
theorem Ez{n:Nat}(a:Hw n)(b:¬n<4000):4001<=n:=by unfold Hw at a;omega
theorem EA{n:Nat}(a:Hw n):n<=5120:=by unfold Hw at a;omega
theorem EB{n:Nat}(a:Hw n):10<=n:=by unfold Hw at a;omega
def acI:W->Nat| .string t=>t.size|_=>0
def eJ(c:Int):Bool:=decide (c=32\/c=9\/c=13)
def bc(c:Int):Bool:=decide ((97<=c/\c<=122)\/(65<=c/\c<=90)\/c=95)
def aL(c:Int):Bool:=decide (48<=c/\c<=57)
theorem AH(c:Int)(w:M):X N 38 #[T A0 c] w fun e f=>e= U (B2 (eJ c))/\w=f:=by
 rcases(show c=32\/c=9\/c=13\/(c≠32/\c≠9/\c≠13) by omega) with rfl|rfl|rfl|⟨a,b,d⟩
 ·go_in;go_wp2;go_ret;exact⟨rfl,rfl⟩
 ·go_in;go_wp2;go_ret;exact⟨rfl,rfl⟩
 ·go_in;go_wp2;go_ret;exact⟨rfl,rfl⟩
 ·have g:(c==32)=S:=by simp[a]
  have h:(c==9)=S:=by simp[b]
  have i:(c==13)=S:=by simp[d]
  have e:eJ c=S:=by simp[eJ,a,b,d]
  rw[e];clear e a b d;go_in;go_wp2;go_ret;exact⟨rfl,rfl⟩
theorem gh(c:Int)(w:M):X N 53 #[T A0 c] w fun e d=>e= U (B2 (aL c))/\w=d:=by
 rcases(show c<48\/57<c\/(48<=c/\c<=57) by omega) with h|h|⟨f,b⟩
 ·have e:aL c=S:=by simp[aL];omega
  rw[e];clear e;have a:¬48<=c:=by omega
  go_in;go_wp2;go_ret;exact⟨rfl,rfl⟩
 ·have e:aL c=S:=by simp[aL];omega
  rw[e];clear e;have a:¬c<=57:=by omega
  have b:48<=c:=by omega
  go_in;go_wp2;go_ret;exact⟨rfl,rfl⟩
 ·have e:aL c=B0:=by simp[aL];omega
  rw[e];clear e;go_in;go_wp2;go_ret;exact⟨rfl,rfl⟩
theorem jL(c:Int)(w:M):X N 48 #[T A0 c] w fun e j=>e= U (B2 (bc c))/\w=j:=by
 rcases(show(97<=c/\c<=122)\/(65<=c/\c<=90)\/c=95\/c<65\/(90<c/\c<97/\c≠95)\/122<c by omega) with⟨f,g⟩|⟨f,g⟩|rfl|h|⟨f,g,l⟩|h
 ·have e:bc c=B0:=by simp[bc];omega
  rw[e];clear e;go_in;go_wp2;go_ret;exact⟨rfl,rfl⟩
 ·have e:bc c=B0:=by simp[bc];omega
  rw[e];clear e;have a:¬97<=c:=by omega
  go_in;go_wp2;go_ret;exact⟨rfl,rfl⟩
 ·go_in;go_wp2;go_ret;exact⟨rfl,rfl⟩
 ·have e:bc c=S:=by simp[bc];omega
  rw[e];clear e;have a:¬97<=c:=by omega
  have b:¬65<=c:=by omega
  have d:(c==95)=S:=by simp;omega
  go_in;go_wp2;go_ret;exact⟨rfl,rfl⟩
 ·have e:bc c=S:=by simp[bc];omega
  rw[e];clear e;have a:¬97<=c:=by omega
  have b:65<=c:=by omega
  have i:¬c<=90:=by omega
  have d:(c==95)=S:=by simp;omega
  go_in;go_wp2;go_ret;exact⟨rfl,rfl⟩
 ·have e:bc c=S:=by simp[bc];omega
  rw[e];clear e;have a:97<=c:=by omega
  have b:¬c<=122:=by omega
  have i:65<=c:=by omega
  have k:¬c<=90:=by omega
  have d:(c==95)=S:=by simp;omega
  go_in;go_wp2;go_ret;exact⟨rfl,rfl⟩
def dE(c:Int):Int:=if 48<=c/\c<=57 then c-48 else if 97<=c/\c<=102 then c-87 else -1
theorem Hx:∀n:Fin 256,Lib.indexByte [48,49,50,51,52,53,54,55,56,57,97,98,99,100,101,102] (n.val.toUInt8)=dE (n.val:Int):=by decide+kernel
theorem aah(c:Int)(b:0<=c)(d:c<256):Lib.indexByte [48,49,50,51,52,53,54,55,56,57,97,98,99,100,101,102] c.toNat.toUInt8=dE c:=by
 have:=Hx ⟨c.toNat,by omega⟩;have a:((c.toNat:Nat):Int)=c:=by omega
 simp only[a]at this;exact this
theorem Hy(c:Int)(a:0<=c)(b:c<256)(w:M):X N 163 #[Q ⟨#[48,49,50,51,52,53,54,55,56,57,97,98,99,100,101,102]⟩,T A0 c] w fun e d=>e= U (T V (dE c))/\d=w:=by
 rw[<-aah c a b];go_in;go_wp2;rw[run_callFunc_extern Tryz.func170 (by kernel_rfl) (by kernel_rfl) (by kernel_rfl) (e:=Extern.BytealgIndexByte.indexByte) (by kernel_rfl),Lib.run_indexByteString];simp only[Result.andThen];rw[Oper.upon_value];go_wp2;go_ret;exact⟨rfl,rfl⟩
theorem oL(c:Int)(b:0<=c)(d:c<256)(w:M):X N 144 #[Q ⟨#[48,49,50,51,52,53,54,55,56,57,97,98,99,100,101,102]⟩,T A0 c] w fun e a=>e= U (T V (dE c))/\a=w:=by
 go_in;go_wp2_with (go_at_call 163;refine(Hy c b d _).mono ?_;rintro e a ⟨rfl,rfl⟩);go_ret;exact⟨rfl,rfl⟩
def ao(s:ByteArray)(i:Nat):Int:=if h:i<s.size then(s[i].toNat:Int) else -1
theorem fG{s:ByteArray}{i:Nat}(a:i<s.size):0<=ao s i/\ao s i<256:=by
 unfold ao;rw[jK a];have:=s[i].toNat_lt;omega
theorem ci{s:ByteArray}{i:Nat}(a:¬i<s.size):ao s i= -1:=by unfold ao;rw[dif_neg a]
theorem ch{s:ByteArray}{i:Nat}(a:i<s.size)(w:M):(B3 9 (Q s) (T V (i:Int))).run N w= .ok (T A0 (ao s i)) w:=by
 unfold ao;rw[jK a];go_simp
theorem qJ{s:ByteArray}{i:Nat}(b:i+1<s.size)(w:M):(B3 9 (Q s) (T V ((i:Int)+1))).run N w= .ok (T A0 (ao s (i+1))) w:=by
 have:=ch b w;have a:((i+1:Nat):Int)=(i:Int)+1:=by omega
 rw[a]at this;exact this
theorem jl(c:Int):dE c<16:=by unfold dE;split;omega;split<;>omega
theorem or4(a b:Int)(e:0<=a)(f:a<256)(g:a%16=0)(c:0<=b)(d:b<16):bits .or V a b=a+b:=
 bits_join V 8 (by decide) (fun h a b=>by rw[cB];omega) 4 a b e g f c d (by omega)
theorem or0(b:Int)(a:0<=b)(c:b<16):bits .or V 0 b=b:=by
 have:=or4 0 b (by omega) (by omega) (by omega) a c;rw[this];omega
def hexI(s:ByteArray)(p:Nat):Int×Nat×Bool:=
 if dE (ao s p)<0 then(0,p,S) else if dE (ao s (p+1))<0 then(0,p+1,S) else(dE (ao s p)*16+dE (ao s (p+1)),p+1+1,B0)
def Hz(r:Int×Nat×Bool):W:= B4 #[T A0 r.1,T V (r.2.1:Int),B2 r.2.2]
theorem AI(s:ByteArray)(z:s.size<=100000)(p:Nat)(l:p+1<s.size)(x y:Int)(f:dE (ao s p)=x)(g:dE (ao s (p+1))=y)(o:0<=x)(r:0<=y)(w:M):
  X N 113 #[Q s,T V p] w fun e h=>e= U (B4 #[T A0 (x*16+y),T V ((p:Int)+1+1),B2 B0])/\h=w:=by
 have q:x<16:=by rw[<-f];exact jl _
 have t:y<16:=by rw[<-g];exact jl _
 have m:=fun w=>ch (s:=s) (i:=p) (by omega) w;have n:=fun w=>qJ (s:=s) (i:=p) (by omega) w;have A:((p:Int)==(s.size:Int))=S:=by simp;omega
 have B:((p:Int)+1==(s.size:Int))=S:=by simp;omega
 have u:bits .or V 0 x=x:=or0 x o q;have v:bits .or V (x*16) y=x*16+y:=or4 (x*16) y (by omega) (by omega) (by omega) r t;have a:=fG (s:=s) (i:=p) (by omega);have b:=fG (s:=s) (i:=p+1) l;obtain⟨j,c⟩:=aD (ao s p);obtain⟨k,d⟩:=aD (ao s (p+1));rw[c]at f m a;rw[d]at g n b;clear c d;go_in;go_wp2_with fail;refine lD 3 ?_;rw[fD];go_wp2_with (go_at_call 144;refine(oL j a.1 a.2 _).mono ?_;rintro e h ⟨rfl,rfl⟩);rw[fD];go_wp2_with (go_at_call 144;refine(oL k b.1 b.2 _).mono ?_;rintro e C ⟨rfl,rfl⟩);rw[fD];go_wp2;go_ret3
 exact⟨rfl,rfl⟩
theorem wJ(s:ByteArray)(j:s.size<=100000)(p:Nat)(h:p<s.size)(x:Int)(f:dE (ao s p)=x)(l:x<0)(w:M):
  X N 113 #[Q s,T V p] w fun e c=>e= U (B4 #[T A0 0,T V (p:Int),B2 S])/\c=w:=by
 have g:=fun w=>ch (s:=s) (i:=p) (by omega) w;have k:((p:Int)==(s.size:Int))=S:=by simp;omega
 have a:=fG (s:=s) (i:=p) (by omega);obtain⟨d,b⟩:=aD (ao s p);rw[b]at f g a;clear b;go_in;go_wp2_with fail;refine lD 1 ?_;rw[fD];go_wp2_with (go_at_call 144;refine(oL d a.1 a.2 _).mono ?_;rintro e c ⟨rfl,rfl⟩);go_ret3
 exact⟨rfl,rfl⟩
theorem AJ(s:ByteArray)(c:s.size<=100000)(p:Nat)(a:p=s.size)(w:M):
  X N 113 #[Q s,T V p] w fun e b=>e= U (B4 #[T A0 0,T V (p:Int),B2 S])/\b=w:=by
 subst a;go_in;go_wp2_with fail;refine lD 1 ?_;rw[fD];go_wp2;go_ret3
 exact⟨rfl,rfl⟩
theorem uz(s:ByteArray)(t:s.size<=100000)(p:Nat)(k:p+1<s.size)(x y:Int)(f:dE (ao s p)=x)(l:dE (ao s (p+1))=y)(o:0<=x)(A:y<0)(w:M):
  X N 113 #[Q s,T V p] w fun e g=>e= U (B4 #[T A0 0,T V ((p:Int)+1),B2 S])/\g=w:=by
 have q:x<16:=by rw[<-f];exact jl _
 have m:=fun w=>ch (s:=s) (i:=p) (by omega) w;have n:=fun w=>qJ (s:=s) (i:=p) (by omega) w;have u:((p:Int)==(s.size:Int))=S:=by simp;omega
 have v:((p:Int)+1==(s.size:Int))=S:=by simp;omega
 have r:bits .or V 0 x=x:=or0 x o q;have a:=fG (s:=s) (i:=p) (by omega);have b:=fG (s:=s) (i:=p+1) k;obtain⟨h,c⟩:=aD (ao s p);obtain⟨j,d⟩:=aD (ao s (p+1));rw[c]at f m a;rw[d]at l n b;clear c d;go_in;go_wp2_with fail;refine lD 2 ?_;rw[fD];go_wp2_with (go_at_call 144;refine(oL h a.1 a.2 _).mono ?_;rintro e g ⟨rfl,rfl⟩);rw[fD];go_wp2_with (go_at_call 144;refine(oL j b.1 b.2 _).mono ?_;rintro e z ⟨rfl,rfl⟩);go_ret3
 exact⟨rfl,rfl⟩
theorem AK(s:ByteArray)(m:s.size<=100000)(p:Nat)(g:p+1=s.size)(x:Int)(c:dE (ao s p)=x)(j:0<=x)(w:M):
  X N 113 #[Q s,T V p] w fun e d=>e= U (B4 #[T A0 0,T V ((p:Int)+1),B2 S])/\d=w:=by
 have k:x<16:=by rw[<-c];exact jl _
 have h:=fun w=>ch (s:=s) (i:=p) (by omega) w;have n:((p:Int)==(s.size:Int))=S:=by simp;omega
 have o:((p:Int)+1==(s.size:Int))=B0:=by simp;omega
 have q:p<=100000:=by omega
 have l:bits .or V 0 x=x:=or0 x j k;have a:=fG (s:=s) (i:=p) (by omega);obtain⟨f,b⟩:=aD (ao s p);rw[b]at c h a;clear b g;go_in;go_wp2_with fail;refine lD 2 ?_;rw[fD];go_wp2_with (go_at_call 144;refine(oL f a.1 a.2 _).mono ?_;rintro e d ⟨rfl,rfl⟩);rw[fD];go_wp2;go_ret3
 exact⟨rfl,rfl⟩
theorem AL(s:ByteArray)(a:s.size<=100000)(p:Nat)(j:p<=s.size)(w:M):
  X N 113 #[Q s,T V p] w fun e h=>e= U (Hz (hexI s p))/\h=w:=by
 have g:dE (-1)= -1:=by decide
 unfold hexI Hz;by_cases f:p<s.size
 ·by_cases c:dE (ao s p)<0
  ·rw[ab c];exact wJ s a p f _ rfl c w
  ·rw[aa c];by_cases b:p+1<s.size
   ·by_cases d:dE (ao s (p+1))<0
    ·rw[ab d];exact uz s a p b _ _ rfl rfl (by omega) d w
    ·rw[aa d];exact AI s a p b _ _ rfl rfl (by omega) (by omega) w
   ·have e:=ci (s:=s) (i:=p+1) b;rw[ab (by rw[e,g];omega)];exact AK s a p (by omega) _ rfl (by omega) w
 ·have e:=ci (s:=s) (i:=p) f;rw[ab (by rw[e,g];omega)];exact AJ s a p (by omega) w
def ed(s:ByteArray)(p:Nat):Int×Nat×Bool:=
 if ao s p=110 then(10,p+1,B0) else if ao s p=116 then(9,p+1,B0) else if ao s p=34\/ao s p=92 then(ao s p,p+1,B0) else if ao s p=120 then hexI s (p+1) else(0,p,S)
theorem A1(s:ByteArray)(o:s.size<=100000)(p:Nat)(y:p<=s.size)(w:M):
  X N 82 #[Q s,T V p] w fun e l=>e= U (Hz (ed s p))/\l=w:=by
 by_cases n:p<s.size
 ·have q:=fun w=>ch (s:=s) (i:=p) (by omega) w;have z:((p:Int)==(s.size:Int))=S:=by simp;omega
  have x:=fG (s:=s) (i:=p) (by omega);have h:=AL s o (p+1) (by omega);have m:((p+1:Nat):Int)=(p:Int)+1:=by omega
  rw[m]at h;unfold ed;obtain⟨a,j⟩:=aD (ao s p);rw[j]at q x⊢;clear j;by_cases b:a=110
  ·subst b;go_in;go_wp2;go_ret3
   exact⟨rfl,rfl⟩
  rw[aa b];have r:(a==110)=S:=by simp[b]
  by_cases c:a=116
  ·subst c;go_in;go_wp2;go_ret3
   exact⟨rfl,rfl⟩
  rw[aa c];have t:(a==116)=S:=by simp[c]
  by_cases d:a=34
  ·subst d;go_in;go_wp2;go_ret3
   exact⟨rfl,rfl⟩
  have u:(a==34)=S:=by simp[d]
  by_cases f:a=92
  ·subst f;go_in;go_wp2;go_ret3
   exact⟨rfl,rfl⟩
  have v:(a==92)=S:=by simp[f]
  rw[aa (by omega)];by_cases g:a=120
  ·subst g;rw[ab rfl];clear b c d f r t u v;unfold Hz at h⊢;go_in;go_wp2_with (go_at_call 113;refine(h _).mono ?_;rintro e l ⟨rfl,rfl⟩);go_ret3
   exact⟨rfl,rfl⟩
  rw[aa g];have A:(a==120)=S:=by simp[g]
  clear b c d f g;go_in;go_wp2;go_ret3
  exact⟨rfl,rfl⟩
 ·have e:=ci (s:=s) (i:=p) n;have k:ed s p=(0,p,S):=by unfold ed;rw[e];simp
  rw[k];obtain rfl:p=s.size:=by omega
  clear e k;go_in;go_wp2;go_ret3
  exact⟨rfl,rfl⟩
theorem EC(s:ByteArray)(p:Nat)(h:p<=s.size):p<=(hexI s p).2.1/\(hexI s p).2.1<=s.size/\0<=(hexI s p).1/\(hexI s p).1<256:=by
 have b:dE (-1)= -1:=by decide
 have g:=jl (ao s p);have j:=jl (ao s (p+1));unfold hexI;split
 ·simp;omega
 ·rename_i c;have e:p<s.size:=by
   rcases be p s.size with h|h
   ·exact h
   ·have a:=ci (s:=s) (i:=p) (by omega);rw[a,b]at c;omega
  split
  ·simp;omega
  ·rename_i d;have f:p+1<s.size:=by
    rcases be (p+1) s.size with h|h
    ·exact h
    ·have a:=ci (s:=s) (i:=p+1) (by omega);rw[a,b]at d;omega
   simp;omega
theorem qK(s:ByteArray)(p:Nat)(c:p<=s.size):p<=(ed s p).2.1/\(ed s p).2.1<=s.size/\0<=(ed s p).1/\(ed s p).1<256:=by
 unfold ed;by_cases a:p<s.size
 ·have d:=fG a;split
  ·simp;omega
  split
  ·simp;omega
  split
  ·simp;omega
  split
  ·have:=EC s (p+1) (by omega);omega
  ·simp;omega
 ·have b:=ci (s:=s) (i:=p) a;rw[b];simp;omega
theorem qL(s:ByteArray)(p:Nat)(h:p<=s.size)(c:(ed s p).2.2=B0):p+1<=(ed s p).2.1:=by
 revert c;unfold ed;split
 ·simp
 split
 ·simp
 split
 ·simp
 split
 ·rename_i a;have d:p<s.size:=by
   rcases be p s.size with h|h
   ·exact h
   ·have b:=ci (s:=s) (i:=p) (by omega);rw[b]at a;omega
  intro _;exact(EC s (p+1) (by omega)).1
 ·simp
def eE(b:Nat)(w:M)(s:ByteArray)(m:W)(fr p l:Int)(k:Bool):Prop:=
 w.heap[b]?=R (.cells #[Q s,m,T V fr,T V p,T V l,B2 k] 41 (0,0))
def cA(b:Nat)(w:M)(k a t l n:Int)(x:ByteArray):Prop:=
 w.heap[b]?=R (.cells #[T V k,T V a,T V t,T V l,T V n,Q x] 29 (0,0))
theorem eB{b:Nat}{w:M}{s:ByteArray}{m:W}{fr p l:Int}{k:Bool}(a:eE b w s m fr p l k):
  w.cell? ⟨b,0,O⟩=R (Q s)/\w.cell? ⟨b,1,O⟩=R m/\w.cell? ⟨b,3,O⟩=R (T V p)/\w.cell? ⟨b,4,O⟩=R (T V l)/\w.cell? ⟨b,5,O⟩=R (B2 k)/\
  w.frozen? ⟨b,3,O⟩=S/\w.frozen? ⟨b,4,O⟩=S/\w.frozen? ⟨b,5,O⟩=S:=by
 unfold eE at a;exact⟨by rw[ay _ _ _ _ _ _ a];rfl,by rw[ay _ _ _ _ _ _ a];rfl,by rw[ay _ _ _ _ _ _ a];rfl,by rw[ay _ _ _ _ _ _ a];rfl,by rw[ay _ _ _ _ _ _ a];rfl,dp _ _ _ _ _ a,dp _ _ _ _ _ a,dp _ _ _ _ _ a⟩
theorem ED{b:Nat}{w:M}{s:ByteArray}{m:W}{fr p l:Int}{k:Bool}(a:eE b w s m fr p l k):w.cell? ⟨b,2,O⟩=R (T V fr)/\w.frozen? ⟨b,2,O⟩=S:=by
 unfold eE at a;exact⟨by rw[ay _ _ _ _ _ _ a];rfl,dp _ _ _ _ _ a⟩
theorem eE.setF{b:Nat}{w:M}{s:ByteArray}{m:W}{fr p l:Int}{k:Bool}(a:eE b w s m fr p l k)(x:Int):eE b (w.setCell ⟨b,2,O⟩ (T V x)) s m x p l k:=bK w b 2 _ _ _ a
theorem aE{b:Nat}{w:M}{k c t l n:Int}{x:ByteArray}(a:cA b w k c t l n x):
  w.cell? ⟨b,0,O⟩=R (T V k)/\w.cell? ⟨b,1,O⟩=R (T V c)/\w.cell? ⟨b,2,O⟩=R (T V t)/\w.cell? ⟨b,3,O⟩=R (T V l)/\w.cell? ⟨b,4,O⟩=R (T V n)/\w.cell? ⟨b,5,O⟩=R (Q x)/\
  (∀j,w.frozen? ⟨b,j,O⟩=S):=by
 unfold cA at a;exact⟨by rw[ay _ _ _ _ _ _ a];rfl,by rw[ay _ _ _ _ _ _ a];rfl,by rw[ay _ _ _ _ _ _ a];rfl,by rw[ay _ _ _ _ _ _ a];rfl,by rw[ay _ _ _ _ _ _ a];rfl,by rw[ay _ _ _ _ _ _ a];rfl,fun j=>dp _ _ _ _ _ a⟩
theorem eE.setP{b:Nat}{w:M}{s:ByteArray}{m:W}{fr p l:Int}{k:Bool}(a:eE b w s m fr p l k)(x:Int):eE b (w.setCell ⟨b,3,O⟩ (T V x)) s m fr x l k:=bK w b 3 _ _ _ a
theorem eE.setL{b:Nat}{w:M}{s:ByteArray}{m:W}{fr p l:Int}{k:Bool}(a:eE b w s m fr p l k)(x:Int):eE b (w.setCell ⟨b,4,O⟩ (T V x)) s m fr p x k:=bK w b 4 _ _ _ a
theorem eE.setK{b:Nat}{w:M}{s:ByteArray}{m:W}{fr p l:Int}{k:Bool}(a:eE b w s m fr p l k)(x:Bool):eE b (w.setCell ⟨b,5,O⟩ (B2 x)) s m fr p l x:=bK w b 5 _ _ _ a
theorem eE.other{b:Nat}{w:M}{s:ByteArray}{m:W}{fr p l:Int}{k:Bool}(c:eE b w s m fr p l k){a:Addr}(d:b≠a.block)(v:W):eE b (w.setCell a v) s m fr p l k:=(bC w a b v d).trans c
theorem eE.drewN{b:Nat}{w:M}{s:ByteArray}{m:W}{fr p l:Int}{k:Bool}(a:eE b w s m fr p l k)(n:Nat):eE b (w.drewN n) s m fr p l k:=a
theorem eE.below{a b:Nat}{w c:M}{s:ByteArray}{m:W}{fr p l:Int}{k:Bool}(d:eE b w s m fr p l k)(e:Ax a w c)(f:b<a):eE b c s m fr p l k:=(e.block b f).trans d
theorem cA.other{b:Nat}{w:M}{k c t l n:Int}{x:ByteArray}(d:cA b w k c t l n x){a:Addr}(e:b≠a.block)(v:W):cA b (w.setCell a v) k c t l n x:=(bC w a b v e).trans d
theorem cA.drewN{b:Nat}{w:M}{k a t l n:Int}{x:ByteArray}(c:cA b w k a t l n x)(q:Nat):cA b (w.drewN q) k a t l n x:=c
theorem cA.below{a b:Nat}{w d:M}{k c t l n:Int}{x:ByteArray}(e:cA b w k c t l n x)(f:Ax a w d)(g:b<a):cA b d k c t l n x:=(f.block b g).trans e
theorem cA.setKind{b:Nat}{w:M}{k a t l n:Int}{x:ByteArray}(c:cA b w k a t l n x)(y:Int):cA b (w.setCell ⟨b,0,O⟩ (T V y)) y a t l n x:=bK w b 0 _ _ _ c
theorem cA.setTo{b:Nat}{w:M}{k a t l n:Int}{x:ByteArray}(c:cA b w k a t l n x)(y:Int):cA b (w.setCell ⟨b,2,O⟩ (T V y)) k a y l n x:=bK w b 2 _ _ _ c
theorem cA.setNum{b:Nat}{w:M}{k a t l n:Int}{x:ByteArray}(c:cA b w k a t l n x)(y:Int):cA b (w.setCell ⟨b,4,O⟩ (T V y)) k a t l y x:=bK w b 4 _ _ _ c
theorem cA.setText{b:Nat}{w:M}{k a t l n:Int}{x:ByteArray}(c:cA b w k a t l n x)(y:ByteArray):cA b (w.setCell ⟨b,5,O⟩ (Q y)) k a t l n y:=bK w b 5 _ _ _ c
def bH(s:ByteArray):Nat->Nat->List Int->Bool×Nat×List Int
 |0,p,a=>(S,p,a)
 |f+1,p,a=>if s.size<=p then(S,p,a) else if ao s p=34 then(B0,p+1,a) else if ao s p=10 then(S,p,a) else if ao s p=92 then
   (if(ed s (p+1)).2.2=B0 then bH s f (ed s (p+1)).2.1 (a++[(ed s (p+1)).1]) else(S,(ed s (p+1)).2.1,a))
  else bH s f (p+1) (a++[ao s p])
theorem nK(s:ByteArray):∀(f p:Nat)(a:List Int),p<=s.size->p<=(bH s f p a).2.1/\(bH s f p a).2.1<=s.size/\(bH s f p a).2.2.length<=a.length+(s.size-p)
 |0,p,a,b=>by simp[bH];omega
 |f+1,p,a,b=>by
  unfold bH;split
  ·simp;omega
  split
  ·simp;omega
  split
  ·simp;omega
  split
  ·have e:=qK s (p+1) (by omega);split
   ·rename_i c;have d:=qL s (p+1) (by omega) c;have:=nK s f (ed s (p+1)).2.1 (a++[(ed s (p+1)).1]) e.2.1;simp at this⊢;omega
   ·simp;omega
  ·have:=nK s f (p+1) (a++[ao s p]) (by omega);simp at this⊢;omega
structure mI (b t:Nat) (w w':M):Prop where
 os:w'.os=w.os
 tape:w'.tape=w.tape
 output:w'.output=w.output
 size:w.heap.size<=w'.heap.size
 block:∀k,k<w.heap.size->k≠b->k≠t->w'.heap[k]?=w.heap[k]?
theorem mI.refl(b t:Nat)(w:M):mI b t w w:=⟨rfl,rfl,rfl,ag _,fun _ _ _ _=>rfl⟩
theorem mI.trans{b t:Nat}{x y z:M}(a:mI b t x y)(k:mI b t y z):mI b t x z:=
 ⟨k.os.trans a.os,k.tape.trans a.tape,k.output.trans a.output,bA a.size k.size,fun f e c d=>(k.block f (eI e a.size) c d).trans (a.block f e c d)⟩
theorem mI.drewN{b t:Nat}{x y:M}(a:mI b t x y)(n:Nat):mI b t x (y.drewN n):=⟨a.os,a.tape,a.output,a.size,a.block⟩
theorem mI.drew{b t:Nat}{x y:M}(a:mI b t x y):mI b t x y.drew:=⟨a.os,a.tape,a.output,a.size,a.block⟩
theorem mI.setB{b t:Nat}{x y:M}(a:mI b t x y)(i:Nat)(v:W):mI b t x (y.setCell ⟨b,i,O⟩ v):=
 ⟨a.os,a.tape,a.output,by simpa [A2] using a.size,fun f e c d=>by rw[bC _ _ _ _ c];exact a.block f e c d⟩
theorem mI.setT{b t:Nat}{x y:M}(a:mI b t x y)(i:Nat)(v:W):mI b t x (y.setCell ⟨t,i,O⟩ v):=
 ⟨a.os,a.tape,a.output,by simpa [A2] using a.size,fun f e d c=>by rw[bC _ _ _ _ c];exact a.block f e d c⟩
theorem mI.below{b t:Nat}{x y z:M}(a:mI b t x y)(k:Ax x.heap.size y z):mI b t x z:=
 ⟨k.os.trans a.os,k.tape.trans a.tape,k.output.trans a.output,bA a.size k.size,fun d c e f=>(k.block d c).trans (a.block d c e f)⟩
theorem EE{g:Array Oper}{h:List Oper}{c:Oper}{a:Act}{d:Exit->Act->M->Prop}{w:M}(p:c.guard=O)(s x:Operand)
  (y:c.op= .call {callee:= .builtin .append,args:=#[s,x],argTypes:=#[22,22]}) (base:Nat) (v:W) (n:Nat) (l:List Int) (A:a.eval s=v)
  (z:w.ownsRow base 5 1 v n (B8 l)) (k:base<=w.heap.size) (u:n<=100000) (b:List Int) (m:Nat) (q:b.length=m) (r:0<m) (t:m<=100) (cs:Array W) (o:cs.toList=B8 b)
  (H:Nat) (B:a.eval x= Y (R ⟨H,0,O⟩) m m) (j:w.heap.size=H)
  (i:∀f e w1,w1.ownsRow base 5 1 (Y (R ⟨f,0,O⟩) (n+m) e) (n+m) (B8 (l++b))->Ax base w w1->wpList N g d h (a.put c.dst (Y (R ⟨f,0,O⟩) (n+m) e)) w1):
  wpList N g d (c::h) a (w.alloc (.cells cs 5)):=by
 subst j;exact fs p s x y base v n l A z k u b m q r t cs o B i
theorem mz(w:M)(n:Nat)(a:Addr)(v:W):((w.drewN n).setCell a v).heap.size=w.heap.size:=by simp[A2,World.drewN]
theorem agi{w:M}{base e size:Nat}{v:W}{n:Nat}{c:List W}{b:Nat}(f:w.ownsRow base e size v n c)(d:b<base)(q r:Nat)(x y:W):((((w.drewN q).setCell ⟨b,3,O⟩ x).drewN r).setCell ⟨b,3,O⟩ y).ownsRow base e size v n c:=by
 have g:((w.drewN q).setCell ⟨b,3,O⟩ x).ownsRow base e size v n c:=gq (w:=w.drewN q) (a:=⟨b,3,O⟩) f d x;exact gq (w:=((w.drewN q).setCell ⟨b,3,O⟩ x).drewN r) (a:=⟨b,3,O⟩) g d y
def xz(b:Nat)(w:M):Nat:=match w.cell? ⟨b,3,O⟩ with|some (.int _ a)=>a.toNat|_=>0
theorem nL{fr:Int}{b:Nat}{w:M}{s:ByteArray}{m:W}{p:Nat}{l:Int}{k:Bool}(a:eE b w s m fr p l k):xz b w=p:=by
 unfold xz;rw[(eB a).2.2.1];simp
def iG(b t:Nat)(c:M)(s:ByteArray)(m:W)(fr:Int)(l d e:Int)(a:Bool×Nat×List Int):Prop:=
 if a.1=B0 then eE b c s m fr a.2.1 l S/\cA t c 4 d 0 e 0 (co a.2.2) else eE b c s m fr a.2.1 l B0/\cA t c 0 d 0 e 0 Z
theorem iG.yes{fr:Int}{b t:Nat}{c:M}{s:ByteArray}{m:W}{l e f:Int}{d:Bool×Nat×List Int}{p:Nat}{a:List Int}(g:(B0,p,a)=d)(h:eE b c s m fr p l S)(i:cA t c 4 e 0 f 0 (co a)):iG b t c s m fr l e f d:=by
 subst g;unfold iG;rw[ab rfl];exact⟨h,i⟩
theorem iG.no{fr:Int}{b t:Nat}{c:M}{s:ByteArray}{m:W}{l e f:Int}{d:Bool×Nat×List Int}{p:Nat}{a:List Int}(g:(S,p,a)=d)(h:eE b c s m fr p l B0)(i:cA t c 0 e 0 f 0 Z):iG b t c s m fr l e f d:=by
 subst g;unfold iG;rw[aa (by simp)];exact⟨h,i⟩
theorem EF(p:Nat):((p+1:Nat):Int)=(p:Int)+1:=by omega
theorem uA{fr:Int}(s:ByteArray)(b0:s.size<=70000)(b t:Nat)(w:M)(m:W)(p:Nat)(l E I:Int)(b2:p<s.size)(f:b≠t)(hS:eE b w s m fr p l S)(a1:cA t w 0 E 0 I 0 Z):
  X N 64 #[B1 (R ⟨b,0,O⟩),B1 (R ⟨t,0,O⟩)] w fun e a8=>e= U (B4 #[])/\mI b t w a8/\
   iG b t a8 s m fr l E I (bH s (s.size+1) (p+1) []):=by
 obtain⟨bj,G⟩:=aD (bH s (s.size+1) (p+1) []);rw[G];have bf:=ar G;clear G;have x:b<w.heap.size:=au hS;have a7:t<w.heap.size:=au a1;obtain⟨K,L,af,ak,al,an,ap,av⟩:=eB hS;go_in;go_wp2_with fail;go_loopw [4] (fun bt wr=>∃(d r k:Nat) (i:List Int),eE b wr s m fr d l S/\cA t wr 0 E 0 I 0 Z/\wr.ownsRow w.heap.size 5 1 bt r (B8 i)/\s.size<d+k/\d<=s.size/\r<=d/\Hid (bH s k d i=bj)/\mI b t w wr) (fun _ wr=>s.size-xz b wr)
 case atStart=>exact⟨p+1,0,s.size+1,[],hS.setP _,a1.other (de f) _,dB _ _ _ _,by omega,by omega,by omega,bf,(mI.refl b t w).setB _ _⟩
 case round=>
  obtain⟨d,r,k,i,h,n,y,bE,b3,b1,J,o⟩:=hrel;clear K L af ak al an ap av;obtain⟨K,L,af,ak,al,an,ap,av⟩:=eB h;obtain⟨b8,b9,ca,cb,cc,ce,cf⟩:=aE n;have a6:=o.size;obtain⟨k,rfl⟩:∃z,k=z+1:=⟨k-1,by omega⟩;by_cases a5:d<s.size
  ·have bp:=fG a5;have bn:=fun w=>ch a5 w;have c:=J.out;unfold bH at c;rw[aa (by omega)]at c;obtain⟨j,a4⟩:=aD (ao s d);rw[a4]at bp bn c;clear a4;by_cases A:j=34
   ·subst A;rw[ab rfl]at c;have g:=ar c;clear c;rcases y.2 with⟨rfl,bl⟩|⟨z,am,bw,rfl,b7⟩
    ·have a2:i=[]:=by have:=oI y;rw[bl]at this;exact jd this
     have bd:=ar a2;clear a2;have bo:=qI;go_wp2_with fail;go_quiet (fail)
     go_wp2_with fail;go_quiet (fail)
     go_wp2;refine bg (fE rfl _ _ _) rfl ?_;refine⟨rfl,(((o.drewN _).setB _ _).setT _ _).setT _ _,iG.yes g.out (by rw[EF];exact(((h.drewN _).setP _).other f _).other f _) ?_⟩;rw[bd.out];exact(((n.drewN _).other (de f) _).setKind _).setText _
    ·have bo:=fun bs=>ir (gq (w:=wr.drewN bs) (a:=⟨b,3,O⟩) y x (T V ((d:Int)+1)));go_wp2_with fail;go_quiet (fail)
     go_wp2_with fail;go_quiet (fail)
     go_wp2;refine bg (fE rfl _ _ _) rfl ?_;exact⟨rfl,(((o.drewN _).setB _ _).setT _ _).setT _ _,iG.yes g.out (by rw[EF];exact(((h.drewN _).setP _).other f _).other f _) ((((n.drewN _).other (de f) _).setKind _).setText _)⟩
   rw[aa A]at c;have b4:(j==34)=S:=by simp[A]
   by_cases B:j=10
   ·subst B;rw[ab rfl]at c;have g:=ar c;clear c;go_wp2_with fail;go_quiet (fail)
    go_wp2_with fail;go_quiet (fail)
    go_wp2;refine bg (fE rfl _ _ _) rfl ?_;exact⟨rfl,(o.drewN _).setB _ _,iG.no g.out ((h.drewN _).setK _) ((n.drewN _).other (de f) _)⟩
   rw[aa B]at c;have b5:(j==10)=S:=by simp[B]
   by_cases F:j=92
   ·subst F;rw[ab rfl]at c;have u:=A1 s (by omega) (d+1) (by omega);have a3:=qK s (d+1) (by omega);have C:=qL s (d+1) (by omega);rw[EF]at u;obtain⟨bb,a0⟩:=aD (ed s (d+1));rw[a0]at u a3 C c;clear a0 A B;obtain⟨a9,e,br⟩:=bb;simp only at a3 C c;unfold Hz at u;simp only at u;cases br
    ·rw[aa (by simp)]at c;have g:=ar c;clear c;go_wp2_with fail;go_quiet (fail)
     go_wp2_with fail;go_quiet (fail)
     go_wp2_with fail;go_quiet ((go_at_call 82;exact Calls.quiet_of_same (u _)))
     go_wp2;refine bg (fE rfl _ _ _) rfl ?_;exact⟨rfl,(((((o.drewN _).setB _ _).drewN _).setB _ _).setB _ _),iG.no g.out (((((h.drewN _).setP _).drewN _).setP _).setK _) (((((n.drewN _).other (de f) _).drewN _).other (de f) _).other (de f) _)⟩
    ·rw[ab rfl]at c;have bx:=C rfl;have g:=ar c;clear c C;go_wp2_with fail;go_quiet (fail)
     go_wp2_with fail;go_quiet (fail)
     go_wp2_with fail;go_quiet ((go_at_call 82;exact Calls.quiet_of_same (u _)))
     go_wp2_with (at_builtin;refine EE rfl (.tmp 100) (.tmp 102) rfl w.heap.size _ r i rfl (agi y x _ _ _ _) (by rw[mz,mz];exact a6) (by omega) [a9] 1 rfl (by decide) (by decide) _ rfl wr.heap.size rfl (by rw[mz,mz]) ?_;intro z am w1 H q);have v:eE b w1 s m fr (e:Int) l S:=((((h.drewN _).setP _).drewN _).setP _).below q x;go_roundw
     case rel=>exact⟨e,r+1,k,i++[a9],v,((((n.drewN _).other (de f) _).drewN _).other (de f) _).below q a7,H,by omega,by omega,by omega,g,((((o.drewN _).setB _ _).drewN _).setB _ _).below q⟩
     case measure=>rw[nL v,nL h];omega
   rw[aa F]at c;have b6:(j==92)=S:=by simp[F]
   have g:=ar c;clear c;go_wp2_with fail;go_quiet (fail)
   go_wp2_with fail;go_quiet (fail)
   go_wp2_with (at_builtin;refine EE rfl (.tmp 43) (.tmp 45) rfl w.heap.size _ r i rfl (gq (a:=⟨b,3,O⟩) (w:=wr.drewN _) y x _) (by rw[mz];exact a6) (by omega) [j] 1 rfl (by decide) (by decide) _ rfl wr.heap.size rfl (mz _ _ _ _) ?_;intro z am w1 H q);have v:eE b w1 s m fr ((d+1:Nat):Int) l S:=by rw[EF];exact((h.drewN _).setP _).below q x
   go_roundw
   case rel=>exact⟨d+1,r+1,k,i++[j],v,((n.drewN _).other (de f) _).below q a7,H,by omega,by omega,by omega,g,((o.drewN _).setB _ _).below q⟩
   case measure=>rw[nL v,nL h];omega
  ·have c:=J.out;unfold bH at c;rw[ab (by omega)]at c;have g:=ar c;clear c;obtain rfl:d=s.size:=by omega
   go_wp2_with fail;go_quiet (fail)
   go_wp2;go_end0
   exact⟨rfl,(o.drewN _).setB _ _,iG.no g.out ((h.drewN _).setK _) ((n.drewN _).other (de f) _)⟩
theorem pJ{w x:M}{b:Nat}{a:Addr}(c:w.grownBy x (R b))(v:W)(g:w.heap.size<=a.block):w.grownBy (x.setCell a v) (R b):=
 ⟨c.os,c.tape,c.output,by simpa [A2] using c.size,fun f d e=>by rw[bC _ _ _ _ (by omega)];exact c.block f d e⟩
theorem acJ{w x y:M}{b t:Nat}(a:Ax w.heap.size w x)(k:mI b t x y)(g:w.heap.size<=t):w.grownBy y (R b):=
 ⟨k.os.trans a.os,k.tape.trans a.tape,k.output.trans a.output,bA a.size k.size,fun d c f=>(k.block d (eI c a.size) (fun e=>f (by rw[e])) (by omega)).trans (a.block d c)⟩
open Go.Maps Go.WideMaps
def cK:Array W:=#[Q ⟨#[97,110,100]⟩,Q ⟨#[98,114,101,97,107]⟩,Q ⟨#[99,97,116,99,104]⟩,Q ⟨#[99,111,110,115,116]⟩,Q ⟨#[100,101,102,101,114]⟩,Q ⟨#[101,108,105,102]⟩,Q ⟨#[101,108,115,101]⟩,Q ⟨#[102,97,108,115,101]⟩,Q ⟨#[102,110]⟩,Q ⟨#[102,111,114]⟩,Q ⟨#[105,102]⟩,Q ⟨#[105,110]⟩,Q ⟨#[108,101,116]⟩,Q ⟨#[110,101,120,116]⟩,Q ⟨#[110,105,108]⟩,Q ⟨#[110,111,116]⟩,Q ⟨#[111,114]⟩,Q ⟨#[114,101,116,117,114,110]⟩,Q ⟨#[116,104,114,111,119]⟩,Q ⟨#[116,114,117,101]⟩,Q ⟨#[116,114,121]⟩,Q ⟨#[119,104,105,108,101]⟩]
def ib(k:Nat):ByteArray:=match cK[k]? with|some (.string a)=>a|_=>Z
theorem agj(k:Nat)(a:k<22)(w:M):(B3 55 (.agg cK) (T V (k:Int))).run N w= .ok (Q (ib k)) w:=by
 rcases(show k=0\/k=1\/k=2\/k=3\/k=4\/k=5\/k=6\/k=7\/k=8\/k=9\/k=10\/k=11\/k=12\/k=13\/k=14\/k=15\/k=16\/k=17\/k=18\/k=19\/k=20\/k=21 by omega) with rfl|rfl|rfl|rfl|rfl|rfl|rfl|rfl|rfl|rfl|rfl|rfl|rfl|rfl|rfl|rfl|rfl|rfl|rfl|rfl|rfl|rfl;all_goals kernel_rfl
theorem A3:∀k:Fin 22,(ib k.val).size<=100:=by decide
def wkD{H:Type}:Nat->DataW H
 |0=> .map []
 |k+1=>(wkD k).put (.string (ib k).data.toList) (.lit (.int .i64 (10+(k:Int))))
theorem aai:Keyed N 9:=string_keyed Tryz.underlying9
theorem pA{H:Type}(w:M)(fr:Nat×Nat)(f:TypeId)(g:w.heap[0]?=R (.cells cK f fr)):
  X N 13 #[] w fun e i=>e= .returned (.map (R w.heap.size))/\i.ownsMap N 9 (plainElem (H:=H) N 3) w.heap.size 22 (wkD 22)/\Ax w.heap.size w i:=by
 have b:0<w.heap.size:=au g;have r:∀w:M,(Instr.makeMap 38 (R (.int .i64 22))).run N w= .ok (.map (R w.heap.size)) (w.alloc (.map #[] 0)):=fun w=>by kernel_rfl
 have j:(w.alloc (.map #[] 0)).heap[0]?=R (.cells cK f fr):=(cg w _ _ b).trans g;go_in;go_wp2_with (refine yH rfl 55 _ rfl 0 rfl f _ fr _ j Tryz.underlying55 rfl (by kernel_rfl) ?_);go_loopw [6] (fun d wr=>∃a:Nat,a<=22/\d= .int .i64 a/\wr.ownsMap N 9 (plainElem (H:=H) N 3) w.heap.size a (wkD a)/\Ax w.heap.size w wr) (fun d _=>22-(B6 d).toNat)
 case atStart=>exact⟨0,by omega,rfl,World.ownsMap_made _ _ _ _,(aq _ _).alloc (ag _) _⟩
 case round=>
  obtain⟨a,q,rfl,h,c⟩:=hrel;by_cases b:a<22
  ·have p:=fun w=>agj a b w;have s:(ib a).size<=100:=A3 ⟨a,b⟩;have m:keyOf N 9 (.string (ib a))=R (.string (ib a).data.toList):=keyOf_string_mk Tryz.underlying9 (by unfold B5;omega);have o:Hid (wkD (H:=H) (a+1)=(wkD a).put (.string (ib a).data.toList) (.lit (.int .i64 (10+(a:Int))))):=rfl;go_wp2_with (at_mapUpdate;refine wpList_mapUpdate_own _ rfl _ _ _ 38 rfl 9 3 aai Tryz.underlying38 _ w.heap.size a _ rfl h (by unfold B5;omega) _ _ _ rfl rfl m _ [] (plainElem_int Tryz.underlying3 (WalkArith.wf_i64 (by omega))) ?_;intro w1 n k);go_roundw
   case rel=>exact⟨a+1,by omega,by go_num,by rw[o.out];exact n,c.grown k c.size (fun t l=>by cases l;exact ag _)⟩
   case measure=>simp[B6];omega
  ·obtain rfl:a=22:=by omega
   go_wp2;go_ret;exact⟨rfl,h,c⟩
