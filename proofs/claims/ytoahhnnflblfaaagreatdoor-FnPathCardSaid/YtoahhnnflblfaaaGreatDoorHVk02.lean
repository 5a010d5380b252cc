import Derived.Test.YtoahhnnflblfaaaGreatDoorHVk01
import Derived.Test.YtoahhnnflblfaaaGreatDoorProg
import Derived.WalkSpells
import Derived.Deep.RegionHeld3
import Derived.Deep.AppendLies
set_option linter.all false
set_option maxHeartbeats 3200000
open Go.Proofs.Tryz renaming prog->M
open Go.World renaming news_of_block->N
open Go renaming World->O,Value->U,maxLen->V
open Option renaming none->Q,some->S
open Go.Value renaming string->R,int->T,int->W
namespace Go.Proofs.YtoahhnnflblfaaaGreatDoor
open Go.RowKit
theorem Tryz.info5:(Tryz.prog.info? 5).map (fun i=>(i.zero,i.size,i.bytes))=S (S (T .u8 0),1,1):=by kernel_rfl
def B8(l:List Int):List U:=l.map (W .u8)
theorem acq(a b:List Int):B8 (a++b)=B8 a++B8 b:=by simp[B8]
theorem acr(a:List Int):(B8 a).length=a.length:=by simp[B8]
theorem zj{w:O}{base n:Nat}{v:U}{l:List Int}(h:w.ownsRow base 5 1 v n (B8 l)):l.length=n:=by
 have:=h.1;simpa [B8] using this
theorem mu{f:Array Oper}{i:List Oper}{o:Oper}{a:Act}{c:Exit->Act->O->Prop}{w:O}(p:o.guard=Q)(s x:Operand)
  (z:o.op= .call {callee:= .builtin .append,args:=#[s,x],argTypes:=#[22,22]}) (base:Nat) (v:U) (n:Nat) (l:List Int) (B:a.eval s=v)
  (d:w.ownsRow base 5 1 v n (B8 l)) (j:base<=w.heap.size) (K:n<=100000) (b:List Int) (m:Nat) (u:b.length=m) (y:0<m) (J:m<=100) (cs:Array U) (k:cs.toList=B8 b)
  (C:a.eval x= .slice (S ⟨w.heap.size,0,Q⟩) m m)
  (h:∀g cap w1,w1.ownsRow base 5 1 (.slice (S ⟨g,0,Q⟩) (n+m) cap) (n+m) (B8 (l++b))->Below base w w1->wpList M f c i (a.put o.dst (.slice (S ⟨g,0,Q⟩) (n+m) cap)) w1):
  wpList M f c (o::i) a (w.alloc (.cells cs 5)):=by
 obtain⟨H,r,E,F,G⟩:=fl Tryz.info5;refine wpList_append_lies _ p s x 22 z base 5 H (.int .u8 0) 1 1 Tryz.underlying22 r E F G rfl (by decide) v n (B8 l) B (d.alloc _) ⟨w.heap.size,0,Q⟩ m m (B8 b) C (by simp[B8,u])
  (by rw[<-k];exact N (fr:=(0,0)) (ar w _)) (by intro af e;simp[B8]at e;obtain⟨L,_,rfl⟩:=e;rfl) y (by unfold V;omega) (by omega) (by simp;omega) (w.heap.size+1) (by simp) ?_
 intro g cap w1 A q _ _;refine h g cap w1 (by rw[acq];exact A) (((ai base w).alloc j _).grown q (by simp;omega) (fun I t=>(d.lt I t).1))
def qj(d:Int):Int:=if d<10 then 48+d else 87+d
def esc(c:Int):List Int:=if c=10 then [92,110] else if c=9 then [92,116] else if c=34\/c=92 then [92,c] else if c<32\/126<c then [92,120,qj (c / 16),qj (c%16)] else [c]
def DG:ByteArray:=⟨#[48,49,50,51,52,53,54,55,56,57,97,98,99,100,101,102]⟩
theorem ajo:∀i:Fin 16,((DG[i.val]'(by have:=i.isLt;exact this)).toNat:Int)=qj (i.val:Int):=by decide
theorem aiD(d:Int)(b:0<=d)(c:d<16)(h:d.toNat<DG.size):((DG[d.toNat]'h).toNat:Int)=qj d:=by
 have:=ajo ⟨d.toNat,by omega⟩;have a:((d.toNat:Nat):Int)=d:=by omega
 simp only[a]at this;exact this
theorem acs(d:Int)(b:0<=d)(c:d<16)(w:O):(Instr.index 9 (R ⟨#[48,49,50,51,52,53,54,55,56,57,97,98,99,100,101,102]⟩) (T .u8 d)).run M w= .ok (T .u8 (qj d)) w:=by
 have a:d.toNat<DG.size:=by simp only[DG];show d.toNat<16;omega
 have e:=aiD d b c a;go_simp;exact e
theorem anq(c:Int)(a:0<=c)(b:c<256):bits .and .u8 c 15=c%16:=by
 have:=bits_mask .u8 8 (by decide) wraps_u8 4 (by decide) c a b;simpa using this
theorem Ks{J:Array Oper}{o:Oper}{a:Act}{c:Act->O->Prop}{f:Exit->Act->O->Prop}{E:Prop}{w:O}(k:o.guard=Q)(s x:Operand)
  (y:o.op= .call {callee:= .builtin .append,args:=#[s,x],argTypes:=#[22,22]}) (base:Nat) (v:U) (n:Nat) (l:List Int) (A:a.eval s=v)
  (d:w.ownsRow base 5 1 v n (B8 l)) (i:base<=w.heap.size) (L:n<=100000) (b:List Int) (m:Nat) (t:b.length=m) (u:0<m) (K:m<=100) (cs:Array U) (j:cs.toList=B8 b)
  (B:a.eval x= .slice (S ⟨w.heap.size,0,Q⟩) m m)
  (h:∀g cap w1,w1.ownsRow base 5 1 (.slice (S ⟨g,0,Q⟩) (n+m) cap) (n+m) (B8 (l++b))->Below base w w1->c (a.put o.dst (.slice (S ⟨g,0,Q⟩) (n+m) cap)) w1):
  if Region.wanted o (yielded J a.tmps)=true then Oper.wp M o a (w.alloc (.cells cs 5)).drew c f else E:=by
 obtain⟨H,q,C,F,G⟩:=fl Tryz.info5;refine step_append_lies _ k s x 22 y base 5 H (.int .u8 0) 1 1 Tryz.underlying22 q C F G rfl (by decide) v n (B8 l) A ((d.alloc _).drew) ⟨w.heap.size,0,Q⟩ m m (B8 b) B (by simp[B8,t])
  (by rw[<-j];exact N (fr:=(0,0)) (ar w _)) (by intro ak e;simp[B8]at e;obtain⟨af,_,rfl⟩:=e;rfl) u (by unfold V;omega) (by omega) (by simp;omega) (w.heap.size+1) (by simp) ?_
 intro g cap w1 z p _ _;refine h g cap w1 (by rw[acq];exact z) ((((ai base w).alloc i _).drew).grown p (by simp;omega) (fun I r=>(d.lt I r).1))
def fa(l:List Int):ByteArray:=l.foldl (fun b a=>b.push (UInt8.ofNat a.toNat)) ByteArray.empty
theorem pd{w:O}{base g n cap:Nat}{l:List Int}(b:w.ownsRow base 5 1 (.slice (S ⟨g,0,Q⟩) n cap) n (B8 l)):
  (convert 22 9 (.slice (S ⟨g,0,Q⟩) n cap)).run M w= .ok (.string (fa l)) w:=by
 rw[Kr w 22 9 5 _ _ _ Tryz.underlying22 Tryz.underlying5 Tryz.underlying9];have e:=zj b;refine run_bytesToString w _ n cap l ?_;rcases b.2 with⟨c,_⟩|⟨o,k,m,h,_,d,_,_,p,f⟩
 ·cases c
 ·cases h;have:=run_loadCells_list (P:=M) w ⟨g,0,Q⟩ (B8 l) (fun i j a=>by
   refine N d i j ?_;rw[<-f]at a;rw[mF]at a;split at a
   ·exact a
   ·cases a)
  rw[acr,e]at this;exact this
theorem wG(w:O)(c:Int):(w.alloc (.cells #[T .u8 c] 5)).ownsRow w.heap.size 5 1 (.slice (S ⟨w.heap.size,0,Q⟩) 1 1) 1 (B8 [c]):=
 ⟨rfl,.inr ⟨w.heap.size,1,#[T .u8 c],rfl,ag _,ar w _,ag _,by unfold V;omega,rfl,rfl⟩⟩
theorem agt(c:Int):(esc c).length<=4:=by
 unfold esc;split
 ·decide
 split
 ·decide
 split
 ·simp
 split<;>simp
def qt(s:ByteArray)(k:Nat):List Int:=34::(s.data.toList.take k).flatMap fun a=>esc (a.toNat:Int)
theorem Ku(s:ByteArray):qt s 0=[34]:=rfl
theorem sJ(s:ByteArray)(k:Nat)(h:k<s.size):qt s (k+1)=qt s k++esc (s[k].toNat:Int):=by
 unfold qt;rw[List.take_succ_eq_append_getElem (by simpa using h)];simp only[Kl,yL,List.flatMap_nil,fj,fy];rfl
theorem D9(s:ByteArray):∀k,k<=s.size->(qt s k).length<=1+4*k
 |0,_=>by simp[qt]
 |k+1,h=>by
  have:=D9 s k (by omega);have a:=agt (s[k].toNat:Int);rw[sJ s k (by omega),aF];omega
def dF(s:ByteArray):List Int:=qt s s.size++[34]
theorem Ip(s:ByteArray)(ao:s.size<=4100)(w:O):
  Calls M 149 #[R s] w fun e t=>e= .returned (R (fa (dF s)))/\Below w.heap.size w t:=by
 go_in;go_wp2_with fail;go_loopw [4,5] (fun A r wr=>∃b g:Nat,b<=s.size/\r= T .i64 b/\wr.ownsRow w.heap.size 5 1 A g (B8 (qt s b))/\Below w.heap.size w wr) (fun _ r _=>s.size-(intOf r).toNat)
 case atStart=>exact⟨0,1,aG _,rfl,wG w 34,(ai _ _).alloc (ag _) _⟩
 case round=>
  obtain⟨b,g,u,rfl,h,c⟩:=hrel;have x:=zj h;have z:=D9 s b u;have an:g<=20000:=by omega
  clear x z;by_cases y:b<s.size
  ·have i:Hid (qt s (b+1)=qt s b++esc (s[b].toNat:Int)):=sJ s b y;obtain⟨a,q⟩:∃a:Int,a=(s[b].toNat:Int):=⟨_,rfl⟩;have ak:0<=a:=by omega
   have al:a<256:=by have:=s[b].toNat_lt;omega
   rw[<-q]at i;have am:∀w,(Instr.index 9 (R s) (T .i64 (b:Int))).run M w= .ok (T .u8 a) w:=by
    intro w;rw[q];go_simp
   clear q;by_cases k:a=10
   ·subst k;go_wp2_with (at_builtin;refine mu rfl (.tmp 24) (.tmp 25) rfl w.heap.size _ g (qt s b) rfl h c.size (by omega) [92,110] 2 rfl (by decide) (by decide) _ rfl rfl ?_;intro m j w1 f d);go_roundw
    case rel=>exact⟨b+1,_,by omega,by go_num,by rw[i.out];exact f,c.trans d⟩
    case measure=>simp[intOf];omega
   have I:(a==10)=false:=by simp[k]
   by_cases l:a=9
   ·subst l;go_wp2_with (at_builtin;refine mu rfl (.tmp 30) (.tmp 31) rfl w.heap.size _ g (qt s b) rfl h c.size (by omega) [92,116] 2 rfl (by decide) (by decide) _ rfl rfl ?_;intro m j w1 f d);go_roundw
    case rel=>exact⟨b+1,_,by omega,by go_num,by rw[i.out];exact f,c.trans d⟩
    case measure=>simp[intOf];omega
   have J:(a==9)=false:=by simp[l]
   by_cases n:a=34
   ·subst n;go_wp2_with (at_builtin;refine mu rfl (.tmp 40) (.tmp 42) rfl w.heap.size _ g (qt s b) rfl h c.size (by omega) [92,34] 2 rfl (by decide) (by decide) _ rfl rfl ?_;intro m j w1 f d);go_roundw
    case rel=>exact⟨b+1,_,by omega,by go_num,by rw[i.out];exact f,c.trans d⟩
    case measure=>simp[intOf];omega
   have K:(a==34)=false:=by simp[n]
   by_cases o:a=92
   ·subst o;go_wp2_with (at_builtin;refine mu rfl (.tmp 40) (.tmp 42) rfl w.heap.size _ g (qt s b) rfl h c.size (by omega) [92,92] 2 rfl (by decide) (by decide) _ rfl rfl ?_;intro m j w1 f d);go_roundw
    case rel=>exact⟨b+1,_,by omega,by go_num,by rw[i.out];exact f,c.trans d⟩
    case measure=>simp[intOf];omega
   have L:(a==92)=false:=by simp[o]
   by_cases e5:a<32\/126<a
   ·have p:Hid (esc a=[92,120,qj (a / 16),qj (a%16)]):=by unfold esc Hid;rw[aa k,aa l,aa (by omega),ab e5]
    clear k l n o;have ap:=acs (a / 16) (by omega) (by omega);have av:=acs (a%16) (by omega) (by omega);have af:bits .and .u8 a 15=a%16:=anq a (by omega) (by omega);have B:0<=a / 16:=by omega
    have C:a / 16<16:=by omega
    have E:0<=a%16:=by omega
    have F:a%16<16:=by omega
    rcases e5 with e5|e5;all_goals
     go_wp2_with fail;go_region_held3 (fun t=>True) (trivial) ((refine Ks (by rfl) _ _ (by rfl) w.heap.size _ g (qt s b) (by rfl) h c.size (by omega) [92,120,_,_] 4 (by rfl) (by decide) (by decide) _ (by rfl) (by rfl) ?_;intro m j w1 f d))
     all_goals
      go_wp2;go_roundw
      case rel=>exact⟨b+1,_,by omega,by go_num,by rw[i.out,p.out];assumption,c.trans (by assumption)⟩
      case measure=>simp[intOf];omega
   ·have p:Hid (esc a=[a]):=by unfold esc Hid;rw[aa k,aa l,aa (by omega),aa e5]
    have G:¬a<32:=by omega
    have H:¬126<a:=by omega
    clear k l n o e5;go_wp2_with (at_builtin;refine mu rfl (.tmp 17) (.tmp 19) rfl w.heap.size _ g (qt s b) rfl h c.size (by omega) [a] 1 rfl (by decide) (by decide) _ rfl rfl ?_;intro m j w1 f d);go_roundw
    case rel=>exact⟨b+1,_,by omega,by go_num,by rw[i.out,p.out];exact f,c.trans d⟩
    case measure=>simp[intOf];omega
  ·have v:b=s.size:=by omega
   subst v;go_wp2_with (at_builtin;refine mu rfl (.tmp 62) (.tmp 63) rfl w.heap.size _ g (qt s s.size) rfl h c.size (by omega) [34] 1 rfl (by decide) (by decide) _ rfl rfl ?_;intro m j w1 f d;have a0:=pd f);go_ret;exact⟨rfl,c.trans d⟩
theorem aaI(s:ByteArray)(b:s.size<=4000)(w:O):
  Calls M 149 #[R s] w fun e a=>e= .returned (R (fa (dF s)))/\Below w.heap.size w a:=Ip s (by omega) w
