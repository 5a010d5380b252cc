import Derived.Test.YtcbmoiabehpliaaGreatDoorProg
import Derived.WalkKit
import Derived.WalkSpells
import Derived.StillTactics
import Derived.OwnWalk
import Derived.Laws.Pointers
import Derived.Deep.RegionHeld3
import Derived.Deep.AppendLies
import Derived.KernelRfl
import Derived.Laws.BytesString
import Derived.Deep.QuietTactic
import Derived.BigQuiet
import Derived.OneCell
import Derived.Test.YtcbmoiabehpliaaGreatDoorHPk01
import Derived.Lib.Bytealg
import Derived.BigRegion
import Derived.Maps.Own
set_option linter.unusedVariables false
set_option maxRecDepth 100000
set_option maxHeartbeats 6400000
namespace Go.Proofs.YtcbmoiabehpliaaGreatDoor
open Go.RowKit
theorem Tryz.info5:(Tryz.prog.info? 5).map (fun i=>(i.zero,i.size,i.bytes))=some (some (.int .u8 0),1,1):=by kernel_rfl
def B8(l:List Int):List Value:=l.map (Value.int .u8)
theorem Ak(a b:List Int):B8 (a++b)=B8 a++B8 b:=by simp[B8]
theorem Gb(a:List Int):(B8 a).length=a.length:=by simp[B8]
theorem qP{w:World}{base n:Nat}{v:Value}{l:List Int}(h:w.ownsRow base 5 1 v n (B8 l)):l.length=n:=by
 have:=h.1;simpa [B8] using this
theorem kY{d:Array Oper}{f:List Oper}{o:Oper}{a:Act}{Q:Exit->Act->World->Prop}{w:World}(u:o.guard=none)(s x:Operand)
  (A:o.op= .call {callee:= .builtin .append,args:=#[s,x],argTypes:=#[195,195]}) (base:Nat) (v:Value) (n:Nat) (l:List Int) (p:a.eval s=v)
  (e:w.ownsRow base 5 1 v n (B8 l)) (y:base<=w.heap.size) (J:n<=100000) (c:List Int) (m:Nat) (B:c.length=m) (z:0<m) (L:m<=100) (cs:Array Value) (q:cs.toList=B8 c)
  (I:a.eval x= .slice (some ⟨w.heap.size,0,none⟩) m m)
  (h:∀g cap b,b.ownsRow base 5 1 (.slice (some ⟨g,0,none⟩) (n+m) cap) (n+m) (B8 (l++c))->Below base w b->wpList Tryz.prog d Q f (a.put o.dst (.slice (some ⟨g,0,none⟩) (n+m) cap)) b):
  wpList Tryz.prog d Q (o::f) a (w.alloc (.cells cs 5)):=by
 obtain⟨j,E,H,G,C⟩:=info_parts Tryz.info5;refine wpList_append_lies _ u s x 195 A base 5 j (.int .u8 0) 1 1 Tryz.underlying195 E H G C rfl (by decide) v n (B8 l) p (e.alloc _) ⟨w.heap.size,0,none⟩ m m (B8 c) I (by simp[B8,B])
  (by rw[<-q];exact World.news_of_block (fr:=(0,0)) (heap_alloc_new w _)) (by intro M i;simp[B8]at i;obtain⟨K,_,rfl⟩:=i;rfl) z (by unfold maxLen;omega) (by omega) (by simp;omega) (w.heap.size+1) (by simp) ?_
 intro g cap b k r _ _;refine h g cap b (by rw[Ak];exact k) (((Below.refl base w).alloc y _).grown r (by simp;omega) (fun t F=>(e.lt t F).1))
def JM(a:Int):Int:=if a<10 then 48+a else 87+a
theorem DC{f:Array Oper}{o:Oper}{a:Act}{K:Act->World->Prop}{Q:Exit->Act->World->Prop}{E:Prop}{w:World}(t:o.guard=none)(s x:Operand)
  (z:o.op= .call {callee:= .builtin .append,args:=#[s,x],argTypes:=#[195,195]}) (base:Nat) (v:Value) (n:Nat) (l:List Int) (k:a.eval s=v)
  (d:w.ownsRow base 5 1 v n (B8 l)) (u:base<=w.heap.size) (J:n<=100000) (c:List Int) (m:Nat) (A:c.length=m) (y:0<m) (M:m<=100) (cs:Array Value) (p:cs.toList=B8 c)
  (I:a.eval x= .slice (some ⟨w.heap.size,0,none⟩) m m)
  (h:∀g cap b,b.ownsRow base 5 1 (.slice (some ⟨g,0,none⟩) (n+m) cap) (n+m) (B8 (l++c))->Below base w b->K (a.put o.dst (.slice (some ⟨g,0,none⟩) (n+m) cap)) b):
  if Region.wanted o (yielded f a.tmps)=true then Oper.wp Tryz.prog o a (w.alloc (.cells cs 5)).drew K Q else E:=by
 obtain⟨i,C,H,G,B⟩:=info_parts Tryz.info5;refine step_append_lies _ t s x 195 z base 5 i (.int .u8 0) 1 1 Tryz.underlying195 C H G B rfl (by decide) v n (B8 l) k ((d.alloc _).drew) ⟨w.heap.size,0,none⟩ m m (B8 c) I (by simp[B8,A])
  (by rw[<-p];exact World.news_of_block (fr:=(0,0)) (heap_alloc_new w _)) (by intro N e;simp[B8]at e;obtain⟨L,_,rfl⟩:=e;rfl) y (by unfold maxLen;omega) (by omega) (by simp;omega) (w.heap.size+1) (by simp) ?_
 intro g cap b j q _ _;refine h g cap b (by rw[Ak];exact j) ((((Below.refl base w).alloc u _).drew).grown q (by simp;omega) (fun r F=>(d.lt r F).1))
def kZ(l:List Int):ByteArray:=l.foldl (fun b a=>b.push (UInt8.ofNat a.toNat)) ByteArray.empty
theorem ng{w:World}{base g n cap:Nat}{l:List Int}(b:w.ownsRow base 5 1 (.slice (some ⟨g,0,none⟩) n cap) n (B8 l)):
  (convert 195 9 (.slice (some ⟨g,0,none⟩) n cap)).run Tryz.prog w= .ok (.string (kZ l)) w:=by
 rw[run_convert_bytes_string w 195 9 5 _ _ _ Tryz.underlying195 Tryz.underlying5 Tryz.underlying9];have e:=qP b;refine run_bytesToString w _ n cap l ?_;rcases b.2 with⟨c,_⟩|⟨k,p,m,h,_,j,_,_,o,i⟩
 ·cases c
 ·cases h;have:=run_loadCells_list (P:=Tryz.prog) w ⟨g,0,none⟩ (B8 l) (fun d f a=>by
   refine World.news_of_block j d f ?_;rw[<-i]at a;rw[List.getElem?_take]at a;split at a
   ·exact a
   ·cases a)
  rw[Gb,e]at this;exact this
theorem yR(w:World)(c:Int):(w.alloc (.cells #[.int .u8 c] 5)).ownsRow w.heap.size 5 1 (.slice (some ⟨w.heap.size,0,none⟩) 1 1) 1 (B8 [c]):=
 ⟨rfl,.inr ⟨w.heap.size,1,#[.int .u8 c],rfl,Nat.le_refl _,heap_alloc_new w _,Nat.le_refl _,by unfold maxLen;omega,rfl,rfl⟩⟩
def Code(base:Nat)(w:World)(f:Option Addr)(d:Nat):Prop:=
 d=0\/∃b c,f=some ⟨b,c,none⟩/\b<base/\∀e,e<d->∃a:Int,0<=a/\a<256/\w.cell? ⟨b,c+e,none⟩=some (.int .u8 a)
theorem Code.below{base:Nat}{w d:World}{e:Option Addr}{c:Nat}(h:Code base w e c)(o:Below base w d):Code base d e c:=by
 rcases h with h|⟨b,a,k,g,i⟩
 ·exact .inl h
 ·exact .inr ⟨b,a,k,g,fun f m=>by obtain⟨j,z0,n,l⟩:=i f m;exact⟨j,z0,n,(o.cell (p:=⟨b,a+f,none⟩) g).trans l⟩⟩
theorem qQ(w:World)(b:Nat):w.grownBy w (some b):=⟨rfl,rfl,rfl,Nat.le_refl _,fun _ _ _=>rfl⟩
theorem nh{a w:World}{b:Nat}(h:a.grownBy w (some b))(n:Nat):a.grownBy (w.drewN n) (some b):=⟨h.os,h.tape,h.output,h.size,h.block⟩
theorem yS(base:Nat)(w:World)(n:Nat):Below base w (w.drewN n):=⟨rfl,rfl,rfl,Nat.le_refl _,fun _ _=>rfl⟩
theorem sK(w:World):(convert 195 9 (.slice none 0 0)).run Tryz.prog w= .ok (.string ByteArray.empty) w:=by
 rw[run_convert_bytes_string w 195 9 5 _ _ _ Tryz.underlying195 Tryz.underlying5 Tryz.underlying9];simp[Conv.bytesToString,Sem.run_pure]
theorem yT(l:List Int):∀r:ByteArray,(l.foldl (fun r n=>r.push (UInt8.ofNat n.toNat)) r).size=r.size+l.length:=by
 induction l with
 |nil=>intro r;rfl
 |cons b l a=>intro r;simp only[List.foldl_cons,List.length_cons];rw[a,ByteArray.size_push];omega
theorem yU(l:List Int):(kZ l).size=l.length:=by
 unfold kZ;rw[yT];simp
def dJ(c:Int):Bool:=decide (c=32\/c=9\/c=13)
def aC(c:Int):Bool:=decide ((97<=c/\c<=122)\/(65<=c/\c<=90)\/c=95)
def aG(c:Int):Bool:=decide (48<=c/\c<=57)
theorem sL(c:Int)(w:World):Calls Tryz.prog 57 #[.int .u8 c] w fun e f=>e= .returned (.bool (dJ c))/\w=f:=by
 rcases(show c=32\/c=9\/c=13\/(c≠32/\c≠9/\c≠13) by omega) with rfl|rfl|rfl|⟨d,b,a⟩
 ·go_in;go_wp2;go_ret;exact⟨rfl,rfl⟩
 ·go_in;go_wp2;go_ret;exact⟨rfl,rfl⟩
 ·go_in;go_wp2;go_ret;exact⟨rfl,rfl⟩
 ·have h:(c==32)=false:=by simp[d]
  have g:(c==9)=false:=by simp[b]
  have i:(c==13)=false:=by simp[a]
  have e:dJ c=false:=by simp[dJ,d,b,a]
  rw[e];clear e d b a;go_in;go_wp2;go_ret;exact⟨rfl,rfl⟩
theorem cG(c:Int)(w:World):Calls Tryz.prog 117 #[.int .u8 c] w fun e d=>e= .returned (.bool (aG c))/\w=d:=by
 rcases(show c<48\/57<c\/(48<=c/\c<=57) by omega) with h|h|⟨f,a⟩
 ·have e:aG c=false:=by simp[aG];omega
  rw[e];clear e;have b:¬48<=c:=by omega
  go_in;go_wp2;go_ret;exact⟨rfl,rfl⟩
 ·have e:aG c=false:=by simp[aG];omega
  rw[e];clear e;have b:¬c<=57:=by omega
  have a:48<=c:=by omega
  go_in;go_wp2;go_ret;exact⟨rfl,rfl⟩
 ·have e:aG c=true:=by simp[aG];omega
  rw[e];clear e;go_in;go_wp2;go_ret;exact⟨rfl,rfl⟩
theorem dK(c:Int)(w:World):Calls Tryz.prog 115 #[.int .u8 c] w fun e j=>e= .returned (.bool (aC c))/\w=j:=by
 rcases(show(97<=c/\c<=122)\/(65<=c/\c<=90)\/c=95\/c<65\/(90<c/\c<97/\c≠95)\/122<c by omega) with⟨f,d⟩|⟨f,d⟩|rfl|h|⟨f,d,k⟩|h
 ·have e:aC c=true:=by simp[aC];omega
  rw[e];clear e;go_in;go_wp2;go_ret;exact⟨rfl,rfl⟩
 ·have e:aC c=true:=by simp[aC];omega
  rw[e];clear e;have a:¬97<=c:=by omega
  go_in;go_wp2;go_ret;exact⟨rfl,rfl⟩
 ·go_in;go_wp2;go_ret;exact⟨rfl,rfl⟩
 ·have e:aC c=false:=by simp[aC];omega
  rw[e];clear e;have a:¬97<=c:=by omega
  have b:¬65<=c:=by omega
  have g:(c==95)=false:=by simp;omega
  go_in;go_wp2;go_ret;exact⟨rfl,rfl⟩
 ·have e:aC c=false:=by simp[aC];omega
  rw[e];clear e;have a:¬97<=c:=by omega
  have b:65<=c:=by omega
  have i:¬c<=90:=by omega
  have g:(c==95)=false:=by simp;omega
  go_in;go_wp2;go_ret;exact⟨rfl,rfl⟩
 ·have e:aC c=false:=by simp[aC];omega
  rw[e];clear e;have a:97<=c:=by omega
  have b:¬c<=122:=by omega
  have i:65<=c:=by omega
  have l:¬c<=90:=by omega
  have g:(c==95)=false:=by simp;omega
  go_in;go_wp2;go_ret;exact⟨rfl,rfl⟩
def bT(c:Int):Int:=if 48<=c/\c<=57 then c-48 else if 97<=c/\c<=102 then c-87 else -1
theorem Al:∀n:Fin 256,Lib.indexByte [48,49,50,51,52,53,54,55,56,57,97,98,99,100,101,102] (n.val.toUInt8)=bT (n.val:Int):=by decide+kernel
theorem DD(c:Int)(d:0<=c)(b:c<256):Lib.indexByte [48,49,50,51,52,53,54,55,56,57,97,98,99,100,101,102] c.toNat.toUInt8=bT c:=by
 have:=Al ⟨c.toNat,by omega⟩;have a:((c.toNat:Nat):Int)=c:=by omega
 simp only[a]at this;exact this
theorem Am(c:Int)(a:0<=c)(b:c<256)(w:World):Calls Tryz.prog 226 #[.string ⟨#[48,49,50,51,52,53,54,55,56,57,97,98,99,100,101,102]⟩,.int .u8 c] w fun e d=>e= .returned (.int .i64 (bT c))/\d=w:=by
 rw[<-DD c a b];go_in;go_wp2;rw[run_callFunc_extern Tryz.func234 (by kernel_rfl) (by kernel_rfl) (by kernel_rfl) (e:=Extern.BytealgIndexByte.indexByte) (by kernel_rfl),Lib.run_indexByteString];simp only[Result.andThen];rw[Oper.upon_value];go_wp2;go_ret;exact⟨rfl,rfl⟩
theorem iK(c:Int)(b:0<=c)(d:c<256)(w:World):Calls Tryz.prog 208 #[.string ⟨#[48,49,50,51,52,53,54,55,56,57,97,98,99,100,101,102]⟩,.int .u8 c] w fun e a=>e= .returned (.int .i64 (bT c))/\a=w:=by
 go_in;go_wp2_with (go_at_call 226;refine(Am c b d _).mono ?_;rintro e a ⟨rfl,rfl⟩);go_ret;exact⟨rfl,rfl⟩
def ae(s:ByteArray)(i:Nat):Int:=if h:i<s.size then(s[i].toNat:Int) else -1
theorem dj{s:ByteArray}{i:Nat}(h:i<s.size):0<=ae s i/\ae s i<256:=by
 unfold ae;rw[dif_pos h];have:=s[i].toNat_lt;omega
theorem aX{s:ByteArray}{i:Nat}(h:¬i<s.size):ae s i= -1:=by unfold ae;rw[dif_neg h]
theorem aI{s:ByteArray}{i:Nat}(h:i<s.size)(w:World):(Instr.index 9 (.string s) (.int .i64 (i:Int))).run Tryz.prog w= .ok (.int .u8 (ae s i)) w:=by
 unfold ae;rw[dif_pos h];go_simp
theorem jQ{s:ByteArray}{i:Nat}(h:i+1<s.size)(w:World):(Instr.index 9 (.string s) (.int .i64 ((i:Int)+1))).run Tryz.prog w= .ok (.int .u8 (ae s (i+1))) w:=by
 have:=aI h w;have a:((i+1:Nat):Int)=(i:Int)+1:=by omega
 rw[a]at this;exact this
theorem ej(c:Int):bT c<16:=by unfold bT;split;omega;split<;>omega
theorem KA(a b:Int)(c:0<=a)(g:a<256)(d:a%16=0)(e:0<=b)(f:b<16):bits .or .i64 a b=a+b:=
 bits_join .i64 8 (by decide) (fun h a b=>by rw[IntKind.wrap_i64];omega) 4 a b c d g e f (by omega)
theorem JN(b:Int)(c:0<=b)(a:b<16):bits .or .i64 0 b=b:=by
 have:=KA 0 b (by omega) (by omega) (by omega) c a;rw[this];omega
def pA(s:ByteArray)(p:Nat):Int×Nat×Bool:=
 if bT (ae s p)<0 then(0,p,false) else if bT (ae s (p+1))<0 then(0,p+1,false) else(bT (ae s p)*16+bT (ae s (p+1)),p+1+1,true)
def An(r:Int×Nat×Bool):Value:= .tuple #[.int .u8 r.1,.int .i64 (r.2.1:Int),.bool r.2.2]
theorem sM(s:ByteArray)(B:s.size<=100000)(p:Nat)(t:p+1<s.size)(x a:Int)(j:bT (ae s p)=x)(h:bT (ae s (p+1))=a)(x0:0<=x)(k:0<=a)(w:World):
  Calls Tryz.prog 189 #[.string s,.int .i64 p] w fun e g=>e= .returned (.tuple #[.int .u8 (x*16+a),.int .i64 ((p:Int)+1+1),.bool true])/\g=w:=by
 have m:x<16:=by rw[<-j];exact ej _
 have o:a<16:=by rw[<-h];exact ej _
 have q:=fun w=>aI (s:=s) (i:=p) (by omega) w;have r:=fun w=>jQ (s:=s) (i:=p) (by omega) w;have u:((p:Int)==(s.size:Int))=false:=by simp;omega
 have y:((p:Int)+1==(s.size:Int))=false:=by simp;omega
 have v:bits .or .i64 0 x=x:=JN x x0 m;have A:bits .or .i64 (x*16) a=x*16+a:=KA (x*16) a (by omega) (by omega) (by omega) k o;have b:=dj (s:=s) (i:=p) (by omega);have c:=dj (s:=s) (i:=p+1) t;obtain⟨n,f⟩:=ah (ae s p);obtain⟨l,d⟩:=ah (ae s (p+1));rw[f]at j q b;rw[d]at h r c;clear f d;go_in;go_wp2_with fail;refine wp_loop_rounds 3 ?_;rw[rounds_succ];go_wp2_with (go_at_call 208;refine(iK n b.1 b.2 _).mono ?_;rintro e g ⟨rfl,rfl⟩);rw[rounds_succ];go_wp2_with (go_at_call 208;refine(iK l c.1 c.2 _).mono ?_;rintro e z ⟨rfl,rfl⟩);rw[rounds_succ];go_wp2;go_ret3
 exact⟨rfl,rfl⟩
theorem pC(s:ByteArray)(j:s.size<=100000)(p:Nat)(k:p<s.size)(x:Int)(g:bT (ae s p)=x)(x0:x<0)(w:World):
  Calls Tryz.prog 189 #[.string s,.int .i64 p] w fun e c=>e= .returned (.tuple #[.int .u8 0,.int .i64 (p:Int),.bool false])/\c=w:=by
 have f:=fun w=>aI (s:=s) (i:=p) (by omega) w;have h:((p:Int)==(s.size:Int))=false:=by simp;omega
 have a:=dj (s:=s) (i:=p) (by omega);obtain⟨d,b⟩:=ah (ae s p);rw[b]at g f a;clear b;go_in;go_wp2_with fail;refine wp_loop_rounds 1 ?_;rw[rounds_succ];go_wp2_with (go_at_call 208;refine(iK d a.1 a.2 _).mono ?_;rintro e c ⟨rfl,rfl⟩);go_ret3
 exact⟨rfl,rfl⟩
theorem sN(s:ByteArray)(c:s.size<=100000)(p:Nat)(b:p=s.size)(w:World):
  Calls Tryz.prog 189 #[.string s,.int .i64 p] w fun e a=>e= .returned (.tuple #[.int .u8 0,.int .i64 (p:Int),.bool false])/\a=w:=by
 subst b;go_in;go_wp2_with fail;refine wp_loop_rounds 1 ?_;rw[rounds_succ];go_wp2;go_ret3
 exact⟨rfl,rfl⟩
theorem ni(s:ByteArray)(z:s.size<=100000)(p:Nat)(q:p+1<s.size)(x d:Int)(h:bT (ae s p)=x)(m:bT (ae s (p+1))=d)(x0:0<=x)(r:d<0)(w:World):
  Calls Tryz.prog 189 #[.string s,.int .i64 p] w fun e g=>e= .returned (.tuple #[.int .u8 0,.int .i64 ((p:Int)+1),.bool false])/\g=w:=by
 have k:x<16:=by rw[<-h];exact ej _
 have n:=fun w=>aI (s:=s) (i:=p) (by omega) w;have o:=fun w=>jQ (s:=s) (i:=p) (by omega) w;have t:((p:Int)==(s.size:Int))=false:=by simp;omega
 have v:((p:Int)+1==(s.size:Int))=false:=by simp;omega
 have u:bits .or .i64 0 x=x:=JN x x0 k;have a:=dj (s:=s) (i:=p) (by omega);have b:=dj (s:=s) (i:=p+1) q;obtain⟨l,f⟩:=ah (ae s p);obtain⟨j,c⟩:=ah (ae s (p+1));rw[f]at h n a;rw[c]at m o b;clear f c;go_in;go_wp2_with fail;refine wp_loop_rounds 2 ?_;rw[rounds_succ];go_wp2_with (go_at_call 208;refine(iK l a.1 a.2 _).mono ?_;rintro e g ⟨rfl,rfl⟩);rw[rounds_succ];go_wp2_with (go_at_call 208;refine(iK j b.1 b.2 _).mono ?_;rintro e y ⟨rfl,rfl⟩);go_ret3
 exact⟨rfl,rfl⟩
theorem sO(s:ByteArray)(n:s.size<=100000)(p:Nat)(h:p+1=s.size)(x:Int)(d:bT (ae s p)=x)(x0:0<=x)(w:World):
  Calls Tryz.prog 189 #[.string s,.int .i64 p] w fun e c=>e= .returned (.tuple #[.int .u8 0,.int .i64 ((p:Int)+1),.bool false])/\c=w:=by
 have f:x<16:=by rw[<-d];exact ej _
 have j:=fun w=>aI (s:=s) (i:=p) (by omega) w;have k:((p:Int)==(s.size:Int))=false:=by simp;omega
 have m:((p:Int)+1==(s.size:Int))=true:=by simp;omega
 have o:p<=100000:=by omega
 have l:bits .or .i64 0 x=x:=JN x x0 f;have a:=dj (s:=s) (i:=p) (by omega);obtain⟨g,b⟩:=ah (ae s p);rw[b]at d j a;clear b h;go_in;go_wp2_with fail;refine wp_loop_rounds 2 ?_;rw[rounds_succ];go_wp2_with (go_at_call 208;refine(iK g a.1 a.2 _).mono ?_;rintro e c ⟨rfl,rfl⟩);rw[rounds_succ];go_wp2;go_ret3
 exact⟨rfl,rfl⟩
theorem sP(s:ByteArray)(a:s.size<=100000)(p:Nat)(h:p<=s.size)(w:World):
  Calls Tryz.prog 189 #[.string s,.int .i64 p] w fun e j=>e= .returned (An (pA s p))/\j=w:=by
 have g:bT (-1)= -1:=by decide
 unfold pA An;by_cases f:p<s.size
 ·by_cases c:bT (ae s p)<0
  ·rw[if_pos c];exact pC s a p f _ rfl c w
  ·rw[if_neg c];by_cases d:p+1<s.size
   ·by_cases b:bT (ae s (p+1))<0
    ·rw[if_pos b];exact ni s a p d _ _ rfl rfl (by omega) b w
    ·rw[if_neg b];exact sM s a p d _ _ rfl rfl (by omega) (by omega) w
   ·have e:=aX (s:=s) (i:=p+1) d;rw[if_pos (by rw[e,g];omega)];exact sO s a p (by omega) _ rfl (by omega) w
 ·have e:=aX (s:=s) (i:=p) f;rw[if_pos (by rw[e,g];omega)];exact sN s a p (by omega) w
def dx(s:ByteArray)(p:Nat):Int×Nat×Bool:=
 if ae s p=110 then(10,p+1,true) else if ae s p=116 then(9,p+1,true) else if ae s p=34\/ae s p=92 then(ae s p,p+1,true) else if ae s p=120 then pA s (p+1) else(0,p,false)
theorem sQ(s:ByteArray)(y:s.size<=100000)(p:Nat)(h:p<=s.size)(w:World):
  Calls Tryz.prog 160 #[.string s,.int .i64 p] w fun e l=>e= .returned (An (dx s p))/\l=w:=by
 by_cases r:p<s.size
 ·have v:=fun w=>aI (s:=s) (i:=p) (by omega) w;have z:((p:Int)==(s.size:Int))=false:=by simp;omega
  have o:=dj (s:=s) (i:=p) (by omega);have j:=sP s y (p+1) (by omega);have n:((p+1:Nat):Int)=(p:Int)+1:=by omega
  rw[n]at j;unfold dx;obtain⟨a,k⟩:=ah (ae s p);rw[k]at v o⊢;clear k;by_cases c:a=110
  ·subst c;go_in;go_wp2;go_ret3
   exact⟨rfl,rfl⟩
  rw[if_neg c];have x:(a==110)=false:=by simp[c]
  by_cases b:a=116
  ·subst b;go_in;go_wp2;go_ret3
   exact⟨rfl,rfl⟩
  rw[if_neg b];have q:(a==116)=false:=by simp[b]
  by_cases f:a=34
  ·subst f;go_in;go_wp2;go_ret3
   exact⟨rfl,rfl⟩
  have u:(a==34)=false:=by simp[f]
  by_cases g:a=92
  ·subst g;go_in;go_wp2;go_ret3
   exact⟨rfl,rfl⟩
  have t:(a==92)=false:=by simp[g]
  rw[if_neg (by omega)];by_cases d:a=120
  ·subst d;rw[if_pos rfl];clear c b f g x q u t;unfold An at j⊢;go_in;go_wp2_with (go_at_call 189;refine(j _).mono ?_;rintro e l ⟨rfl,rfl⟩);go_ret3
   exact⟨rfl,rfl⟩
  rw[if_neg d];have A:(a==120)=false:=by simp[d]
  clear c b f g d;go_in;go_wp2;go_ret3
  exact⟨rfl,rfl⟩
 ·have e:=aX (s:=s) (i:=p) r;have m:dx s p=(0,p,false):=by unfold dx;rw[e];simp
  rw[m];obtain rfl:p=s.size:=by omega
  clear e m;go_in;go_wp2;go_ret3
  exact⟨rfl,rfl⟩
theorem xw(s:ByteArray)(p:Nat)(h:p<=s.size):p<=(pA s p).2.1/\(pA s p).2.1<=s.size/\0<=(pA s p).1/\(pA s p).1<256:=by
 have b:bT (-1)= -1:=by decide
 have g:=ej (ae s p);have e:=ej (ae s (p+1));unfold pA;split
 ·simp;omega
 ·rename_i d;have j:p<s.size:=by
   rcases Nat.lt_or_ge p s.size with h|h
   ·exact h
   ·have a:=aX (s:=s) (i:=p) (by omega);rw[a,b]at d;omega
  split
  ·simp;omega
  ·rename_i c;have f:p+1<s.size:=by
    rcases Nat.lt_or_ge (p+1) s.size with h|h
    ·exact h
    ·have a:=aX (s:=s) (i:=p+1) (by omega);rw[a,b]at c;omega
   simp;omega
theorem xx(s:ByteArray)(p:Nat)(h:p<=s.size):p<=(dx s p).2.1/\(dx s p).2.1<=s.size/\0<=(dx s p).1/\(dx s p).1<256:=by
 unfold dx;by_cases a:p<s.size
 ·have c:=dj a;split
  ·simp;omega
  split
  ·simp;omega
  split
  ·simp;omega
  split
  ·have:=xw s (p+1) (by omega);omega
  ·simp;omega
 ·have b:=aX (s:=s) (i:=p) a;rw[b];simp;omega
theorem sR(s:ByteArray)(p:Nat)(h:p<=s.size)(b:(dx s p).2.2=true):p+1<=(dx s p).2.1:=by
 revert b;unfold dx;split
 ·simp
 split
 ·simp
 split
 ·simp
 split
 ·rename_i a;have d:p<s.size:=by
   rcases Nat.lt_or_ge p s.size with h|h
   ·exact h
   ·have c:=aX (s:=s) (i:=p) (by omega);rw[c]at a;omega
  intro _;exact(xw s (p+1) (by omega)).1
 ·simp
def bO(b:Nat)(w:World)(s:ByteArray)(m:Value)(fr p l:Int)(k:Bool):Prop:=
 w.heap[b]?=some (.cells #[.string s,m,.int .i64 fr,.int .i64 p,.int .i64 l,.bool k] 85 (0,0))
def aO(b:Nat)(w:World)(k f t l n:Int)(x:ByteArray):Prop:=
 w.heap[b]?=some (.cells #[.int .i64 k,.int .i64 f,.int .i64 t,.int .i64 l,.int .i64 n,.string x] 45 (0,0))
theorem bB{b:Nat}{w:World}{s:ByteArray}{m:Value}{fr p l:Int}{k:Bool}(h:bO b w s m fr p l k):
  w.cell? ⟨b,0,none⟩=some (.string s)/\w.cell? ⟨b,1,none⟩=some m/\w.cell? ⟨b,3,none⟩=some (.int .i64 p)/\w.cell? ⟨b,4,none⟩=some (.int .i64 l)/\w.cell? ⟨b,5,none⟩=some (.bool k)/\
  w.frozen? ⟨b,3,none⟩=false/\w.frozen? ⟨b,4,none⟩=false/\w.frozen? ⟨b,5,none⟩=false:=by
 unfold bO at h;exact⟨by rw[cell_of_row _ _ _ _ _ _ h];rfl,by rw[cell_of_row _ _ _ _ _ _ h];rfl,by rw[cell_of_row _ _ _ _ _ _ h];rfl,by rw[cell_of_row _ _ _ _ _ _ h];rfl,by rw[cell_of_row _ _ _ _ _ _ h];rfl,frozen_of_row _ _ _ _ _ h,frozen_of_row _ _ _ _ _ h,frozen_of_row _ _ _ _ _ h⟩
theorem qR{b:Nat}{w:World}{s:ByteArray}{m:Value}{fr p l:Int}{k:Bool}(h:bO b w s m fr p l k):w.cell? ⟨b,2,none⟩=some (.int .i64 fr)/\w.frozen? ⟨b,2,none⟩=false:=by
 unfold bO at h;exact⟨by rw[cell_of_row _ _ _ _ _ _ h];rfl,frozen_of_row _ _ _ _ _ h⟩
theorem bO.setF{b:Nat}{w:World}{s:ByteArray}{m:Value}{fr p l:Int}{k:Bool}(h:bO b w s m fr p l k)(x:Int):bO b (w.setCell ⟨b,2,none⟩ (.int .i64 x)) s m x p l k:=heap_setCell_same w b 2 _ _ _ h
theorem aw{b:Nat}{w:World}{k f t l n:Int}{x:ByteArray}(h:aO b w k f t l n x):
  w.cell? ⟨b,0,none⟩=some (.int .i64 k)/\w.cell? ⟨b,1,none⟩=some (.int .i64 f)/\w.cell? ⟨b,2,none⟩=some (.int .i64 t)/\w.cell? ⟨b,3,none⟩=some (.int .i64 l)/\w.cell? ⟨b,4,none⟩=some (.int .i64 n)/\w.cell? ⟨b,5,none⟩=some (.string x)/\
  (∀j,w.frozen? ⟨b,j,none⟩=false):=by
 unfold aO at h;exact⟨by rw[cell_of_row _ _ _ _ _ _ h];rfl,by rw[cell_of_row _ _ _ _ _ _ h];rfl,by rw[cell_of_row _ _ _ _ _ _ h];rfl,by rw[cell_of_row _ _ _ _ _ _ h];rfl,by rw[cell_of_row _ _ _ _ _ _ h];rfl,by rw[cell_of_row _ _ _ _ _ _ h];rfl,fun j=>frozen_of_row _ _ _ _ _ h⟩
theorem bO.setP{b:Nat}{w:World}{s:ByteArray}{m:Value}{fr p l:Int}{k:Bool}(h:bO b w s m fr p l k)(x:Int):bO b (w.setCell ⟨b,3,none⟩ (.int .i64 x)) s m fr x l k:=heap_setCell_same w b 3 _ _ _ h
theorem bO.setL{b:Nat}{w:World}{s:ByteArray}{m:Value}{fr p l:Int}{k:Bool}(h:bO b w s m fr p l k)(x:Int):bO b (w.setCell ⟨b,4,none⟩ (.int .i64 x)) s m fr p x k:=heap_setCell_same w b 4 _ _ _ h
theorem bO.setK{b:Nat}{w:World}{s:ByteArray}{m:Value}{fr p l:Int}{k:Bool}(h:bO b w s m fr p l k)(x:Bool):bO b (w.setCell ⟨b,5,none⟩ (.bool x)) s m fr p l x:=heap_setCell_same w b 5 _ _ _ h
theorem bO.other{b:Nat}{w:World}{s:ByteArray}{m:Value}{fr p l:Int}{k:Bool}(h:bO b w s m fr p l k){a:Addr}(c:b≠a.block)(v:Value):bO b (w.setCell a v) s m fr p l k:=(heap_setCell_other w a b v c).trans h
theorem bO.drewN{b:Nat}{w:World}{s:ByteArray}{m:Value}{fr p l:Int}{k:Bool}(h:bO b w s m fr p l k)(n:Nat):bO b (w.drewN n) s m fr p l k:=h
theorem bO.below{B b:Nat}{w a:World}{s:ByteArray}{m:Value}{fr p l:Int}{k:Bool}(h:bO b w s m fr p l k)(d:Below B w a)(c:b<B):bO b a s m fr p l k:=(d.block b c).trans h
theorem aO.other{b:Nat}{w:World}{k f t l n:Int}{x:ByteArray}(h:aO b w k f t l n x){a:Addr}(c:b≠a.block)(v:Value):aO b (w.setCell a v) k f t l n x:=(heap_setCell_other w a b v c).trans h
theorem aO.drewN{b:Nat}{w:World}{k f t l n:Int}{x:ByteArray}(h:aO b w k f t l n x)(q:Nat):aO b (w.drewN q) k f t l n x:=h
theorem aO.below{B b:Nat}{w a:World}{k f t l n:Int}{x:ByteArray}(h:aO b w k f t l n x)(d:Below B w a)(c:b<B):aO b a k f t l n x:=(d.block b c).trans h
theorem aO.setKind{b:Nat}{w:World}{k f t l n:Int}{x:ByteArray}(h:aO b w k f t l n x)(a:Int):aO b (w.setCell ⟨b,0,none⟩ (.int .i64 a)) a f t l n x:=heap_setCell_same w b 0 _ _ _ h
theorem aO.setTo{b:Nat}{w:World}{k f t l n:Int}{x:ByteArray}(h:aO b w k f t l n x)(a:Int):aO b (w.setCell ⟨b,2,none⟩ (.int .i64 a)) k f a l n x:=heap_setCell_same w b 2 _ _ _ h
theorem aO.setNum{b:Nat}{w:World}{k f t l n:Int}{x:ByteArray}(h:aO b w k f t l n x)(a:Int):aO b (w.setCell ⟨b,4,none⟩ (.int .i64 a)) k f t l a x:=heap_setCell_same w b 4 _ _ _ h
theorem aO.setText{b:Nat}{w:World}{k f t l n:Int}{x:ByteArray}(h:aO b w k f t l n x)(a:ByteArray):aO b (w.setCell ⟨b,5,none⟩ (.string a)) k f t l n a:=heap_setCell_same w b 5 _ _ _ h
def bX(s:ByteArray):Nat->Nat->List Int->Bool×Nat×List Int
 |0,p,a=>(false,p,a)
 |f+1,p,a=>if s.size<=p then(false,p,a) else if ae s p=34 then(true,p+1,a) else if ae s p=10 then(false,p,a) else if ae s p=92 then
   (if(dx s (p+1)).2.2=true then bX s f (dx s (p+1)).2.1 (a++[(dx s (p+1)).1]) else(false,(dx s (p+1)).2.1,a))
  else bX s f (p+1) (a++[ae s p])
theorem ia(s:ByteArray):∀(f p:Nat)(a:List Int),p<=s.size->p<=(bX s f p a).2.1/\(bX s f p a).2.1<=s.size/\(bX s f p a).2.2.length<=a.length+(s.size-p)
 |0,p,a,h=>by simp[bX];omega
 |f+1,p,a,h=>by
  unfold bX;split
  ·simp;omega
  split
  ·simp;omega
  split
  ·simp;omega
  split
  ·have e:=xx s (p+1) (by omega);split
   ·rename_i b;have c:=sR s (p+1) (by omega) b;have:=ia s f (dx s (p+1)).2.1 (a++[(dx s (p+1)).1]) e.2.1;simp at this⊢;omega
   ·simp;omega
  ·have:=ia s f (p+1) (a++[ae s p]) (by omega);simp at this⊢;omega
structure fT (b t:Nat) (w w':World):Prop where
 os:w'.os=w.os
 tape:w'.tape=w.tape
 output:w'.output=w.output
 size:w.heap.size<=w'.heap.size
 block:∀k,k<w.heap.size->k≠b->k≠t->w'.heap[k]?=w.heap[k]?
theorem fT.refl(b t:Nat)(w:World):fT b t w w:=⟨rfl,rfl,rfl,Nat.le_refl _,fun _ _ _ _=>rfl⟩
theorem fT.trans{b t:Nat}{x f z:World}(h:fT b t x f)(k:fT b t f z):fT b t x z:=
 ⟨k.os.trans h.os,k.tape.trans h.tape,k.output.trans h.output,Nat.le_trans h.size k.size,fun e d a c=>(k.block e (Nat.lt_of_lt_of_le d h.size) a c).trans (h.block e d a c)⟩
theorem fT.drewN{b t:Nat}{x a:World}(h:fT b t x a)(n:Nat):fT b t x (a.drewN n):=⟨h.os,h.tape,h.output,h.size,h.block⟩
theorem fT.drew{b t:Nat}{x a:World}(h:fT b t x a):fT b t x a.drew:=⟨h.os,h.tape,h.output,h.size,h.block⟩
theorem fT.setB{b t:Nat}{x c:World}(h:fT b t x c)(i:Nat)(v:Value):fT b t x (c.setCell ⟨b,i,none⟩ v):=
 ⟨h.os,h.tape,h.output,by simpa [World.setCell] using h.size,fun d e a f=>by rw[heap_setCell_other _ _ _ _ a];exact h.block d e a f⟩
theorem fT.setT{b t:Nat}{x c:World}(h:fT b t x c)(i:Nat)(v:Value):fT b t x (c.setCell ⟨t,i,none⟩ v):=
 ⟨h.os,h.tape,h.output,by simpa [World.setCell] using h.size,fun d e f a=>by rw[heap_setCell_other _ _ _ _ a];exact h.block d e f a⟩
theorem fT.below{b t:Nat}{x d z:World}(h:fT b t x d)(k:Below x.heap.size d z):fT b t x z:=
 ⟨k.os.trans h.os,k.tape.trans h.tape,k.output.trans h.output,Nat.le_trans h.size k.size,fun c a e f=>(k.block c a).trans (h.block c a e f)⟩
theorem fT.to{b t base:Nat}{x a:World}(h:fT b t x a)(g:base<=b)(f:base<=t)(d:base<=x.heap.size):Below base x a:=
 ⟨h.os,h.tape,h.output,h.size,fun c e=>h.block c (by omega) (by omega) (by omega)⟩
theorem xy{d:Array Oper}{e:List Oper}{o:Oper}{a:Act}{Q:Exit->Act->World->Prop}{w:World}(f:o.guard=none)(s x:Operand)
  (r:o.op= .call {callee:= .builtin .append,args:=#[s,x],argTypes:=#[195,195]}) (base:Nat) (v:Value) (n:Nat) (l:List Int) (u:a.eval s=v)
  (q:w.ownsRow base 5 1 v n (B8 l)) (k:base<=w.heap.size) (p:n<=100000) (b:List Int) (m:Nat) (A:b.length=m) (j:0<m) (t:m<=100) (cs:Array Value) (y:cs.toList=B8 b)
  (H:Nat) (z:a.eval x= .slice (some ⟨H,0,none⟩) m m) (i:w.heap.size=H)
  (h:∀g cap c,c.ownsRow base 5 1 (.slice (some ⟨g,0,none⟩) (n+m) cap) (n+m) (B8 (l++b))->Below base w c->wpList Tryz.prog d Q e (a.put o.dst (.slice (some ⟨g,0,none⟩) (n+m) cap)) c):
  wpList Tryz.prog d Q (o::e) a (w.alloc (.cells cs 5)):=by
 subst i;exact kY f s x r base v n l u q k p b m A j t cs y z h
theorem fU(w:World)(n:Nat)(a:Addr)(v:Value):((w.drewN n).setCell a v).heap.size=w.heap.size:=by simp[World.setCell,World.drewN]
theorem JO{w:World}{base e size:Nat}{v:Value}{n:Nat}{c:List Value}{b:Nat}(h:w.ownsRow base e size v n c)(d:b<base)(q r:Nat)(x f:Value):((((w.drewN q).setCell ⟨b,3,none⟩ x).drewN r).setCell ⟨b,3,none⟩ f).ownsRow base e size v n c:=by
 have g:((w.drewN q).setCell ⟨b,3,none⟩ x).ownsRow base e size v n c:=ownsRow_setCell_below (w:=w.drewN q) (a:=⟨b,3,none⟩) h d x;exact ownsRow_setCell_below (w:=((w.drewN q).setCell ⟨b,3,none⟩ x).drewN r) (a:=⟨b,3,none⟩) g d f
def qj(b:Nat)(w:World):Nat:=match w.cell? ⟨b,3,none⟩ with|some (.int _ a)=>a.toNat|_=>0
theorem ib{fr:Int}{b:Nat}{w:World}{s:ByteArray}{m:Value}{p:Nat}{l:Int}{k:Bool}(h:bO b w s m fr p l k):qj b w=p:=by
 unfold qj;rw[(bB h).2.2.1];simp
def dU(b t:Nat)(a:World)(s:ByteArray)(m:Value)(fr:Int)(l f c:Int)(R:Bool×Nat×List Int):Prop:=
 if R.1=true then bO b a s m fr R.2.1 l false/\aO t a 4 f 0 c 0 (kZ R.2.2) else bO b a s m fr R.2.1 l true/\aO t a 0 f 0 c 0 ByteArray.empty
theorem dU.yes{fr:Int}{b t:Nat}{c:World}{s:ByteArray}{m:Value}{l f d:Int}{R:Bool×Nat×List Int}{p:Nat}{a:List Int}(h:(true,p,a)=R)(g:bO b c s m fr p l false)(e:aO t c 4 f 0 d 0 (kZ a)):dU b t c s m fr l f d R:=by
 subst h;unfold dU;rw[if_pos rfl];exact⟨g,e⟩
theorem dU.no{fr:Int}{b t:Nat}{c:World}{s:ByteArray}{m:Value}{l f d:Int}{R:Bool×Nat×List Int}{p:Nat}{a:List Int}(h:(false,p,a)=R)(g:bO b c s m fr p l true)(e:aO t c 0 f 0 d 0 ByteArray.empty):dU b t c s m fr l f d R:=by
 subst h;unfold dU;rw[if_neg (by simp)];exact⟨g,e⟩
theorem xz(p:Nat):((p+1:Nat):Int)=(p:Int)+1:=by omega
theorem nu{fr:Int}(s:ByteArray)(bE:s.size<=70000)(b t:Nat)(w:World)(m:Value)(p:Nat)(l f F:Int)(bD:p<s.size)(g:b≠t)(hS:bO b w s m fr p l false)(Y:aO t w 0 f 0 F 0 ByteArray.empty):
  Calls Tryz.prog 119 #[.pointer (some ⟨b,0,none⟩),.pointer (some ⟨t,0,none⟩)] w fun e Q=>e= .returned (.tuple #[])/\fT b t w Q/\
   dU b t Q s m fr l f F (bX s (s.size+1) (p+1) []):=by
 obtain⟨ar,I⟩:=ah (bX s (s.size+1) (p+1) []);rw[I];have a0:=ab I;clear I;have z:b<w.heap.size:=lt_of_block hS;have an:t<w.heap.size:=lt_of_block Y;obtain⟨T,U,R,am,ak,Z,V,W⟩:=bB hS;go_in;go_wp2_with fail;go_loopw [4] (fun a5 wr=>∃(d r k:Nat) (j:List Int),bO b wr s m fr d l false/\aO t wr 0 f 0 F 0 ByteArray.empty/\wr.ownsRow w.heap.size 5 1 a5 r (B8 j)/\s.size<d+k/\d<=s.size/\r<=d/\Hid (bX s k d j=ar)/\fT b t w wr) (fun _ wr=>s.size-qj b wr)
 case atStart=>exact⟨p+1,0,s.size+1,[],hS.setP _,Y.other (Ne.symm g) _,World.ownsRow_nil _ _ _ _,by omega,by omega,by omega,a0,(fT.refl b t w).setB _ _⟩
 case round=>
  obtain⟨d,r,k,j,i,n,x,bx,bs,a8,af,o⟩:=hrel;clear T U R am ak Z V W;obtain⟨T,U,R,am,ak,Z,V,W⟩:=bB i;obtain⟨bn,br,bA,bl,a7,bt,a9⟩:=aw n;have al:=o.size;obtain⟨k,rfl⟩:∃E,k=E+1:=⟨k-1,by omega⟩;by_cases X:d<s.size
  ·have ao:=dj X;have a6:=fun w=>aI X w;have c:=af.out;unfold bX at c;rw[if_neg (by omega)]at c;obtain⟨q,K⟩:=ah (ae s d);rw[K]at ao a6 c;clear K;by_cases C:q=34
   ·subst C;rw[if_pos rfl]at c;have h:=ab c;clear c;rcases x.2 with⟨rfl,a2⟩|⟨E,S,bb,rfl,bd⟩
    ·have L:j=[]:=by have:=qP x;rw[a2]at this;exact List.eq_nil_of_length_eq_zero this
     have a4:=ab L;clear L;have a3:=sK;go_wp2_with fail;go_quiet (fail)
     go_wp2_with fail;go_quiet (fail)
     go_wp2;refine bodyPost_ret (results_none rfl _ _ _) rfl ?_;refine⟨rfl,(((o.drewN _).setB _ _).setT _ _).setT _ _,dU.yes h.out (by rw[xz];exact(((i.drewN _).setP _).other g _).other g _) ?_⟩;rw[a4.out];exact(((n.drewN _).other (Ne.symm g) _).setKind _).setText _
    ·have a3:=fun a1=>ng (ownsRow_setCell_below (w:=wr.drewN a1) (a:=⟨b,3,none⟩) x z (.int .i64 ((d:Int)+1)));go_wp2_with fail;go_quiet (fail)
     go_wp2_with fail;go_quiet (fail)
     go_wp2;refine bodyPost_ret (results_none rfl _ _ _) rfl ?_;exact⟨rfl,(((o.drewN _).setB _ _).setT _ _).setT _ _,dU.yes h.out (by rw[xz];exact(((i.drewN _).setP _).other g _).other g _) ((((n.drewN _).other (Ne.symm g) _).setKind _).setText _)⟩
   rw[if_neg C]at c;have bo:(q==34)=false:=by simp[C]
   by_cases A:q=10
   ·subst A;rw[if_pos rfl]at c;have h:=ab c;clear c;go_wp2_with fail;go_quiet (fail)
    go_wp2_with fail;go_quiet (fail)
    go_wp2;refine bodyPost_ret (results_none rfl _ _ _) rfl ?_;exact⟨rfl,(o.drewN _).setB _ _,dU.no h.out ((i.drewN _).setK _) ((n.drewN _).other (Ne.symm g) _)⟩
   rw[if_neg A]at c;have bw:(q==10)=false:=by simp[A]
   by_cases H:q=92
   ·subst H;rw[if_pos rfl]at c;have v:=sQ s (by omega) (d+1) (by omega);have M:=xx s (d+1) (by omega);have B:=sR s (d+1) (by omega);rw[xz]at v;obtain⟨ap,O⟩:=ah (dx s (d+1));rw[O]at v M B c;clear O C A;obtain⟨N,e,av⟩:=ap;simp only at M B c;unfold An at v;simp only at v;cases av
    ·rw[if_neg (by simp)]at c;have h:=ab c;clear c;go_wp2_with fail;go_quiet (fail)
     go_wp2_with fail;go_quiet (fail)
     go_wp2_with fail;go_quiet ((go_at_call 160;exact Calls.quiet_of_same (v _)))
     go_wp2;refine bodyPost_ret (results_none rfl _ _ _) rfl ?_;exact⟨rfl,(((((o.drewN _).setB _ _).drewN _).setB _ _).setB _ _),dU.no h.out (((((i.drewN _).setP _).drewN _).setP _).setK _) (((((n.drewN _).other (Ne.symm g) _).drewN _).other (Ne.symm g) _).other (Ne.symm g) _)⟩
    ·rw[if_pos rfl]at c;have bk:=B rfl;have h:=ab c;clear c B;go_wp2_with fail;go_quiet (fail)
     go_wp2_with fail;go_quiet (fail)
     go_wp2_with fail;go_quiet ((go_at_call 160;exact Calls.quiet_of_same (v _)))
     go_wp2_with (at_builtin;refine xy rfl (.tmp 100) (.tmp 102) rfl w.heap.size _ r j rfl (JO x z _ _ _ _) (by rw[fU,fU];exact al) (by omega) [N] 1 rfl (by decide) (by decide) _ rfl wr.heap.size rfl (by rw[fU,fU]) ?_;intro E S J G u);have y:bO b J s m fr (e:Int) l false:=((((i.drewN _).setP _).drewN _).setP _).below u z;go_roundw
     case rel=>exact⟨e,r+1,k,j++[N],y,((((n.drewN _).other (Ne.symm g) _).drewN _).other (Ne.symm g) _).below u an,G,by omega,by omega,by omega,h,((((o.drewN _).setB _ _).drewN _).setB _ _).below u⟩
     case measure=>rw[ib y,ib i];omega
   rw[if_neg H]at c;have bh:(q==92)=false:=by simp[H]
   have h:=ab c;clear c;go_wp2_with fail;go_quiet (fail)
   go_wp2_with fail;go_quiet (fail)
   go_wp2_with (at_builtin;refine xy rfl (.tmp 43) (.tmp 45) rfl w.heap.size _ r j rfl (ownsRow_setCell_below (a:=⟨b,3,none⟩) (w:=wr.drewN _) x z _) (by rw[fU];exact al) (by omega) [q] 1 rfl (by decide) (by decide) _ rfl wr.heap.size rfl (fU _ _ _ _) ?_;intro E S J G u);have y:bO b J s m fr ((d+1:Nat):Int) l false:=by rw[xz];exact((i.drewN _).setP _).below u z
   go_roundw
   case rel=>exact⟨d+1,r+1,k,j++[q],y,((n.drewN _).other (Ne.symm g) _).below u an,G,by omega,by omega,by omega,h,((o.drewN _).setB _ _).below u⟩
   case measure=>rw[ib y,ib i];omega
  ·have c:=af.out;unfold bX at c;rw[if_pos (by omega)]at c;have h:=ab c;clear c;obtain rfl:d=s.size:=by omega
   go_wp2_with fail;go_quiet (fail)
   go_wp2;go_end0
   exact⟨rfl,(o.drewN _).setB _ _,dU.no h.out ((i.drewN _).setK _) ((n.drewN _).other (Ne.symm g) _)⟩
theorem jq{w x:World}{b:Nat}{a:Addr}(h:w.grownBy x (some b))(v:Value)(f:w.heap.size<=a.block):w.grownBy (x.setCell a v) (some b):=
 ⟨h.os,h.tape,h.output,by simpa [World.setCell] using h.size,fun c d e=>by rw[heap_setCell_other _ _ _ _ (by omega)];exact h.block c d e⟩
theorem Gc{w x d:World}{b t:Nat}(h:Below w.heap.size w x)(k:fT b t x d)(g:w.heap.size<=t):w.grownBy d (some b):=
 ⟨k.os.trans h.os,k.tape.trans h.tape,k.output.trans h.output,Nat.le_trans h.size k.size,fun c a e=>(k.block c (Nat.lt_of_lt_of_le a h.size) (fun f=>e (by rw[f])) (by omega)).trans (h.block c a)⟩
end Go.Proofs.YtcbmoiabehpliaaGreatDoor
namespace Go.Proofs.YtcbmoiabehpliaaGreatDoor
open Go.RowKit Go.Maps Go.WideMaps
def bj:Array Value:=#[.string ⟨#[97,110,100]⟩,.string ⟨#[98,114,101,97,107]⟩,.string ⟨#[99,97,116,99,104]⟩,.string ⟨#[99,111,110,115,116]⟩,.string ⟨#[100,101,102,101,114]⟩,.string ⟨#[101,108,105,102]⟩,.string ⟨#[101,108,115,101]⟩,.string ⟨#[102,97,108,115,101]⟩,.string ⟨#[102,110]⟩,.string ⟨#[102,111,114]⟩,.string ⟨#[105,102]⟩,.string ⟨#[105,110]⟩,.string ⟨#[108,101,116]⟩,.string ⟨#[110,101,120,116]⟩,.string ⟨#[110,105,108]⟩,.string ⟨#[110,111,116]⟩,.string ⟨#[111,114]⟩,.string ⟨#[114,101,116,117,114,110]⟩,.string ⟨#[116,104,114,111,119]⟩,.string ⟨#[116,114,117,101]⟩,.string ⟨#[116,114,121]⟩,.string ⟨#[119,104,105,108,101]⟩]
def dy(k:Nat):ByteArray:=match bj[k]? with|some (.string a)=>a|_=>ByteArray.empty
theorem JP(k:Nat)(a:k<22)(w:World):(Instr.index 118 (.agg bj) (.int .i64 (k:Int))).run Tryz.prog w= .ok (.string (dy k)) w:=by
 rcases(show k=0\/k=1\/k=2\/k=3\/k=4\/k=5\/k=6\/k=7\/k=8\/k=9\/k=10\/k=11\/k=12\/k=13\/k=14\/k=15\/k=16\/k=17\/k=18\/k=19\/k=20\/k=21 by omega) with rfl|rfl|rfl|rfl|rfl|rfl|rfl|rfl|rfl|rfl|rfl|rfl|rfl|rfl|rfl|rfl|rfl|rfl|rfl|rfl|rfl|rfl;all_goals kernel_rfl
theorem sS:∀k:Fin 22,(dy k.val).size<=100:=by decide
def kV{H:Type}:Nat->DataW H
 |0=> .map []
 |k+1=>(kV k).put (.string (dy k).data.toList) (.lit (.int .i64 (10+(k:Int))))
theorem DF:Keyed Tryz.prog 9:=string_keyed Tryz.underlying9
theorem fK{H:Type}(w:World)(fr:Nat×Nat)(d:TypeId)(i:w.heap[0]?=some (.cells bj d fr)):
  Calls Tryz.prog 29 #[] w fun e g=>e= .returned (.map (some w.heap.size))/\g.ownsMap Tryz.prog 9 (plainElem (H:=H) Tryz.prog 3) w.heap.size 22 (kV 22)/\Below w.heap.size w g:=by
 have b:0<w.heap.size:=lt_of_block i;have q:∀w:World,(Instr.makeMap 82 (some (.int .i64 22))).run Tryz.prog w= .ok (.map (some w.heap.size)) (w.alloc (.map #[] 0)):=fun w=>by kernel_rfl
 have j:(w.alloc (.map #[] 0)).heap[0]?=some (.cells bj d fr):=(Below.heap_alloc w _ _ b).trans i;go_in;go_wp2_with (refine wpList_load_row rfl 118 _ rfl 0 rfl d _ fr _ j Tryz.underlying118 rfl (by kernel_rfl) ?_);go_loopw [6] (fun f wr=>∃a:Nat,a<=22/\f= .int .i64 a/\wr.ownsMap Tryz.prog 9 (plainElem (H:=H) Tryz.prog 3) w.heap.size a (kV a)/\Below w.heap.size w wr) (fun f _=>22-(intOf f).toNat)
 case atStart=>exact⟨0,by omega,rfl,World.ownsMap_made _ _ _ _,(Below.refl _ _).alloc (Nat.le_refl _) _⟩
 case round=>
  obtain⟨a,p,rfl,h,c⟩:=hrel;by_cases b:a<22
  ·have s:=fun w=>JP a b w;have u:(dy a).size<=100:=sS ⟨a,b⟩;have o:keyOf Tryz.prog 9 (.string (dy a))=some (.string (dy a).data.toList):=keyOf_string_mk Tryz.underlying9 (by unfold maxLen;omega);have k:Hid (kV (H:=H) (a+1)=(kV a).put (.string (dy a).data.toList) (.lit (.int .i64 (10+(a:Int))))):=rfl;go_wp2_with (at_mapUpdate;refine wpList_mapUpdate_own _ rfl _ _ _ 82 rfl 9 3 DF Tryz.underlying82 _ w.heap.size a _ rfl h (by unfold maxLen;omega) _ _ _ rfl rfl o _ [] (plainElem_int Tryz.underlying3 (WalkArith.wf_i64 (by omega))) ?_;intro t l m);go_roundw
   case rel=>exact⟨a+1,by omega,by go_num,by rw[k.out];exact l,c.grown m c.size (fun r n=>by cases n;exact Nat.le_refl _)⟩
   case measure=>simp[intOf];omega
  ·obtain rfl:a=22:=by omega
   go_wp2;go_ret;exact⟨rfl,h,c⟩
end Go.Proofs.YtcbmoiabehpliaaGreatDoor
