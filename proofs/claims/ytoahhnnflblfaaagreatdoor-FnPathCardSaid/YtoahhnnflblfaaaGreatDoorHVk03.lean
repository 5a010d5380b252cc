import Derived.Test.YtoahhnnflblfaaaGreatDoorHVk02
import Derived.BigQuiet
import Derived.OneCell
import Derived.Test.YtoahhnnflblfaaaGreatDoorHVk01
import Derived.Lib.Bytealg
set_option linter.all false
set_option maxRecDepth 100000
set_option maxHeartbeats 3200000
open Go.Value renaming string->M,int->N,slice->A4,pointer->A5,tuple->A6,agg->A7,bool->A9
open Go.IntKind renaming i64->O,u8->A8,u64->Br
open Go.Proofs.Tryz renaming prog->Q
open Bool renaming false->R,true->Y
open Option renaming some->S,none->W
open Go renaming World->T,Calls->Z,Value->A1,maxLen->B0
open Go.Ending renaming returned->U
open Go.Obj renaming cells->X
open Go.RowKit renaming Below->Ax,intOf->A0
open Go.Instr renaming index->A2
open ByteArray renaming empty->A3
namespace Go.Proofs.YtoahhnnflblfaaaGreatDoor
open Go.RowKit
def Code(base:Nat)(w:T)(f:Option Addr)(d:Nat):Prop:=
 d=0\/∃a e,f=S ⟨a,e,W⟩/\a<base/\∀c,c<d->∃b:Int,0<=b/\b<256/\w.cell? ⟨a,e+c,W⟩=S (N A8 b)
theorem Code.below{base:Nat}{w g:T}{a:Option Addr}{e:Nat}(h:Code base w a e)(j:Ax base w g):Code base g a e:=by
 rcases h with h|⟨b,f,i,c,k⟩
 ·exact .inl h
 ·exact .inr ⟨b,f,i,c,fun d l=>by obtain⟨n,z0,o,m⟩:=k d l;exact⟨n,z0,o,(j.cell (p:=⟨b,f+d,W⟩) c).trans m⟩⟩
def fw(b:Nat)(w:T)(a:Option Addr)(c cap:Nat)(p q r:Int):Prop:=
 w.heap[b]?=S (X #[A4 a c cap,N O p,N Br q,N O r] 41 (0,0))
theorem wH{b:Nat}{w:T}{a:Option Addr}{c cap:Nat}{p q r:Int}(h:fw b w a c cap p q r):
  w.cell? ⟨b,0,W⟩=S (A4 a c cap)/\w.cell? ⟨b,1,W⟩=S (N O p)/\w.cell? ⟨b,2,W⟩=S (N Br q)/\w.cell? ⟨b,3,W⟩=S (N O r)/\
  w.frozen? ⟨b,1,W⟩=R/\w.frozen? ⟨b,2,W⟩=R/\w.frozen? ⟨b,3,W⟩=R:=by
 unfold fw at h;refine⟨by rw[ay _ _ _ _ _ _ h];rfl,by rw[ay _ _ _ _ _ _ h];rfl,by rw[ay _ _ _ _ _ _ h];rfl,by rw[ay _ _ _ _ _ _ h];rfl,dI _ _ _ _ _ h,dI _ _ _ _ _ h,dI _ _ _ _ _ h⟩
theorem fw.set1{b:Nat}{w:T}{a:Option Addr}{c cap:Nat}{p q r:Int}(h:fw b w a c cap p q r)(x:Int):fw b (w.setCell ⟨b,1,W⟩ (N O x)) a c cap x q r:=cE w b 1 _ _ _ h
theorem fw.set2{b:Nat}{w:T}{a:Option Addr}{c cap:Nat}{p q r:Int}(h:fw b w a c cap p q r)(x:Int):fw b (w.setCell ⟨b,2,W⟩ (N Br x)) a c cap p x r:=cE w b 2 _ _ _ h
theorem fw.set3{b:Nat}{w:T}{a:Option Addr}{c cap:Nat}{p q r:Int}(h:fw b w a c cap p q r)(x:Int):fw b (w.setCell ⟨b,3,W⟩ (N O x)) a c cap p q x:=cE w b 3 _ _ _ h
theorem fw.drewN{b:Nat}{w:T}{a:Option Addr}{c cap:Nat}{p q r:Int}(h:fw b w a c cap p q r)(n:Nat):fw b (w.drewN n) a c cap p q r:=h
theorem fw.lt{b:Nat}{w:T}{a:Option Addr}{c cap:Nat}{p q r:Int}(h:fw b w a c cap p q r):b<w.heap.size:=au h
theorem vg(w:T)(b:Nat):w.grownBy w (S b):=⟨rfl,rfl,rfl,ag _,fun _ _ _=>rfl⟩
theorem FH{w0 w:T}{b:Nat}(h:w0.grownBy w (S b))(n:Nat):w0.grownBy (w.drewN n) (S b):=⟨h.os,h.tape,h.output,h.size,h.block⟩
theorem wI{w0 w:T}{b:Nat}(h:w0.grownBy w (S b))(i:Nat)(v:A1):w0.grownBy (w.setCell ⟨b,i,W⟩ v) (S b):=
 ⟨h.os,h.tape,h.output,by simpa [World.setCell] using h.size,fun e d a=>by rw[bh _ _ _ _ (fun c=>a (by rw[c]))];exact h.block e d a⟩
theorem FI{x y e:T}{b:Nat}(h:x.grownBy y (S b))(k:y.grownBy e (S b)):x.grownBy e (S b):=
 ⟨k.os.trans h.os,k.tape.trans h.tape,k.output.trans h.output,dh h.size k.size,fun d a c=>(k.block d (jq a h.size) c).trans (h.block d a c)⟩
theorem vh{x y:T}{b base:Nat}(h:x.grownBy y (S b))(c:base<=b)(d:base<=x.heap.size):Ax base x y:=
 (ai base x).grown h d (fun e a=>by cases a;exact c)
theorem anr(x:Int):0<=wrap64 (bits .and Br (IntKind.u64.wrap x / 1099511627776) 255)/\wrap64 (bits .and Br (IntKind.u64.wrap x / 1099511627776) 255)<256:=by
 have b:IntKind.u64.wrap x=x%18446744073709551616:=by simp[IntKind.wrap,IntKind.bits,IntKind.signed]
 have f:0<=IntKind.u64.wrap x / 1099511627776:=by rw[b];omega
 have g:IntKind.u64.wrap x / 1099511627776<2 ^ 24:=by rw[b];omega
 have h:∀a:Int,0<=a->a<2 ^ 24->IntKind.u64.wrap a=a:=fun a i j=>by
  have c:IntKind.u64.wrap a=a%18446744073709551616:=by simp[IntKind.wrap,IntKind.bits,IntKind.signed]
  rw[c];omega
 have:=bits_mask Br 24 (by decide) h 8 (by decide) _ f g;have d:((2:Int) ^ 8-1)=255:=by decide
 rw[d]at this;have e:((2:Int) ^ 8)=256:=by decide
 rw[this,e];unfold wrap64;omega
theorem agu(b base:Nat)(w:T)(d f a cap:Nat)(p q r:Int)(g:fw b w (S ⟨d,f,W⟩) a cap p q r)(v:0<=p)(t:p<a)(u:a<=1048576)
  (c:Int) (z0:0<=c) (y:c<256) (x:w.cell? ⟨d,f+p.toNat,W⟩=S (N A8 c)):
  Z Q 53 #[A5 (S ⟨b,0,W⟩)] w fun e h=>e= U (N O c)/\∃i,fw b h (S ⟨d,f,W⟩) a cap (p+1) i r/\w.grownBy h (S b):=by
 obtain⟨j,k,l,m,n,o,s⟩:=wH g;go_in;go_wp2;go_quiet (fail)
 go_wp2;go_quiet (fail)
 go_wp2;go_ret;exact⟨rfl,_,((g.drewN _).set1 _).set2 _,wI (wI (FH (vg w b) _) _ _) _ _⟩
theorem act(b base:Nat)(w:T)(d:Option Addr)(a cap:Nat)(p q r:Int)(g:fw b w d a cap p q r)(v:0<=p)(x:p<=1000000000)(t:¬p<a)(u:a<=1048576):
  Z Q 53 #[A5 (S ⟨b,0,W⟩)] w fun e h=>∃c:Int,0<=c/\c<256/\e= U (N O c)/\∃i,fw b h d a cap (p+1) i r/\w.grownBy h (S b):=by
 obtain⟨j,k,l,m,n,o,s⟩:=wH g;go_in;go_wp2;go_quiet (fail)
 go_wp2;go_ret;have f:=anr (IntKind.u64.wrap (q*6364136223846793005)+1442695040888963407);exact⟨_,f.1,f.2,rfl,_,((g.drewN _).set2 _).set1 _,wI (wI (FH (vg w b) _) _ _) _ _⟩
theorem vq(b base:Nat)(w:T)(d:Option Addr)(a cap:Nat)(p q r:Int)(g:fw b w d a cap p q r)(m:Code base w d a)(j:0<=p)(s:p<=1000000000)(i:a<=1048576):
  Z Q 53 #[A5 (S ⟨b,0,W⟩)] w fun e f=>∃c:Int,0<=c/\c<256/\e= U (N O c)/\∃x,fw b f d a cap (p+1) x r/\w.grownBy f (S b):=by
 by_cases h:p<a
 ·rcases m with y|⟨l,v,rfl,z,n⟩
  ·omega
  ·obtain⟨c,z0,k,u⟩:=n p.toNat (by omega);exact(agu b base w l v a cap p q r g j h i c z0 k u).mono fun e f ⟨o,t⟩=>⟨c,z0,k,o,t⟩
 ·exact act b base w d a cap p q r g j s h i
theorem zC(k:Int)(s:2<=k)(t:k<=200)(b base:Nat)(w:T)(d:Option Addr)(a cap:Nat)(p q r:Int)(i:fw b w d a cap p q r)(l:Code base w d a)(n:0<=p)(o:p<=1000000000)(m:a<=1048576):
  Z Q 28 #[A5 (S ⟨b,0,W⟩),N O k] w fun e g=>∃c:Int,0<=c/\c<k/\e= U (N O c)/\∃f,fw b g d a cap (p+1) f r/\w.grownBy g (S b):=by
 go_in;go_wp2_with (go_at_call 53;refine(vq b base w d a cap p q r i l n o m).mono ?_;rintro e g ⟨c,z0,u,rfl,f,j,h⟩);go_ret;exact⟨c%k,Int.emod_nonneg _ (by omega),Int.emod_lt_of_pos _ (by omega),rfl,f,j,h⟩
theorem fw.below{a b:Nat}{w e:T}{c:Option Addr}{d cap:Nat}{p q r:Int}(h:fw b w c d cap p q r)(f:Ax a w e)(g:b<a):fw b e c d cap p q r:=
 (f.block b g).trans h
theorem zD(w:T):(convert 22 9 (.slice W 0 0)).run Q w= .ok (.string A3) w:=by
 rw[Kr w 22 9 5 _ _ _ Tryz.underlying22 Tryz.underlying5 Tryz.underlying9];simp[Conv.bytesToString,Sem.run_pure]
theorem aaJ(l:List Int):∀r:ByteArray,(l.foldl (fun r n=>r.push (UInt8.ofNat n.toNat)) r).size=r.size+l.length:=by
 induction l with
 |nil=>intro r;rfl
 |cons b l a=>intro r;simp only[ju,cC];rw[a,ByteArray.size_push];omega
theorem qu(l:List Int):(fa l).size=l.length:=by
 unfold fa;rw[aaJ];simp
theorem ajp{w:T}{base e size:Nat}{v:A1}{n:Nat}{a:List A1}{b:Nat}(h:w.ownsRow base e size v n a)(c:b<base):v.ownBlock=W\/v.ownBlock≠S b:=by
 right;intro e;have:=(h.lt b e).1;omega
theorem ajq{x y d:T}{b:Nat}(h:x.grownBy y (S b))(k:Ax x.heap.size y d):x.grownBy d (S b):=
 ⟨k.os.trans h.os,k.tape.trans h.tape,k.output.trans h.output,dh h.size k.size,fun c a e=>(k.block c a).trans (h.block c a e)⟩
theorem aaK(n:Nat)(a3:n<=100)(b base:Nat)(w:T)(h:Option Addr)(g cap:Nat)(p q r:Int)(G:base<=b)(H:base<=w.heap.size)(x:fw b w h g cap p q r)(J:Code base w h g)(ak:0<=p)(a4:p<=900000000)(K:g<=1048576):
  Z Q 165 #[A5 (S ⟨b,0,W⟩),N O n] w fun e A=>∃s:ByteArray,s.size<=n/\e= U (M s)/\∃a f,0<=a/\a<=p+n/\fw b A h g cap a f r/\w.grownBy A (S b):=by
 have v:=x.lt;go_in;go_wp2_with fail;go_loopw [1,5] (fun t an wr=>∃(d c:Nat) (o:List Int) (a f:Int),t= N O d/\d+c=n/\wr.ownsRow w.heap.size 5 1 an c (B8 o)/\fw b wr h g cap a f r/\0<=a/\a<=p+c/\w.grownBy wr (S b)) (fun t _ _=>(A0 t).toNat)
 case atStart=>exact⟨n,0,[],p,q,rfl,rfl,bi _ _ _ _,x,ak,by omega,vg w b⟩
 case round=>
  obtain⟨d,c,o,a,f,rfl,z,j,k,m,a5,i⟩:=hrel;have y:=zj j;have a6:=i.size;have C:=aj z;have av:c<=n:=by omega
  have a2:d<=n:=by omega
  have B:=aj y;clear z y;by_cases a1:0<d
  ·go_wp2_with (first
    |(go_at_call 53;refine(vq b base wr h g cap a f r k (J.below (vh i G H)) m (by omega) K).mono ?_;rintro e w1 ⟨ba,z0,bb,rfl,am,I,l⟩;have L:=j.kept l (ajp j v);have a7:=l.size)
    |(at_builtin;refine mu rfl (.tmp 10) (.tmp 14) rfl w.heap.size _ c o rfl L (by omega) (by omega) [_] 1 rfl (by decide) (by decide) _ rfl rfl ?_;intro F E a9 af u))
   go_roundw
   case rel=>exact⟨d-1,c+1,_,a+1,am,by go_num,by have:=C.out;omega,af,I.below u v,by omega,by omega,ajq (FI i l) u⟩
   case measure=>simp[A0];omega
  ·obtain rfl:d=0:=by omega
   rcases j.2 with⟨rfl,ap⟩|⟨F,E,ao,rfl,a8⟩
   ·have al:=zD;go_wp2;go_ret;exact⟨_,by simp,rfl,a,f,m,by omega,k,i⟩
   ·have al:=pd j;go_wp2;go_ret;exact⟨_,by rw[qu];have:=B.out;omega,rfl,a,f,m,by omega,k,i⟩
def Ten(n:Nat):Prop:=n=10\/n=20\/n=40\/n=80\/n=160\/n=320\/n=640\/n=1280\/n=2560\/n=5120
theorem aaL{t:ByteArray}(h:Ten t.size)(a:t.size<4000):Ten (t++t).size:=by
 rw[ae];unfold Ten at *;omega
theorem agv{n:Nat}(h:Ten n)(a:¬n<4000):4001<=n:=by unfold Ten at h;omega
theorem agw{n:Nat}(h:Ten n):n<=5120:=by unfold Ten at h;omega
theorem agx{n:Nat}(h:Ten n):10<=n:=by unfold Ten at h;omega
def ans:A1->Nat| .string t=>t.size|_=>0
def ll(c:Int):Bool:=decide (c=32\/c=9\/c=13)
def bC(c:Int):Bool:=decide ((97<=c/\c<=122)\/(65<=c/\c<=90)\/c=95)
def ch(c:Int):Bool:=decide (48<=c/\c<=57)
theorem mL(c:Int)(w:T):Z Q 153 #[N A8 c] w fun e d=>e= U (A9 (ch c))/\w=d:=by
 rcases(show c<48\/57<c\/(48<=c/\c<=57) by omega) with h|h|⟨f,b⟩
 ·have e:ch c=R:=by simp[ch];omega
  rw[e];clear e;have a:¬48<=c:=by omega
  go_in;go_wp2;go_ret;exact⟨rfl,rfl⟩
 ·have e:ch c=R:=by simp[ch];omega
  rw[e];clear e;have a:¬c<=57:=by omega
  have b:48<=c:=by omega
  go_in;go_wp2;go_ret;exact⟨rfl,rfl⟩
 ·have e:ch c=Y:=by simp[ch];omega
  rw[e];clear e;go_in;go_wp2;go_ret;exact⟨rfl,rfl⟩
theorem vr(c:Int)(w:T):Z Q 167 #[N A8 c] w fun e j=>e= U (A9 (bC c))/\w=j:=by
 rcases(show(97<=c/\c<=122)\/(65<=c/\c<=90)\/c=95\/c<65\/(90<c/\c<97/\c≠95)\/122<c by omega) with⟨f,g⟩|⟨f,g⟩|rfl|h|⟨f,g,l⟩|h
 ·have e:bC c=Y:=by simp[bC];omega
  rw[e];clear e;go_in;go_wp2;go_ret;exact⟨rfl,rfl⟩
 ·have e:bC c=Y:=by simp[bC];omega
  rw[e];clear e;have a:¬97<=c:=by omega
  go_in;go_wp2;go_ret;exact⟨rfl,rfl⟩
 ·go_in;go_wp2;go_ret;exact⟨rfl,rfl⟩
 ·have e:bC c=R:=by simp[bC];omega
  rw[e];clear e;have a:¬97<=c:=by omega
  have b:¬65<=c:=by omega
  have d:(c==95)=R:=by simp;omega
  go_in;go_wp2;go_ret;exact⟨rfl,rfl⟩
 ·have e:bC c=R:=by simp[bC];omega
  rw[e];clear e;have a:¬97<=c:=by omega
  have b:65<=c:=by omega
  have i:¬c<=90:=by omega
  have d:(c==95)=R:=by simp;omega
  go_in;go_wp2;go_ret;exact⟨rfl,rfl⟩
 ·have e:bC c=R:=by simp[bC];omega
  rw[e];clear e;have a:97<=c:=by omega
  have b:¬c<=122:=by omega
  have i:65<=c:=by omega
  have k:¬c<=90:=by omega
  have d:(c==95)=R:=by simp;omega
  go_in;go_wp2;go_ret;exact⟨rfl,rfl⟩
def iC(c:Int):Int:=if 48<=c/\c<=57 then c-48 else if 97<=c/\c<=102 then c-87 else -1
def aw(s:ByteArray)(i:Nat):Int:=if h:i<s.size then(s[i].toNat:Int) else -1
theorem qk{s:ByteArray}{i:Nat}(h:i<s.size):0<=aw s i/\aw s i<256:=by
 unfold aw;rw[oA h];have:=s[i].toNat_lt;omega
theorem dD{s:ByteArray}{i:Nat}(h:¬i<s.size):aw s i= -1:=by unfold aw;rw[dif_neg h]
theorem eI{s:ByteArray}{i:Nat}(h:i<s.size)(w:T):(A2 9 (M s) (N O (i:Int))).run Q w= .ok (N A8 (aw s i)) w:=by
 unfold aw;rw[oA h];go_simp
theorem FJ{s:ByteArray}{i:Nat}(h:i+1<s.size)(w:T):(A2 9 (M s) (N O ((i:Int)+1))).run Q w= .ok (N A8 (aw s (i+1))) w:=by
 have:=eI h w;have a:((i+1:Nat):Int)=(i:Int)+1:=by omega
 rw[a]at this;exact this
theorem sL(c:Int):iC c<16:=by unfold iC;split;omega;split<;>omega
def hexI(s:ByteArray)(p:Nat):Int×Nat×Bool:=
 if iC (aw s p)<0 then(0,p,R) else if iC (aw s (p+1))<0 then(0,p+1,R) else(iC (aw s p)*16+iC (aw s (p+1)),p+1+1,Y)
def iH(s:ByteArray)(p:Nat):Int×Nat×Bool:=
 if aw s p=110 then(10,p+1,Y) else if aw s p=116 then(9,p+1,Y) else if aw s p=34\/aw s p=92 then(aw s p,p+1,Y) else if aw s p=120 then hexI s (p+1) else(0,p,R)
theorem Kv(s:ByteArray)(p:Nat)(h:p<=s.size):p<=(hexI s p).2.1/\(hexI s p).2.1<=s.size/\0<=(hexI s p).1/\(hexI s p).1<256:=by
 have b:iC (-1)= -1:=by decide
 have g:=sL (aw s p);have j:=sL (aw s (p+1));unfold hexI;split
 ·simp;omega
 ·rename_i c;have e:p<s.size:=by
   rcases bv p s.size with h|h
   ·exact h
   ·have a:=dD (s:=s) (i:=p) (by omega);rw[a,b]at c;omega
  split
  ·simp;omega
  ·rename_i d;have f:p+1<s.size:=by
    rcases bv (p+1) s.size with h|h
    ·exact h
    ·have a:=dD (s:=s) (i:=p+1) (by omega);rw[a,b]at d;omega
   simp;omega
theorem agy(s:ByteArray)(p:Nat)(h:p<=s.size):p<=(iH s p).2.1/\(iH s p).2.1<=s.size/\0<=(iH s p).1/\(iH s p).1<256:=by
 unfold iH;by_cases a:p<s.size
 ·have c:=qk a;split
  ·simp;omega
  split
  ·simp;omega
  split
  ·simp;omega
  split
  ·have:=Kv s (p+1) (by omega);omega
  ·simp;omega
 ·have b:=dD (s:=s) (i:=p) a;rw[b];simp;omega
theorem acu(s:ByteArray)(p:Nat)(h:p<=s.size)(c:(iH s p).2.2=Y):p+1<=(iH s p).2.1:=by
 revert c;unfold iH;split
 ·simp
 split
 ·simp
 split
 ·simp
 split
 ·rename_i a;have d:p<s.size:=by
   rcases bv p s.size with h|h
   ·exact h
   ·have b:=dD (s:=s) (i:=p) (by omega);rw[b]at a;omega
  intro _;exact(Kv s (p+1) (by omega)).1
 ·simp
def gK(b:Nat)(w:T)(k f t l n:Int)(x:ByteArray):Prop:=
 w.heap[b]?=S (X #[N O k,N O f,N O t,N O l,N O n,M x] 88 (0,0))
theorem cJ{b:Nat}{w:T}{k f t l n:Int}{x:ByteArray}(h:gK b w k f t l n x):
  w.cell? ⟨b,0,W⟩=S (N O k)/\w.cell? ⟨b,1,W⟩=S (N O f)/\w.cell? ⟨b,2,W⟩=S (N O t)/\w.cell? ⟨b,3,W⟩=S (N O l)/\w.cell? ⟨b,4,W⟩=S (N O n)/\w.cell? ⟨b,5,W⟩=S (M x)/\
  (∀j,w.frozen? ⟨b,j,W⟩=R):=by
 unfold gK at h;exact⟨by rw[ay _ _ _ _ _ _ h];rfl,by rw[ay _ _ _ _ _ _ h];rfl,by rw[ay _ _ _ _ _ _ h];rfl,by rw[ay _ _ _ _ _ _ h];rfl,by rw[ay _ _ _ _ _ _ h];rfl,by rw[ay _ _ _ _ _ _ h];rfl,fun j=>dI _ _ _ _ _ h⟩
theorem gK.other{b:Nat}{w:T}{k f t l n:Int}{x:ByteArray}(h:gK b w k f t l n x){a:Addr}(c:b≠a.block)(v:A1):gK b (w.setCell a v) k f t l n x:=(bh w a b v c).trans h
theorem gK.below{a b:Nat}{w c:T}{k f t l n:Int}{x:ByteArray}(h:gK b w k f t l n x)(d:Ax a w c)(e:b<a):gK b c k f t l n x:=(d.block b e).trans h
theorem gK.setKind{b:Nat}{w:T}{k f t l n:Int}{x:ByteArray}(h:gK b w k f t l n x)(y:Int):gK b (w.setCell ⟨b,0,W⟩ (N O y)) y f t l n x:=cE w b 0 _ _ _ h
theorem gK.setTo{b:Nat}{w:T}{k f t l n:Int}{x:ByteArray}(h:gK b w k f t l n x)(y:Int):gK b (w.setCell ⟨b,2,W⟩ (N O y)) k f y l n x:=cE w b 2 _ _ _ h
def fF(s:ByteArray):Nat->Nat->List Int->Bool×Nat×List Int
 |0,p,a=>(R,p,a)
 |f+1,p,a=>if s.size<=p then(R,p,a) else if aw s p=34 then(Y,p+1,a) else if aw s p=10 then(R,p,a) else if aw s p=92 then
   (if(iH s (p+1)).2.2=Y then fF s f (iH s (p+1)).2.1 (a++[(iH s (p+1)).1]) else(R,(iH s (p+1)).2.1,a))
  else fF s f (p+1) (a++[aw s p])
theorem vv(s:ByteArray):∀(f p:Nat)(a:List Int),p<=s.size->p<=(fF s f p a).2.1/\(fF s f p a).2.1<=s.size/\(fF s f p a).2.2.length<=a.length+(s.size-p)
 |0,p,a,h=>by simp[fF];omega
 |f+1,p,a,h=>by
  unfold fF;split
  ·simp;omega
  split
  ·simp;omega
  split
  ·simp;omega
  split
  ·have e:=agy s (p+1) (by omega);split
   ·rename_i b;have c:=acu s (p+1) (by omega) b;have:=vv s f (iH s (p+1)).2.1 (a++[(iH s (p+1)).1]) e.2.1;simp at this⊢;omega
   ·simp;omega
  ·have:=vv s f (p+1) (a++[aw s p]) (by omega);simp at this⊢;omega
open Go.Maps Go.WideMaps
def fd:Array A1:=#[M ⟨#[97,110,100]⟩,M ⟨#[98,114,101,97,107]⟩,M ⟨#[99,97,116,99,104]⟩,M ⟨#[99,111,110,115,116]⟩,M ⟨#[100,101,102,101,114]⟩,M ⟨#[101,108,105,102]⟩,M ⟨#[101,108,115,101]⟩,M ⟨#[102,97,108,115,101]⟩,M ⟨#[102,110]⟩,M ⟨#[102,111,114]⟩,M ⟨#[105,102]⟩,M ⟨#[105,110]⟩,M ⟨#[108,101,116]⟩,M ⟨#[110,101,120,116]⟩,M ⟨#[110,105,108]⟩,M ⟨#[110,111,116]⟩,M ⟨#[111,114]⟩,M ⟨#[114,101,116,117,114,110]⟩,M ⟨#[116,104,114,111,119]⟩,M ⟨#[116,114,117,101]⟩,M ⟨#[116,114,121]⟩,M ⟨#[119,104,105,108,101]⟩]
def pf(k:Nat):ByteArray:=match fd[k]? with|some (.string a)=>a|_=>A3
theorem ant(k:Nat)(a:k<22)(w:T):(A2 106 (A7 fd) (N O (k:Int))).run Q w= .ok (M (pf k)) w:=by
 rcases(show k=0\/k=1\/k=2\/k=3\/k=4\/k=5\/k=6\/k=7\/k=8\/k=9\/k=10\/k=11\/k=12\/k=13\/k=14\/k=15\/k=16\/k=17\/k=18\/k=19\/k=20\/k=21 by omega) with rfl|rfl|rfl|rfl|rfl|rfl|rfl|rfl|rfl|rfl|rfl|rfl|rfl|rfl|rfl|rfl|rfl|rfl|rfl|rfl|rfl|rfl;all_goals kernel_rfl
theorem FL:∀k:Fin 22,(pf k.val).size<=100:=by decide
def Iq{H:Type}:Nat->DataW H
 |0=> .map []
 |k+1=>(Iq k).put (.string (pf k).data.toList) (.lit (.int .i64 (10+(k:Int))))
theorem alG:Keyed Q 9:=string_keyed Tryz.underlying9
theorem Cf{H:Type}(w:T)(fr:Nat×Nat)(f:TypeId)(g:w.heap[0]?=S (.cells fd f fr)):
  Z Q 24 #[] w fun e i=>e= .returned (.map (S w.heap.size))/\i.ownsMap Q 9 (plainElem (H:=H) Q 3) w.heap.size 22 (Iq 22)/\Ax w.heap.size w i:=by
 have b:0<w.heap.size:=au g;have r:∀w:T,(Instr.makeMap 77 (S (.int .i64 22))).run Q w= .ok (.map (S w.heap.size)) (w.alloc (.map #[] 0)):=fun w=>by kernel_rfl
 have j:(w.alloc (.map #[] 0)).heap[0]?=S (.cells fd f fr):=(dt w _ _ b).trans g;go_in;go_wp2_with (refine wpList_load_row rfl 106 _ rfl 0 rfl f _ fr _ j Tryz.underlying106 rfl (by kernel_rfl) ?_);go_loopw [6] (fun d wr=>∃a:Nat,a<=22/\d= .int .i64 a/\wr.ownsMap Q 9 (plainElem (H:=H) Q 3) w.heap.size a (Iq a)/\Ax w.heap.size w wr) (fun d _=>22-(A0 d).toNat)
 case atStart=>exact⟨0,by omega,rfl,World.ownsMap_made _ _ _ _,(ai _ _).alloc (ag _) _⟩
 case round=>
  obtain⟨a,q,rfl,h,c⟩:=hrel;by_cases b:a<22
  ·have p:=fun w=>ant a b w;have s:(pf a).size<=100:=FL ⟨a,b⟩;have m:keyOf Q 9 (.string (pf a))=S (.string (pf a).data.toList):=keyOf_string_mk Tryz.underlying9 (by unfold B0;omega);have o:Hid (Iq (H:=H) (a+1)=(Iq a).put (.string (pf a).data.toList) (.lit (.int .i64 (10+(a:Int))))):=rfl;go_wp2_with (at_mapUpdate;refine wpList_mapUpdate_own _ rfl _ _ _ 77 rfl 9 3 alG Tryz.underlying77 _ w.heap.size a _ rfl h (by unfold B0;omega) _ _ _ rfl rfl m _ [] (plainElem_int Tryz.underlying3 (WalkArith.wf_i64 (by omega))) ?_;intro w1 n k);go_roundw
   case rel=>exact⟨a+1,by omega,by go_num,by rw[o.out];exact n,c.grown k c.size (fun t l=>by cases l;exact ag _)⟩
   case measure=>simp[A0];omega
  ·obtain rfl:a=22:=by omega
   go_wp2;go_ret;exact⟨rfl,h,c⟩
def zE:Array A1:=#[M ⟨#[]⟩,M ⟨#[43]⟩,M ⟨#[45]⟩,M ⟨#[42]⟩,M ⟨#[47]⟩,M ⟨#[47,47]⟩,M ⟨#[37]⟩,M ⟨#[38]⟩,M ⟨#[124]⟩,M ⟨#[126]⟩,M ⟨#[60,60]⟩,M ⟨#[62,62]⟩,M ⟨#[46,46]⟩,M ⟨#[61,61]⟩,M ⟨#[126,61]⟩,M ⟨#[60]⟩,M ⟨#[60,61]⟩,M ⟨#[62]⟩,M ⟨#[62,61]⟩]
def mh:Array A1:=#[M ⟨#[40]⟩,M ⟨#[41]⟩,M ⟨#[123]⟩,M ⟨#[125]⟩,M ⟨#[91]⟩,M ⟨#[93]⟩,M ⟨#[44]⟩,M ⟨#[61]⟩,M ⟨#[46]⟩,M ⟨#[46,46,46]⟩,M ⟨#[35]⟩]
def nH:Array A1:=#[M ⟨#[46,46,46]⟩,M ⟨#[46,46]⟩,M ⟨#[46]⟩,M ⟨#[60,60]⟩,M ⟨#[60,61]⟩,M ⟨#[60]⟩,M ⟨#[62,62]⟩,M ⟨#[62,61]⟩,M ⟨#[62]⟩,M ⟨#[61,61]⟩,M ⟨#[61]⟩,M ⟨#[126,61]⟩,M ⟨#[126]⟩,M ⟨#[47,47]⟩,M ⟨#[47]⟩,M ⟨#[40]⟩,M ⟨#[41]⟩,M ⟨#[123]⟩,M ⟨#[125]⟩,M ⟨#[91]⟩,M ⟨#[93]⟩,M ⟨#[44]⟩,M ⟨#[59]⟩,M ⟨#[35]⟩,M ⟨#[43]⟩,M ⟨#[45]⟩,M ⟨#[42]⟩,M ⟨#[37]⟩,M ⟨#[38]⟩,M ⟨#[124]⟩]
theorem agz:(#[M ⟨#[]⟩,M ⟨#[43]⟩,M ⟨#[45]⟩,M ⟨#[42]⟩,M ⟨#[47]⟩,M ⟨#[47,47]⟩,M ⟨#[37]⟩,M ⟨#[38]⟩,M ⟨#[124]⟩,M ⟨#[126]⟩,M ⟨#[60,60]⟩,M ⟨#[62,62]⟩,M ⟨#[46,46]⟩,M ⟨#[61,61]⟩,M ⟨#[126,61]⟩,M ⟨#[60]⟩,M ⟨#[60,61]⟩,M ⟨#[62]⟩,M ⟨#[62,61]⟩]:Array A1)=zE:=rfl
theorem agA:(#[M ⟨#[40]⟩,M ⟨#[41]⟩,M ⟨#[123]⟩,M ⟨#[125]⟩,M ⟨#[91]⟩,M ⟨#[93]⟩,M ⟨#[44]⟩,M ⟨#[61]⟩,M ⟨#[46]⟩,M ⟨#[46,46,46]⟩,M ⟨#[35]⟩]:Array A1)=mh:=rfl
def cG(V:Array A1)(k:Nat):ByteArray:=match V[k]? with|some (.string a)=>a|_=>A3
theorem ajr:∀k:Fin 19,zE[k.val]?=S (M (cG zE k.val)):=by
 intro ⟨k,a⟩;rcases(show k=0\/k=1\/k=2\/k=3\/k=4\/k=5\/k=6\/k=7\/k=8\/k=9\/k=10\/k=11\/k=12\/k=13\/k=14\/k=15\/k=16\/k=17\/k=18 by omega) with rfl|rfl|rfl|rfl|rfl|rfl|rfl|rfl|rfl|rfl|rfl|rfl|rfl|rfl|rfl|rfl|rfl|rfl|rfl;all_goals rfl
theorem ajs:∀k:Fin 11,mh[k.val]?=S (M (cG mh k.val)):=by
 intro ⟨k,a⟩;rcases(show k=0\/k=1\/k=2\/k=3\/k=4\/k=5\/k=6\/k=7\/k=8\/k=9\/k=10 by omega) with rfl|rfl|rfl|rfl|rfl|rfl|rfl|rfl|rfl|rfl|rfl;all_goals rfl
theorem acv:∀k:Fin 30,nH[k.val]?=S (M (cG nH k.val)):=by
 intro ⟨k,a⟩;rcases(show k=0\/k=1\/k=2\/k=3\/k=4\/k=5\/k=6\/k=7\/k=8\/k=9\/k=10\/k=11\/k=12\/k=13\/k=14\/k=15\/k=16\/k=17\/k=18\/k=19\/k=20\/k=21\/k=22\/k=23\/k=24\/k=25\/k=26\/k=27\/k=28\/k=29 by omega) with rfl|rfl|rfl|rfl|rfl|rfl|rfl|rfl|rfl|rfl|rfl|rfl|rfl|rfl|rfl|rfl|rfl|rfl|rfl|rfl|rfl|rfl|rfl|rfl|rfl|rfl|rfl|rfl|rfl|rfl;all_goals rfl
theorem Kw:∀k:Fin 22,fd[k.val]?=S (M (cG fd k.val)):=by
 intro ⟨k,a⟩;rcases(show k=0\/k=1\/k=2\/k=3\/k=4\/k=5\/k=6\/k=7\/k=8\/k=9\/k=10\/k=11\/k=12\/k=13\/k=14\/k=15\/k=16\/k=17\/k=18\/k=19\/k=20\/k=21 by omega) with rfl|rfl|rfl|rfl|rfl|rfl|rfl|rfl|rfl|rfl|rfl|rfl|rfl|rfl|rfl|rfl|rfl|rfl|rfl|rfl|rfl|rfl;all_goals rfl
def uo(V:Array A1)(s:ByteArray):Nat->Nat->Option Nat
 |0,_=>W
 |f+1,k=>if((cG V k).toList==s.toList)=Y then S k else uo V s f (k+1)
def ym(s:ByteArray):Int:=match uo zE s 18 1 with|some a=>60+(a:Int)|none=>(match uo mh s 11 0 with|some a=>40+(a:Int)|none=>5)
theorem rI(w:T):Z Q 123 #[] w fun e a=>e= U (A4 (S ⟨w.heap.size,0,W⟩) 22 22)/\a=w.alloc (X fd 9):=by
 go_in;go_wp2;go_ret;exact⟨rfl,rfl⟩
theorem xF(w:T):Z Q 76 #[] w fun e a=>e= U (A4 (S ⟨w.heap.size,0,W⟩) 30 30)/\a=w.alloc (X nH 9):=by
 go_in;go_wp2;go_ret;exact⟨rfl,rfl⟩
theorem uq(s:ByteArray)(w:T):Z Q 77 #[M s] w fun e C=>e= U (N O (ym s))/\Ax w.heap.size w C:=by
 go_in;go_wp2_with fail;rw[agz];have t:=ar w (X zE 9);have l:Ax w.heap.size w (w.alloc (X zE 9)):=(ai _ w).alloc (ag _) _;generalize w.alloc (X zE 9)=i at t l⊢;obtain⟨v,q⟩:=aA (uo zE s 18 1);have k:=aj q;clear q;go_loop [4] (fun d=>∃a:Nat,1<=a/\a<=19/\d= N O a/\Hid (uo zE s (19-a) a=v)) (fun d=>19-(A0 d).toNat)
 case atStart=>exact⟨1,by omega,by omega,rfl,k⟩
 case round=>
  obtain⟨a,E,z,rfl,g⟩:=hrel;by_cases p:a<19
  ·have o:i.cell? ⟨w.heap.size,a,W⟩=S (M (cG zE a)):=by rw[ay _ _ _ _ _ _ t];exact ajr ⟨a,p⟩
   have b:=g.out;rw[show 19-a=(19-(a+1))+1 by omega]at b;unfold uo at b;generalize cG zE a=j at o b;by_cases c:(j.toList==s.toList)=Y
   ·rw[ab c]at b;have f:=aj b;clear b;go_wp2;go_ret;refine⟨?_,l⟩;unfold ym;rw[k.out,<-f.out];rfl
   ·rw[aa c]at b;have f:=aj b;have B:(j.toList==s.toList)=R:=by simpa using c
    clear b c;go_wp2;go_round
    case rel=>exact⟨a+1,by omega,by omega,by go_num,f⟩
    case measure=>simp[A0];omega
  ·obtain rfl:a=19:=by omega
   have f:=aj g.out;go_wp2_with fail;rw[agA];have u:=ar i (X mh 9);have A:=l.size;have n:Ax w.heap.size w (i.alloc (X mh 9)):=l.alloc A _;generalize i.alloc (X mh 9)=y at u n⊢;obtain⟨x,r⟩:=aA (uo mh s 11 0);have m:=aj r;clear r;go_loop [26] (fun d=>∃a:Nat,a<=11/\d= N O a/\Hid (uo mh s (11-a) a=x)) (fun d=>11-(A0 d).toNat)
   case atStart=>exact⟨0,by omega,rfl,m⟩
   case round=>
    obtain⟨a,z,rfl,g⟩:=hrel;by_cases p:a<11
    ·have o:y.cell? ⟨i.heap.size,a,W⟩=S (M (cG mh a)):=by rw[ay _ _ _ _ _ _ u];exact ajs ⟨a,p⟩
     have b:=g.out;rw[show 11-a=(11-(a+1))+1 by omega]at b;unfold uo at b;generalize cG mh a=j at o b;by_cases c:(j.toList==s.toList)=Y
     ·rw[ab c]at b;have h:=aj b;clear b;go_wp2;go_ret;refine⟨?_,n⟩;unfold ym;rw[k.out,<-f.out,m.out,<-h.out];rfl
     ·rw[aa c]at b;have h:=aj b;have B:(j.toList==s.toList)=R:=by simpa using c
      clear b c;go_wp2;go_round
      case rel=>exact⟨a+1,by omega,by go_num,h⟩
      case measure=>simp[A0];omega
    ·obtain rfl:a=11:=by omega
     have h:=aj g.out;go_wp2;go_ret;refine⟨?_,n⟩;unfold ym;rw[k.out,<-f.out,m.out,<-h.out];rfl
def aiE:ByteArray:=⟨#[59]⟩
def alH:ByteArray:=⟨#[10]⟩
def Ir:ByteArray:=⟨#[]⟩
def acw(a:Int):Nat->Nat->ByteArray
 |0,_=>Ir
 |f+1,k=>if ym (cG nH k)=a then cG nH k else acw a f (k+1)
def vw(a:Int):ByteArray:=if a=5 then aiE else if 10<=a/\a<32 then cG fd (a-10).toNat else acw a 30 0
def tI:Array A1:=#[M ⟨#[43]⟩,M ⟨#[45]⟩,M ⟨#[42]⟩,M ⟨#[47]⟩,M ⟨#[47,47]⟩,M ⟨#[37]⟩,M ⟨#[38]⟩,M ⟨#[124]⟩,M ⟨#[126]⟩,M ⟨#[60,60]⟩,M ⟨#[62,62]⟩,M ⟨#[46,46]⟩,M ⟨#[61,61]⟩,M ⟨#[126,61]⟩,M ⟨#[60]⟩,M ⟨#[60,61]⟩,M ⟨#[62]⟩,M ⟨#[62,61]⟩]
def ed(a:Int):ByteArray:=if a=5 then aiE else if a=7 then alH else if 10<=a/\a<=31 then cG fd (a-10).toNat else if 40<=a/\a<=50 then cG mh (a-40).toNat else if 61<=a/\a<=78 then cG tI (a-61).toNat else Ir
theorem zF(c:Int)(w:T):Z Q 118 #[N O c] w fun e d=>e= U (M (vw c))/\Ax w.heap.size w d:=by
 unfold vw;by_cases q:c=5
 ·subst q;go_in;go_wp2;go_ret;exact⟨rfl,ai _ _⟩
 rw[aa q];have am:(c==5)=R:=by simp[q]
 by_cases B:10<=c/\c<32
 ·rw[ab B];obtain⟨a,z⟩:∃a:Nat,c=10+(a:Int):=⟨(c-10).toNat,by omega⟩;subst z;have I:a<22:=by omega
  have H:((10+(a:Int))-10).toNat=a:=by omega
  rw[H];have l:Ax w.heap.size w (w.alloc (X fd 9)):=(ai _ w).alloc (ag _) _;have t:(w.alloc (X fd 9)).cell? ⟨w.heap.size,a,W⟩=S (M (cG fd a)):=by rw[ay _ _ _ _ _ _ (ar w _)];exact Kw ⟨a,I⟩
  obtain⟨b,h⟩:∃b,b=w.alloc (X fd 9):=⟨_,rfl⟩;rw[<-h]at t l;have v:Z Q 123 #[] w fun e d=>e= U (A4 (S ⟨w.heap.size,0,W⟩) 22 22)/\b=d:=by rw[h];exact(rI w).mono fun e d g=>⟨g.1,g.2.symm⟩
  clear h;go_in;go_wp2_with (go_at_call 123;refine v.mono ?_;rintro e w1 ⟨rfl,rfl⟩);go_ret;exact⟨rfl,l⟩
 ·rw[aa B];obtain⟨b,h⟩:∃b,b=w.alloc (X fd 9):=⟨_,rfl⟩;have v:Z Q 123 #[] w fun e d=>e= U (A4 (S ⟨w.heap.size,0,W⟩) 22 22)/\b=d:=by rw[h];exact(rI w).mono fun e d g=>⟨g.1,g.2.symm⟩
  have l:Ax w.heap.size w b:=by rw[h];exact(ai _ w).alloc (ag _) _
  clear h;obtain⟨i,n⟩:∃i,i=b.alloc (X nH 9):=⟨_,rfl⟩;have ak:Z Q 76 #[] b fun e d=>e= U (A4 (S ⟨b.heap.size,0,W⟩) 30 30)/\i=d:=by rw[n];exact(xF b).mono fun e d g=>⟨g.1,g.2.symm⟩
  have y:i.heap[b.heap.size]?=S (X nH 9 (0,0)):=by rw[n];exact ar b _
  have G:Ax b.heap.size b i:=by rw[n];exact(ai _ b).alloc (ag _) _
  have ao:b.heap.size<i.heap.size:=au y;clear n;obtain⟨E,r⟩:=aA (acw c 30 0);rw[r];have C:=aj r;clear r;have L:=l.size;rcases(show ¬10<=c\/(10<=c/\¬c<10+22) by omega) with F|⟨an,F⟩;all_goals
   go_in;go_wp2_with (first|(go_at_call 123;refine v.mono ?_;rintro e w1 ⟨rfl,rfl⟩)|(go_at_call 76;refine ak.mono ?_;rintro e ap ⟨rfl,rfl⟩));go_loopw [25] (fun u wr=>∃a:Nat,a<=30/\u= N O a/\Hid (acw c (30-a) a=E)/\wr.heap[b.heap.size]?=S (X nH 9 (0,0))/\Ax w.heap.size w wr) (fun u _=>30-(A0 u).toNat)
   case atStart=>exact⟨0,by omega,rfl,C,y,l.trans (G.mono L)⟩
   case round=>
    obtain⟨a,z,rfl,x,s,p⟩:=hrel;have A:=p.size;by_cases K:a<30
    ·have t:wr.cell? ⟨b.heap.size,a,W⟩=S (M (cG nH a)):=by rw[ay _ _ _ _ _ _ s];exact acv ⟨a,K⟩
     have f:=x.out;rw[show 30-a=(30-(a+1))+1 by omega]at f;unfold acw at f;have J:b.heap.size<wr.heap.size:=au s;generalize cG nH a=m at t f;by_cases j:ym m=c
     ·rw[ab j]at f;have k:=aj f;have af:(ym m==c)=Y:=by simp[j]
      clear f j;go_wp2_with (go_at_call 77;refine(uq m _).mono ?_;rintro e al ⟨rfl,o⟩);go_ret;exact⟨by rw[<-k.out];rfl,p.trans (o.mono A)⟩
     ·rw[aa j]at f;have k:=aj f;have af:(ym m==c)=R:=by simp[j]
      clear f j;go_wp2_with (go_at_call 77;refine(uq m _).mono ?_;rintro e al ⟨rfl,o⟩);go_roundw
      case rel=>exact⟨a+1,by omega,by go_num,k,(o.block _ J).trans s,p.trans (o.mono A)⟩
      case measure=>simp[A0];omega
    ·obtain rfl:a=30:=by omega
     have k:=aj x.out;go_wp2;go_ret;exact⟨by rw[<-k.out];rfl,p⟩
theorem xG(c:Int)(w:T):Z Q 73 #[N A8 c] w fun e d=>e= U (A9 (ch c))/\w=d:=by
 rcases(show c<48\/57<c\/(48<=c/\c<=57) by omega) with h|h|⟨f,b⟩
 ·have e:ch c=R:=by simp[ch];omega
  rw[e];clear e;have a:¬48<=c:=by omega
  go_in;go_wp2;go_ret;exact⟨rfl,rfl⟩
 ·have e:ch c=R:=by simp[ch];omega
  rw[e];clear e;have a:¬c<=57:=by omega
  have b:48<=c:=by omega
  go_in;go_wp2;go_ret;exact⟨rfl,rfl⟩
 ·have e:ch c=Y:=by simp[ch];omega
  rw[e];clear e;go_in;go_wp2;go_ret;exact⟨rfl,rfl⟩
theorem oB(c:Int)(w:T):Z Q 71 #[N A8 c] w fun e j=>e= U (A9 (bC c))/\w=j:=by
 rcases(show(97<=c/\c<=122)\/(65<=c/\c<=90)\/c=95\/c<65\/(90<c/\c<97/\c≠95)\/122<c by omega) with⟨f,g⟩|⟨f,g⟩|rfl|h|⟨f,g,l⟩|h
 ·have e:bC c=Y:=by simp[bC];omega
  rw[e];clear e;go_in;go_wp2;go_ret;exact⟨rfl,rfl⟩
 ·have e:bC c=Y:=by simp[bC];omega
  rw[e];clear e;have a:¬97<=c:=by omega
  go_in;go_wp2;go_ret;exact⟨rfl,rfl⟩
 ·go_in;go_wp2;go_ret;exact⟨rfl,rfl⟩
 ·have e:bC c=R:=by simp[bC];omega
  rw[e];clear e;have a:¬97<=c:=by omega
  have b:¬65<=c:=by omega
  have d:(c==95)=R:=by simp;omega
  go_in;go_wp2;go_ret;exact⟨rfl,rfl⟩
 ·have e:bC c=R:=by simp[bC];omega
  rw[e];clear e;have a:¬97<=c:=by omega
  have b:65<=c:=by omega
  have i:¬c<=90:=by omega
  have d:(c==95)=R:=by simp;omega
  go_in;go_wp2;go_ret;exact⟨rfl,rfl⟩
 ·have e:bC c=R:=by simp[bC];omega
  rw[e];clear e;have a:97<=c:=by omega
  have b:¬c<=122:=by omega
  have i:65<=c:=by omega
  have k:¬c<=90:=by omega
  have d:(c==95)=R:=by simp;omega
  go_in;go_wp2;go_ret;exact⟨rfl,rfl⟩
def lk(s:ByteArray)(p:Nat):Int:=if p<s.size then aw s p else 0
theorem Kx(s:ByteArray)(p:Nat):0<=lk s p/\lk s p<256:=by
 unfold lk;split
 ·rename_i a;exact qk a
 ·omega
theorem agB(s:ByteArray)(p:Nat):bC (lk s p)=bC (aw s p):=by
 unfold lk;split
 ·rfl
 ·rename_i a;rw[dD a];decide
theorem pg(s:ByteArray)(p:Nat):ch (lk s p)=ch (aw s p):=by
 unfold lk;split
 ·rfl
 ·rename_i a;rw[dD a];decide
theorem zG(s:ByteArray)(g:s.size<=1100000)(p:Nat)(w:T):Z Q 70 #[M s,N O p] w fun e c=>e= U (N A8 (lk s p))/\w=c:=by
 unfold lk;by_cases a:p<s.size
 ·rw[ab a];have b:=fun w=>eI a w;generalize aw s p=d at b;go_in;go_wp2;go_ret;exact⟨rfl,rfl⟩
 ·rw[aa a];have f:¬(p:Int)<(s.size:Int):=by omega
  go_in;go_wp2;go_ret;exact⟨rfl,rfl⟩
def pC(s:ByteArray):Nat->Nat->Nat
 |0,p=>p
 |f+1,p=>if bC (aw s p)=Y\/ch (aw s p)=Y then pC s f (p+1) else p
theorem Ea{s:ByteArray}{p:Nat}(h:¬p<s.size):¬(bC (aw s p)=Y\/ch (aw s p)=Y):=by
 rw[dD h];decide
theorem zH(s:ByteArray):∀(f p:Nat),p<=s.size->p<=pC s f p/\pC s f p<=s.size
 |0,p,h=>⟨ag _,h⟩
 |f+1,p,h=>by
  unfold pC;split
  ·rename_i a;have b:p<s.size:=by
    rcases bv p s.size with h1|h1
    ·exact h1
    ·exact absurd a (Ea (by omega))
   have:=zH s f (p+1) (by omega);omega
  ·exact⟨ag _,h⟩
theorem F3(s:ByteArray)(C:s.size<=1100000)(p:Nat)(x:p<=s.size)(w:T):Z Q 168 #[M s,N O p] w fun e h=>e= U (N O (pC s (s.size+1) p))/\h=w:=by
 obtain⟨u,n⟩:=aA (pC s (s.size+1) p);rw[n];have t:=aj n;clear n;go_in;go_wp2_with fail;go_loop [1] (fun o=>∃(b c:Nat),b<=s.size/\s.size<b+c/\o= N O b/\Hid (pC s c b=u)) (fun o=>s.size-(A0 o).toNat)
 case atStart=>exact⟨p,s.size+1,x,by omega,rfl,t⟩
 case round=>
  obtain⟨b,c,B,A,rfl,r⟩:=hrel;obtain⟨c,rfl⟩:∃v,c=v+1:=⟨c-1,by omega⟩;have a:=r.out;unfold pC at a;by_cases q:b<s.size
  ·have y:=fun w=>eI q w;generalize aw s b=f at y a;have j:=fun w=>vr f w;have l:=fun w=>mL f w;by_cases g:bC f=Y
   ·rw[ab (.inl g)]at a;have d:=aj a;clear a;rw[g]at j;clear g;go_wp2_with (go_at_call 167;refine(j _).mono ?_;rintro e h ⟨rfl,rfl⟩);go_round
    case rel=>exact⟨b+1,c,by omega,by omega,by go_num,d⟩
    case measure=>simp[A0];omega
   ·have k:bC f=R:=by simpa using g
    rw[k]at j;by_cases i:ch f=Y
    ·rw[ab (.inr i)]at a;have d:=aj a;clear a;rw[i]at l;clear g k i;go_wp2_with (first|(go_at_call 167;refine(j _).mono ?_;rintro e h ⟨rfl,rfl⟩)|(go_at_call 153;refine(l _).mono ?_;rintro e h ⟨rfl,rfl⟩));go_round
     case rel=>exact⟨b+1,c,by omega,by omega,by go_num,d⟩
     case measure=>simp[A0];omega
    ·have m:ch f=R:=by simpa using i
     rw[aa (by rw[k,m];simp)]at a;have d:=aj a;clear a;rw[m]at l;clear g k i m;go_wp2_with (first|(go_at_call 167;refine(j _).mono ?_;rintro e h ⟨rfl,rfl⟩)|(go_at_call 153;refine(l _).mono ?_;rintro e h ⟨rfl,rfl⟩));go_ret;exact⟨by rw[<-d.out];rfl,rfl⟩
  ·rw[aa (Ea q)]at a;have d:=aj a;clear a;have z:¬(b:Int)<(s.size:Int):=by omega
   go_wp2;go_ret;exact⟨by rw[<-d.out];rfl,rfl⟩
def rB(s:ByteArray):Bool:=(uo fd s 22 0).isSome
theorem zI(k:Nat):cG fd k=pf k:=rfl
theorem rJ(V:Array A1)(s:ByteArray):∀(f k j:Nat),uo V s f k=S j->k<=j/\j<k+f/\(cG V j).toList=s.toList
 |0,k,j,h=>by simp[uo]at h
 |f+1,k,j,h=>by
  unfold uo at h;split at h
  ·rename_i a;obtain rfl:=db h;exact⟨ag _,by omega,by simpa using a⟩
  ·have:=rJ V s f (k+1) j h;exact⟨by omega,by omega,this.2.2⟩
theorem F4(V:Array A1)(s:ByteArray):∀(f k:Nat),uo V s f k=W->∀j,k<=j->j<k+f->(cG V j).toList≠s.toList
 |0,k,h=>fun j a b=>by omega
 |f+1,k,h=>fun j a b=>by
  unfold uo at h;split at h
  ·cases h
  ·rename_i c;rcases jg a with rfl|h3
   ·simpa using c
   ·exact F4 V s f (k+1) h j h3 (by omega)
theorem F5{H:Type}:∀n,IsMap (Iq (H:=H) n)
 |0=>isMap_empty
 |n+1=>(F5 n).put _ _
theorem Ky{H:Type}(l:List UInt8):∀n,(∀j,j<n->(pf j).data.toList≠l)->Maps.has (Iq (H:=H) n) (.string l)=R
 |0,_=>rfl
 |n+1,h=>by
  show Maps.has ((Iq n).put _ _) _=R;rw[has_put_other (by intro e;exact h n (by omega) (by injection e with e;exact e.symm))];exact Ky l n fun j a=>h j (by omega)
theorem Kz{H:Type}(l:List UInt8)(j:Nat)(b:(pf j).data.toList=l):∀n,j<n->Maps.has (Iq (H:=H) n) (.string l)=Y
 |0,h=>by omega
 |n+1,h=>by
  show Maps.has ((Iq n).put _ _) _=Y;by_cases e:(pf n).data.toList=l
  ·rw[e];exact has_put_same (F5 n) (by trivial) _
  ·rw[has_put_other (by intro a;injection a with a;exact e a.symm)];rcases jg (Nat.le_of_lt_succ h) with rfl|h3
   ·exact absurd b e
   ·exact Kz l j b n h3
theorem acx{H:Type}(s:ByteArray):Maps.has (Iq (H:=H) 22) (.string s.data.toList)=rB s:=by
 unfold rB;cases h:uo fd s 22 0 with
 |none=>
  have:=F4 fd s 22 0 h;exact Ky _ 22 fun d g c=>this d (aG _) (by omega) (by rw[zI,gw,gw];exact c)
 |some b=>
  obtain⟨e,f,a⟩:=rJ fd s 22 0 b h;rw[zI,gw,gw]at a;exact Kz _ b a 22 (by omega)
theorem Is{H:Type}(s:ByteArray)(u:s.size<=1100000)(b:Nat)(w:T)(x:w.ownsMap Q 9 (plainElem (H:=H) Q 3) b 22 (Iq 22)):Z Q 152 #[.string s,.map (S b)] w fun e c=>e= .returned (.bool (decide (bC (aw s 0)=Y/\pC s (s.size+1) 0=s.size/\rB s=R)))/\c=w:=by
 have r:keyOf Q 9 (.string s)=S (.string s.data.toList):=keyOf_string_mk Tryz.underlying9 (by unfold B0;omega);by_cases m:0<s.size
 ·have v:(s.toList==[])=R:=by
   have:s.toList.length=s.size:=by rw[gw];simp
   cases hs:s.toList with
   |nil=>rw[hs]at this;simp at this;omega
   |cons z E=>rfl
  have y:∀w,(A2 9 (.string s) (.int .i64 0)).run Q w= .ok (.int .u8 (aw s 0)) w:=fun w=>eI m w;have f:=fun w=>vr (aw s 0) w;have p:=zH s (s.size+1) 0 (by omega);have i:=fun w=>F3 s u 0 (by omega) w;generalize aw s 0=g at y f;generalize pC s (s.size+1) 0=h at i p;by_cases d:bC g=Y
  ·rw[d]at f;by_cases n:h=s.size
   ·subst n;have t:¬(s.size:Int)<(s.size:Int):=by omega
    obtain⟨j,l⟩:=aA (rB s);have q:Maps.has (Iq (H:=H) 22) (.string s.data.toList)=j:=by rw[acx,l]
    have a:decide (bC g=Y/\s.size=s.size/\rB s=R)=!j:=by rw[d,l];cases j<;>simp
    rw[a];clear a l d;go_in;go_wp2_with (first|(go_at_call 167;refine(f _).mono ?_;rintro e c ⟨rfl,rfl⟩)|(go_at_call 168;refine(i _).mono ?_;rintro e c ⟨rfl,rfl⟩)|(at_lookup;refine wpList_lookup_own_ok_int _ rfl _ _ 77 rfl 9 3 .i64 alG Tryz.underlying77 Tryz.underlying3 (by kernel_rfl) b 22 _ rfl x _ _ rfl r ?_;intro A B C;rw[q]));go_ret;exact⟨rfl,rfl⟩
   ·have t:(h:Int)<(s.size:Int):=by omega
    have a:decide (bC g=Y/\h=s.size/\rB s=R)=R:=by simp[n]
    rw[a];clear a d;go_in;go_wp2_with (first|(go_at_call 167;refine(f _).mono ?_;rintro e c ⟨rfl,rfl⟩)|(go_at_call 168;refine(i _).mono ?_;rintro e c ⟨rfl,rfl⟩));go_ret;exact⟨rfl,rfl⟩
  ·have k:bC g=R:=by simpa using d
   rw[k]at f;have a:decide (bC g=Y/\h=s.size/\rB s=R)=R:=by simp[k]
   rw[a];clear a d k;go_in;go_wp2_with (first|(go_at_call 167;refine(f _).mono ?_;rintro e c ⟨rfl,rfl⟩)|(go_at_call 168;refine(i _).mono ?_;rintro e c ⟨rfl,rfl⟩));go_ret;exact⟨rfl,rfl⟩
 ·have o:s.toList=[]:=by
   have:s.toList.length=s.size:=by rw[gw];simp
   exact List.length_eq_zero_iff.1 (by omega)
  have v:(s.toList==[])=Y:=by rw[o];rfl
  have a:decide (bC (aw s 0)=Y/\pC s (s.size+1) 0=s.size/\rB s=R)=R:=by rw[dD m];simp[bC]
  rw[a];clear a o;go_in;go_wp2;go_ret;exact⟨rfl,rfl⟩
def wdT(s:ByteArray)(p:Nat):A1:=
 match uo fd (s.extract p (pC s (s.size+1) p)) 22 0 with
 |some a=> A7 #[N O (10+(a:Int)),N O p,N O (pC s (s.size+1) p),N O 0,N O 0,M ⟨#[]⟩]
 |none=> A7 #[N O 1,N O p,N O (pC s (s.size+1) p),N O 0,N O 0,M (s.extract p (pC s (s.size+1) p))]
theorem It(s:ByteArray)(br:s.size<=1100000)(p:Nat)(an:p<=s.size)(w:T):Z Q 72 #[M s,A7 #[N O 0,N O p,N O 0,N O 0,N O 0,M ⟨#[]⟩]] w fun e g=>e= U (A6 #[wdT s p,N O (-1)])/\Ax w.heap.size w g:=by
 unfold wdT;obtain⟨L,I⟩:=aA (pC s (s.size+1) p);have bj:=zH s (s.size+1) p an;rw[I]at bj⊢;have af:=aj I;clear I;obtain⟨bf,J⟩:=aA (uo fd (s.extract p L) 22 0);rw[J];have ba:=aj J;clear J;have B:gK w.heap.size ((w.alloc (X #[N O 0,N O p,N O 0,N O 0,N O 0,M ⟨#[]⟩] 88)).alloc (X #[N O 0,N O 0,N O 0,N O 0,N O 0,M ⟨#[]⟩] 88)) 0 p 0 0 0 ⟨#[]⟩:=(dt _ _ _ (by simp)).trans (ar w _);have C:gK (w.heap.size+1) ((w.alloc (X #[N O 0,N O p,N O 0,N O 0,N O 0,M ⟨#[]⟩] 88)).alloc (X #[N O 0,N O 0,N O 0,N O 0,N O 0,M ⟨#[]⟩] 88)) 0 0 0 0 0 ⟨#[]⟩:=by
  have:=ar (w.alloc (X #[N O 0,N O p,N O 0,N O 0,N O 0,M ⟨#[]⟩] 88)) (X #[N O 0,N O 0,N O 0,N O 0,N O 0,M ⟨#[]⟩] 88);rw[bu]at this;exact this
 have H:Ax w.heap.size w ((w.alloc (X #[N O 0,N O p,N O 0,N O 0,N O 0,M ⟨#[]⟩] 88)).alloc (X #[N O 0,N O 0,N O 0,N O 0,N O 0,M ⟨#[]⟩] 88)):=(((ai _ w).alloc (ag _) _).alloc (by simp) _);go_in;go_wp2_with fail;generalize (w.alloc (X #[N O 0,N O p,N O 0,N O 0,N O 0,M ⟨#[]⟩] 88)).alloc (X #[N O 0,N O 0,N O 0,N O 0,N O 0,M ⟨#[]⟩] 88)=q at B C H;have bA:w.heap.size+1<q.heap.size:=au C;go_loop [6] (fun k=>∃(b h:Nat),b<=s.size/\s.size<b+h/\k= N O b/\Hid (pC s h b=L)) (fun k=>s.size-(A0 k).toNat)
 case atStart=>exact⟨p,s.size+1,an,by omega,rfl,af⟩
 case round=>
  obtain⟨b,h,bx,bt,rfl,n⟩:=hrel;obtain⟨h,rfl⟩:∃bl,h=bl+1:=⟨h-1,by omega⟩;have c:=n.out;unfold pC at c;have x:=fun w=>zG s br b w;have f:=fun w=>oB (lk s b) w;have j:=fun w=>xG (lk s b) w;have i:bC (aw s b)=Y\/ch (aw s b)=Y->b<s.size:=by
   intro bn;rcases bv b s.size with h1|h1
   ·exact h1
   ·exact absurd bn (Ea (by omega))
  rw[agB]at f;rw[pg]at j;generalize lk s b=bs at x f j;generalize aw s b=y at c f j i;by_cases h1:bC y=Y
  ·rw[ab (.inl h1)]at c;have o:=aj c;have bq:=i (.inl h1);clear c i;rw[h1]at f;clear h1;go_wp2_with (first|(go_at_call 70;refine(x _).mono ?_;rintro e g ⟨rfl,rfl⟩)|(go_at_call 71;refine(f _).mono ?_;rintro e g ⟨rfl,rfl⟩));go_round
   case rel=>exact⟨b+1,h,by omega,by omega,by go_num,o⟩
   case measure=>simp[A0];omega
  ·have z:bC y=R:=by simpa using h1
   rw[z]at f;by_cases m:ch y=Y
   ·rw[ab (.inr m)]at c;have o:=aj c;have bq:=i (.inr m);clear c i;rw[m]at j;clear h1 z m;go_wp2_with (first|(go_at_call 70;refine(x _).mono ?_;rintro e g ⟨rfl,rfl⟩)|(go_at_call 71;refine(f _).mono ?_;rintro e g ⟨rfl,rfl⟩)|(go_at_call 73;refine(j _).mono ?_;rintro e g ⟨rfl,rfl⟩));go_round
    case rel=>exact⟨b+1,h,by omega,by omega,by go_num,o⟩
    case measure=>simp[A0];omega
   ·have G:ch y=R:=by simpa using m
    rw[aa (by rw[z,G];simp)]at c;rw[G]at j;clear h1 z m G i n af;subst c;obtain⟨ao,ap,av,a0,a1,a2,a3⟩:=cJ B;have t:=(B.setKind 1).setTo (b:Int);have E:=(C.other (a:=⟨w.heap.size,0,W⟩) (by simp) (N O 1)).other (a:=⟨w.heap.size,2,W⟩) (by simp) (N O (b:Int));have A:Ax w.heap.size w ((q.setCell ⟨w.heap.size,0,W⟩ (N O 1)).setCell ⟨w.heap.size,2,W⟩ (N O (b:Int))):=(H.setCell (by simp) _).setCell (by simp) _;obtain⟨r,K⟩:=aA ((q.setCell ⟨w.heap.size,0,W⟩ (N O 1)).setCell ⟨w.heap.size,2,W⟩ (N O (b:Int)));have bk:((q.setCell ⟨w.heap.size,0,W⟩ (N O 1)).setCell ⟨w.heap.size,2,W⟩ (N O (b:Int))).cell? ⟨w.heap.size,1,W⟩=S (N O p):=(cJ t).2.1;rw[K]at t E A;have bb:=aj K;clear K;go_wp2_with (first|(go_at_call 70;refine(x _).mono ?_;rintro e g ⟨rfl,rfl⟩)|(go_at_call 71;refine(f _).mono ?_;rintro e g ⟨rfl,rfl⟩)|(go_at_call 73;refine(j _).mono ?_;rintro e g ⟨rfl,rfl⟩));rw[show(q.setCell ⟨w.heap.size,0,W⟩ (N O 1)).setCell ⟨w.heap.size,2,W⟩ (N O (b:Int))=r from bb.out];refine(rI r).mono ?_;rintro e l ⟨rfl,u⟩;have al:gK w.heap.size l 1 p b 0 0 ⟨#[]⟩:=by rw[u];exact(dt _ _ _ (au t)).trans t
    have am:gK (w.heap.size+1) l 0 0 0 0 0 ⟨#[]⟩:=by rw[u];exact(dt _ _ _ (au E)).trans E
    have ak:Ax w.heap.size w l:=by rw[u];exact A.alloc A.size _
    have bo:l.heap[r.heap.size]?=S (X fd 9 (0,0)):=by rw[u];exact ar r _
    clear u t E A B C H bk ao ap av a0 a1 a2 a3 x f j;go_wp2_with fail;obtain⟨ao,ap,av,a0,a1,a2,a3⟩:=cJ al;obtain⟨z0,a5,a6,a7,a8,a9,b1⟩:=cJ am;have bE:w.heap.size<l.heap.size:=au al;have b0:w.heap.size+1<l.heap.size:=au am;go_loop [34] (fun k=>∃d:Nat,d<=22/\k= N O d/\Hid (uo fd (s.extract p b) (22-d) d=bf)) (fun k=>22-(A0 k).toNat)
    case atStart=>exact⟨0,by omega,rfl,ba⟩
    case round=>
     obtain⟨d,bw,rfl,n⟩:=hrel;by_cases i:d<22
     ·have bp:l.cell? ⟨r.heap.size,d,W⟩=S (M (cG fd d)):=by rw[ay _ _ _ _ _ _ bo];exact Kw ⟨d,i⟩
      have c:=n.out;rw[show 22-d=(22-(d+1))+1 by omega]at c;unfold uo at c;generalize cG fd d=a4 at bp c;by_cases F:(a4.toList==(s.extract p b).toList)=Y
      ·rw[ab F]at c;subst c;go_wp2;refine bB (v:= A6 #[A7 #[N O (10+(d:Int)),N O p,N O b,N O 0,N O 0,M ⟨#[]⟩],N O (-1)]) (by simp[results,Tryz.results72,go_sem,z0,a5,a6,a7,a8,a9]) rfl ⟨rfl,?_⟩
       iterate 7 refine fI ?_ (by simp) _
       exact ak
      ·rw[aa F]at c;have o:=aj c;have bD:(a4.toList==(s.extract p b).toList)=R:=by simpa using F
       clear c F;go_wp2;go_round
       case rel=>exact⟨d+1,by omega,by go_num,o⟩
       case measure=>simp[A0];omega
     ·obtain rfl:d=22:=by omega
      have c:=n.out;simp only[gH,uo]at c;subst c;go_wp2;refine bB (v:= A6 #[A7 #[N O 1,N O p,N O b,N O 0,N O 0,M (s.extract p b)],N O (-1)]) (by simp[results,Tryz.results72,go_sem,z0,a5,a6,a7,a8,a9]) rfl ⟨rfl,?_⟩
      iterate 7 refine fI ?_ (by simp) _
      exact ak
theorem mw{c:Int}(h:bC c=Y):65<=c/\c<=122:=by simp[bC]at h;omega
theorem iI{c:Int}(h:ch c=Y):48<=c/\c<=57:=by simpa [ch] using h
theorem acy(s:ByteArray)(p:Nat):∃(k:Int) (x:ByteArray),wdT s p= A7 #[N O k,N O p,N O (pC s (s.size+1) p),N O 0,N O 0,M x]/\((k==1)=!(rB (s.extract p (pC s (s.size+1) p)))):=by
 unfold wdT rB;cases h:uo fd (s.extract p (pC s (s.size+1) p)) 22 0 with
 |none=>exact⟨1,_,rfl,rfl⟩
 |some k=>exact⟨10+(k:Int),_,rfl,by simp;omega⟩
theorem xH(s:ByteArray)(r:s.size<=1100000)(p:Nat)(k:p<s.size)(d:bC (aw s p)=Y)(w:T):Z Q 36 #[M s,N O p] w fun e m=>e= U (A6 #[wdT s p,N O (-1)])/\Ax w.heap.size w m:=by
 have l:=fun w=>eI k w;have a:=fun w=>oB (aw s p) w;have b:=fun w=>It s r p (gy k) w;have t:=mw d;rw[d]at a;generalize aw s p=o at l a t;obtain⟨u,y,g,j⟩:=acy s p;rw[g]at b⊢;generalize pC s (s.size+1) p=n at b j;have F:(o==10)=R:=by simp;omega
 clear d j g;have h:gK w.heap.size ((w.alloc (X #[N O 0,N O 0,N O 0,N O 0,N O 0,M ⟨#[]⟩] 88)).alloc (X #[N O 0,N O p,N O 0,N O 0,N O 0,M ⟨#[]⟩] 88)) 0 0 0 0 0 ⟨#[]⟩:=(dt _ _ _ (by simp)).trans (ar w _);have f:Ax w.heap.size w ((w.alloc (X #[N O 0,N O 0,N O 0,N O 0,N O 0,M ⟨#[]⟩] 88)).alloc (X #[N O 0,N O p,N O 0,N O 0,N O 0,M ⟨#[]⟩] 88)):=(((ai _ w).alloc (ag _) _).alloc (by simp) _);go_in;go_wp2_with (first|(go_at_call 71;refine(a _).mono ?_;rintro e m ⟨rfl,rfl⟩));refine(b _).mono ?_;rintro e x ⟨rfl,c⟩;have i:=h.below c (by simp;omega);have q:=f.trans (c.mono (by simp;omega));clear c h f b a l;obtain⟨z0,z,A,B,C,E,H⟩:=cJ i;have G:w.heap.size<x.heap.size:=au i;go_wp2;refine bB (v:= A6 #[A7 #[N O u,N O p,N O n,N O 0,N O 0,M y],N O (-1)]) (by simp[results,Tryz.results36,go_sem,z0,z,A,B,C,E]) rfl ⟨rfl,?_⟩
 iterate 6 refine fI ?_ (by simp) _
 exact q
theorem gh(s:ByteArray):s.extract 0 s.size=s:=by
 simp
def jo(s:ByteArray):Bool:=decide (s.size<=40/\bC (aw s 0)=Y/\pC s (s.size+1) 0=s.size/\rB s=R)
theorem oC(s:ByteArray)(u:s.size<=1100000)(w:T):Z Q 102 #[M s] w fun e c=>e= U (A9 (jo s))/\Ax w.heap.size w c:=by
 unfold jo;by_cases i:0<s.size
 ·have v:((s.size:Int)==0)=R:=by rw[aL];omega
  by_cases n:s.size<=40
  ·have x:¬(40:Int)<(s.size:Int):=by omega
   have r:∀w,(A2 9 (M s) (N O 0)).run Q w= .ok (N A8 (aw s 0)) w:=fun w=>eI i w;have b:=fun w=>oB (aw s 0) w;by_cases a:bC (aw s 0)=Y
   ·have g:∀w,Z Q 36 #[M s,N O 0] w fun e c=>e= U (A6 #[wdT s 0,N O (-1)])/\Ax w.heap.size w c:=fun w=>xH s u 0 i a w;rw[a]at b;obtain⟨l,z,p,f⟩:=acy s 0;rw[p]at g;generalize pC s (s.size+1) 0=h at g f;generalize aw s 0=m at r b a;have q:decide (s.size<=40/\bC m=Y/\h=s.size/\rB s=R)=((l==1)&&((h:Int)==(s.size:Int))):=by
     by_cases o:h=s.size
     ·subst o;rw[gh]at f;rw[f,a];simp[n]
     ·simp[o];intro _;omega
    rw[q];clear q f p a;by_cases j:l=1
    ·subst j;go_in;go_wp2_with (first|(go_at_call 71;refine(b _).mono ?_;rintro e c ⟨rfl,rfl⟩)|(go_at_call 36;refine(g _).mono ?_;rintro e y ⟨rfl,d⟩));go_ret;exact⟨by simp,d.alloc d.size _⟩
    ·have t:(l==1)=R:=by simp[j]
     clear j;go_in;go_wp2_with (first|(go_at_call 71;refine(b _).mono ?_;rintro e c ⟨rfl,rfl⟩)|(go_at_call 36;refine(g _).mono ?_;rintro e y ⟨rfl,d⟩));go_ret;exact⟨by simp[t],d.alloc d.size _⟩
   ·have k:bC (aw s 0)=R:=by simpa using a
    rw[show decide (s.size<=40/\bC (aw s 0)=Y/\pC s (s.size+1) 0=s.size/\rB s=R)=R by simp[k]];rw[k]at b;clear a k;generalize aw s 0=m at r b;go_in;go_wp2_with (first|(go_at_call 71;refine(b _).mono ?_;rintro e c ⟨rfl,rfl⟩));go_ret;exact⟨rfl,ai _ _⟩
  ·have x:(40:Int)<(s.size:Int):=by omega
   rw[show decide (s.size<=40/\bC (aw s 0)=Y/\pC s (s.size+1) 0=s.size/\rB s=R)=R by simp[n]];go_in;go_wp2;go_ret;exact⟨rfl,ai _ _⟩
 ·have v:((s.size:Int)==0)=Y:=by rw[jH];omega
  rw[show decide (s.size<=40/\bC (aw s 0)=Y/\pC s (s.size+1) 0=s.size/\rB s=R)=R by rw[dD i];simp[bC]];go_in;go_wp2;go_ret;exact⟨rfl,ai _ _⟩
