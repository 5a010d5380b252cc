import Derived.Test.YtkdijoogonigpaaGreatDoorHUk09
import Derived.Test.YtkdijoogonigpaaGreatDoorHUk06
import Derived.Test.YtkdijoogonigpaaGreatDoorHUk12
import Derived.WalkSmall
set_option linter.all false
set_option maxRecDepth 100000
set_option maxHeartbeats 25600000
open Go.Value renaming int->M,string->S,ownBlock->A2,slice->B6
open Go.Proofs.Tryz renaming prog->O
open Go.IntKind renaming i64->Q,u64->B0,u8->B3
open Go.Lib renaming decDigits->R
open Go renaming World->T,Calls->Z,Value->B4,ownsRow_succ->B5
open Go.Ending renaming returned->U
open Go.RowKit renaming Below->V,intOf->B1,Hid->Ce
open List renaming range->X
open Option renaming some->Y,none->Ax
open Go.Obj renaming cells->A0
open Bool renaming false->Br,true->B2
namespace Go.Proofs.YtkdijoogonigpaaGreatDoor
open Go.RowKit Go.Maps Go.WideMaps
def sx(u:Nat)(j:Nat):Int:=gg ((u / 16 ^ j%16:Nat):Int)
def xK(u:Nat):Nat->ByteArray
 |0=>⟨#[48,120]⟩
 |r+1=>xK u r++co [sx u (15-r)]
theorem Nat.pow_mul_two16(k:Nat):(2:Int) ^ (4*k)=(16:Int) ^ k:=by rw[Int.pow_mul];rfl
theorem lq(u:Nat):∀r,(xK u r).size=r+2
 |0=>rfl
 |r+1=>by show(xK u r++co [sx u (15-r)]).size=_;rw[ae,lq u r];rfl
theorem Iw(d:Int)(b:0<=d)(c:d<16)(w:T):(Instr.index 9 (S ⟨#[48,49,50,51,52,53,54,55,56,57,97,98,99,100,101,102]⟩) (M B0 d)).run O w= .ok (M B3 (gg d)) w:=by
 have a:d.toNat<DG.size:=by simp only[DG];show d.toNat<16;omega
 have e:=ab9 d b c a;go_simp;exact e
theorem acb(c:Int)(a:0<=c)(b:c<18446744073709551616):bits .and B0 c 15=c%16:=by
 have:=bits_mask B0 64 (by decide) (fun f d e=>by rw[IntKind.wrap_u64];omega) 4 (by decide) c a b;simpa using this
theorem Gj(n:Int)(A: -9223372036854775808<=n)(B:n<0)(w:T):Z O 24 #[M Q n] w fun e z=>e= U (S (xK (n+18446744073709551616).toNat 16))/\V w.heap.size w z:=by
 obtain⟨c,x⟩:∃c:Nat,(c:Int)=n+18446744073709551616:=⟨(n+18446744073709551616).toNat,by omega⟩;rw[show(n+18446744073709551616).toNat=c by omega];obtain⟨d,p⟩:∃d:Int,d=(c:Int):=⟨_,rfl⟩;have ak:IntKind.u64.wrap n=d:=by rw[IntKind.wrap_u64];omega
 have L:0<=d:=by omega
 have af:d<18446744073709551616:=by omega
 have l:=ar p;have H:¬0<=n:=by omega
 clear p x;go_in;go_wp2_with fail;go_loopw [4,5] (fun y j wr=>∃b:Nat,b<=16/\j= M Q (60-4*(b:Int))/\y= S (xK c b)/\V w.heap.size w wr) (fun _ j _=>(B1 j+4).toNat)
 case atStart=>exact⟨0,by omega,rfl,rfl,aq _ _⟩
 case round=>
  obtain⟨b,I,rfl,rfl,h⟩:=hrel;by_cases C:b<16
  ·obtain⟨f,i⟩:∃f:Int,60-4*(b:Int)=f:=⟨_,rfl⟩;have F:0<=f:=by omega
   have G:f<=60:=by omega
   obtain⟨a,r⟩:∃a:Int,d / 2 ^ f.toNat=a:=⟨_,rfl⟩;have g:a=((c / 16 ^ (15-b):Nat):Int):=by
    rw[<-r,l.out,show f.toNat=4*(15-b) by omega,Nat.pow_mul_two16,Int.natCast_ediv];rfl
   have s:0<=a:=by rw[g];exact Int.natCast_nonneg _
   have t:a<18446744073709551616:=by
    rw[g];have:=Nat.div_le_self c (16 ^ (15-b));have:=l.out;omega
   have m:0<=a%16:=by omega
   have o:a%16<16:=by omega
   have u:bits .and B0 a 15=a%16:=acb a s t;have v:=fun w=>Iw (a%16) m o w;have k:Ce (co [gg (a%16)]=co [sx c (15-b)]):=by
    show _=_;unfold sx;rw[g];rfl
   generalize a%16=D at m o u v k;have E:=fun w=>ir (oJ w (gg D));have J:=lq c b;have K:(co [gg D]).size=1:=rfl;have q:=ar i;rw[i];clear g i;go_wp2;go_roundw
   case rel=>exact⟨b+1,by omega,by have:=q.out;congr 1;omega,by rw[k.out];rfl,h.alloc h.size _⟩
   case measure=>simp[B1];omega
  ·obtain rfl:b=16:=by omega
   go_wp2;go_ret;exact⟨rfl,h⟩
theorem ac7:bits .and B0 16 (IntKind.u64.wrap (-16))=16:=by decide+kernel
theorem ac8:IntKind.u64.wrap 4573923408821661840=4573923408821661840:=by decide+kernel
theorem agr(w:T)(b:w.cell? ⟨7,15,Ax⟩=Y (M B3 4)):Z O 146 #[M B0 16] w fun e a=>e= U (M Q 4)/\a=w:=by
 have c:=ac7;have d:=ac8;go_in;go_wp2;go_ret;exact⟨rfl,rfl⟩
theorem tz(w:T)(b:w.cell? ⟨7,15,Ax⟩=Y (M B3 4)):Z O 118 #[M B0 16] w fun e a=>e= U (M Q 4)/\a=w:=by
 go_in;go_wp2_with (go_at_call 146;refine(agr _ b).mono ?_;rintro e a ⟨rfl,rfl⟩);go_ret;exact⟨rfl,rfl⟩
theorem ac9:bits .and Q 16 15=0:=by decide+kernel
theorem p2(w:T):Z O 117 #[M Q 16] w fun e a=>e= U (.bool B2)/\a=w:=by
 have b:=ac9;go_in;go_wp2;go_ret;exact⟨rfl,rfl⟩
def D36:ByteArray:=⟨#[48,49,50,51,52,53,54,55,56,57,97,98,99,100,101,102,103,104,105,106,107,108,109,110,111,112,113,114,115,116,117,118,119,120,121,122]⟩
theorem aaz:∀i:Fin 16,((D36[i.val]'(by have:=i.isLt;show i.val<36;omega)).toNat:Int)=gg (i.val:Int):=by decide
theorem ada(d:Int)(c:0<=d)(e:d<16)(b:d.toNat<D36.size):((D36[d.toNat]'b).toNat:Int)=gg d:=by
 have:=aaz ⟨d.toNat,by omega⟩;have a:((d.toNat:Nat):Int)=d:=by omega
 simp only[a]at this;exact this
theorem E5(d:Int)(b:0<=d)(c:d<16)(w:T):(Instr.index 9 (S ⟨#[48,49,50,51,52,53,54,55,56,57,97,98,99,100,101,102,103,104,105,106,107,108,109,110,111,112,113,114,115,116,117,118,119,120,121,122]⟩) (M B0 d)).run O w= .ok (M B3 (gg d)) w:=by
 have a:d.toNat<D36.size:=by simp only[D36];show d.toNat<36;omega
 have e:=ada d b c a;have f:d<36:=by omega
 go_simp;exact e
structure Rw (B:Nat) (w:T) (u r:Nat):Prop where
 ex:∃arr,w.heap[B]?=Y (.cells arr 136 (0,0))/\arr.size=65/\∀j,j<r->arr[64-j]?=Y (.int .u8 (sx u j))
theorem Rw.step{a:Nat}{w:T}{u r:Nat}(d:Rw a w u r)(k:r<65)(x:Int)(h:x=sx u r):Rw a (w.setCell ⟨a,64-r,Ax⟩ (M B3 x)) u (r+1):=by
 obtain⟨i,e,f,g⟩:=d.ex;refine⟨_,bK w a (64-r) _ _ _ e,by simp[f],fun b j=>?_⟩;rw[Array.getElem?_setIfInBounds];by_cases c:b=r
 ·subst c;rw[ab rfl,ab (by omega),h]
 ·rw[aa (by omega)];exact g b (by omega)
theorem Rw.conv{a:Nat}{w:T}{u:Nat}(d:Rw a w u 16):(convert 22 9 (.slice (Y ⟨a,49,Ax⟩) 16 16)).run O w= .ok (.string (co ((X 16).map fun j=>sx u (15-j)))) w:=by
 obtain⟨k,e,l,f⟩:=d.ex;rw[zd w 22 9 5 _ _ _ Tryz.underlying22 Tryz.underlying5 Tryz.underlying9];refine run_bytesToString w _ 16 16 _ ?_;have:=run_loadCells_list (P:=O) w ⟨a,49,Ax⟩ (B8 ((X 16).map fun j=>sx u (15-j))) (fun j i b=>by
  have h:j<16:=by
   rcases be j 16 with g|g
   ·exact g
   ·rw[dL (by simpa [B8] using g)]at b;cases b
  have c:i= .int .u8 (sx u (15-j)):=by
   simp[B8,h]at b;exact b.symm
  subst c;rw[show(⟨a,49,Ax⟩:Addr).add j=⟨a,49+j,Ax⟩ by unfold Addr.add;split<;>simp_all,ay _ _ _ _ _ _ e];have:=f (15-j) (by omega);rw[show 64-(15-j)=49+j by omega]at this;exact this)
 exact this
theorem aaA(u:Nat)(a6:9223372036854775808<=u)(a7:u<18446744073709551616)(w:T)(x:w.cell? ⟨7,15,Ax⟩=Y (M B3 4)):Z O 87 #[.slice Ax 0 0,M B0 (u:Int),M Q 16,.bool Br,.bool Br] w fun e l=>e= U (.tuple #[.slice Ax 0 0,S (co ((X 16).map fun j=>sx u (15-j)))])/\V w.heap.size w l:=by
 have F:=qB w _ x;have a0:∀k,Z O 118 #[M B0 16] (w.alloc k) fun e l=>e= U (M Q 4)/\l=w.alloc k:=fun k=>tz _ ((lj (((aq w.heap.size w).alloc (ag _) k)) F).trans x);have B:Rw w.heap.size (w.alloc (A0 Tryz.zeroCells136 136)) u 0:=⟨_,ax w _,by kernel_rfl,fun j bf=>by omega⟩;have y:V w.heap.size w (w.alloc (A0 Tryz.zeroCells136 136)):=(aq _ w).alloc (ag _) _;obtain⟨m,n⟩:∃m,(X 16).map (fun j=>sx u (15-j))=m:=⟨_,rfl⟩;rw[n];have I:Ce ((X 16).map (fun j=>sx u (15-j))=m):=n;clear n;go_in;go_wp2_with (first|(go_at_call 117;refine(p2 _).mono ?_;rintro e l ⟨rfl,rfl⟩)|(go_at_call 118;refine dz (a0 _) ?_));generalize w.alloc (A0 Tryz.zeroCells136 136)=a2 at B y;go_loopw [1,13] (fun a1 s wr=>∃(r:Nat) (a:Int),r<=15/\s= M Q (65-(r:Int))/\a1= M B0 a/\Ce (a=((u / 16 ^ r:Nat):Int))/\Rw w.heap.size wr u r/\V w.heap.size w wr) (fun _ s _=>(B1 s).toNat)
 case atStart=>exact⟨0,(u:Int),by omega,rfl,rfl,by show(u:Int)=_;simp,B,y⟩
 case round=>
  obtain⟨r,a,bj,rfl,rfl,b,o,C⟩:=hrel;obtain⟨a3,d,a5,v⟩:=o.ex;have a8:w.heap.size<wr.heap.size:=au d;have p:0<=a:=by rw[b.out];exact Int.natCast_nonneg _
  have af:a<18446744073709551616:=by
   rw[b.out];have:=Nat.div_le_self u (16 ^ r);omega
  have z:0<=a%16:=by omega
  have A:a%16<16:=by omega
  have h:Ce (gg (a%16)=sx u r):=by show _=_;unfold sx;rw[b.out];rfl
  by_cases F:r<15
  ·have av:16<=a:=by
    rw[b.out];have K:16 ^ (r+1)<=16 ^ 15:=Nat.pow_le_pow_right (by omega) (by omega);have t:16 ^ 15=1152921504606846976:=by decide
    have a4:16<=u / 16 ^ r:=by
     rw[Nat.le_div_iff_mul_le (Nat.pow_pos (by omega))];rw[Nat.pow_succ]at K;omega
    omega
   have J:Ce (a / 16=((u / 16 ^ (r+1):Nat):Int)):=by
    show _=_;rw[b.out,Nat.pow_succ,<-Nat.div_div_eq_div_mul];rfl
   have ak:bits .and B0 a 15=a%16:=acb a p af;have E:=fun w=>E5 (a%16) z A w;generalize a%16=D at z A ak E h;obtain⟨c,L⟩:∃c:Nat,64-r=c:=⟨_,rfl⟩;have al:∃g,wr.cell? ⟨w.heap.size,c,Ax⟩=Y g:=by
    rw[ay _ _ _ _ _ _ d];exact⟨_,oH (by omega)⟩
   obtain⟨g,an⟩:=al;have ap:wr.frozen? ⟨w.heap.size,c,Ax⟩=Br:=dp _ _ _ _ _ d;have f:=o.step (by omega) (gg D) h.out;rw[L]at f;obtain⟨i,q⟩:∃i:Int,65-(r:Int)=i:=⟨_,rfl⟩;have a9:i-1=(c:Int):=by omega
   have bb:i<=65:=by omega
   have bd:c<=64:=by omega
   have H:=ar q;rw[q];clear q b v;go_wp2;go_roundw
   case rel=>exact⟨r+1,a / 16,by omega,by have:=H.out;congr 1;omega,rfl,J,f,C.setCell (by simp) _⟩
   case measure=>simp[B1];omega
  ·obtain rfl:r=15:=by omega
   have G:a<16:=by
    rw[b.out];have t:16 ^ 15=1152921504606846976:=by decide
    rw[t];omega
   have E:=fun w=>E5 a p G w;rw[Int.emod_eq_of_lt p G]at h;obtain⟨g,an⟩:∃g,wr.cell? ⟨w.heap.size,49,Ax⟩=Y g:=by
    rw[ay _ _ _ _ _ _ d];exact⟨_,oH (by omega)⟩
   have ap:wr.frozen? ⟨w.heap.size,49,Ax⟩=Br:=dp _ _ _ _ _ d;have f:Rw w.heap.size (wr.setCell ⟨w.heap.size,49,Ax⟩ (M B3 (gg a))) u 16:=o.step (r:=15) (by omega) (gg a) h.out;have am:=f.conv;rw[I.out]at am;have av:¬16<=a:=by omega
   clear b v f;go_wp2;go_ret2;exact⟨rfl,C.setCell (by simp) _⟩
theorem Ix(u:Nat)(d:9223372036854775808<=u)(f:u<18446744073709551616)(w:T)(c:w.cell? ⟨7,15,Ax⟩=Y (M B3 4)):Z O 68 #[M B0 (u:Int),M Q 16] w fun e b=>e= U (S (co ((X 16).map fun j=>sx u (15-j))))/\V w.heap.size w b:=by
 have a:=aaA u d f w c;generalize co ((X 16).map fun j=>sx u (15-j))=h at a;generalize (u:Int)=i at a;go_in;go_wp2_with (go_at_call 87;refine a.mono ?_;rintro e b ⟨rfl,g⟩);go_ret;exact⟨rfl,g⟩
theorem aaB(u:Nat)(d:9223372036854775808<=u)(f:u<18446744073709551616)(w:T)(c:w.cell? ⟨7,15,Ax⟩=Y (M B3 4)):Z O 51 #[M B0 (u:Int),M Q 16] w fun e b=>e= U (S (co ((X 16).map fun j=>sx u (15-j))))/\V w.heap.size w b:=by
 have a:=Ix u d f w c;generalize co ((X 16).map fun j=>sx u (15-j))=h at a;generalize (u:Int)=i at a;go_in;go_wp2_with (go_at_call 68;refine a.mono ?_;rintro e b ⟨rfl,g⟩);go_ret;exact⟨rfl,g⟩
theorem vh(a b:List Int):co (a++b)=co a++co b:=by
 have h:∀(d:List Int)(c:ByteArray),d.foldl (fun e f=>e.push (UInt8.ofNat f.toNat)) c=c++d.foldl (fun e f=>e.push (UInt8.ofNat f.toNat)) ByteArray.empty:=by
  intro d
  induction d with
  |nil=>intro c;simp
  |cons a e g=>
   intro c;rw[ni,ni,g (c.push _),g (ByteArray.empty.push _)];apply lF;simp[ByteArray.push,lC]
 unfold co;rw[List.foldl_append];exact h b _
theorem aaC(u:Nat):xK u 16=⟨#[48,120]⟩++co ((X 16).map fun j=>sx u (15-j)):=by
 have c:∀a,xK u a=⟨#[48,120]⟩++co ((X a).map fun j=>sx u (15-j)):=by
  intro a
  induction a with
  |zero=>rfl
  |succ a b=>rw[xK,b,List.range_succ,eL,vh,aB];rfl
 exact c 16
theorem Bm(n:Int)(m: -9223372036854775808<=n)(o:n<0)(w:T)(f:w.cell? ⟨7,15,Ax⟩=Y (M B3 4)):Z O 19 #[M Q n] w fun e d=>e= U (S (xK (n+18446744073709551616).toNat 16))/\V w.heap.size w d:=by
 obtain⟨a,i⟩:∃a:Nat,(a:Int)=n+18446744073709551616:=⟨(n+18446744073709551616).toNat,by omega⟩;rw[show(n+18446744073709551616).toNat=a by omega,aaC];have c:=aaB a (by omega) (by omega) w f;have j:IntKind.u64.wrap n=(a:Int):=by rw[IntKind.wrap_u64];omega
 have h:(co ((X 16).map fun b=>sx a (15-b))).size=16:=rfl;generalize co ((X 16).map fun b=>sx a (15-b))=k at c h;generalize (a:Int)=l at c j;clear i;go_in;go_wp2_with (go_at_call 51;refine c.mono ?_;rintro e d ⟨rfl,g⟩);go_ret;exact⟨rfl,g⟩
def qh(d:List UInt8):List Int:=d.map fun a=>(a.toNat:Int)
theorem sy(d:List UInt8):co (qh d)=⟨d.toArray⟩:=by
 have g:∀(d:List UInt8)(a:ByteArray),(qh d).foldl (fun c h=>c.push (UInt8.ofNat h.toNat)) a=⟨a.data++d.toArray⟩:=by
  intro d
  induction d with
  |nil=>intro a;simp[qh]
  |cons b c f=>
   intro a;show(qh c).foldl _ (a.push (UInt8.ofNat ((b.toNat:Int)).toNat))=_;rw[f];have e:UInt8.ofNat ((b.toNat:Int)).toNat=b:=by simp
   rw[e];simp[ByteArray.push]
 have:=g d ByteArray.empty;unfold co;rw[this];simp
def pre(c:Nat):List Int:=if c=0 then [] else qh (R c)
theorem Iy(c:Nat)(e:c≠0):pre c=pre (c / 10)++[48+((c%10:Nat):Int)]:=by
 have d:∀b,b<10->(((UInt8.ofNat (48+b)).toNat:Nat):Int)=48+(b:Int):=fun b f=>by
  rw[UInt8.toNat_ofNat',Nat.mod_eq_of_lt (by omega)];omega
 unfold pre;rw[aa e];by_cases a:c<10
 ·rw[ab (by omega),R,jK a,Nat.mod_eq_of_lt a];show [(((UInt8.ofNat (48+c)).toNat:Nat):Int)]=_;rw[d c a];rfl
 ·rw[aa (by omega),R,dif_neg a];show List.map _ (_++_)=_;rw[eL];show qh (R (c / 10))++[(((UInt8.ofNat (48+c%10)).toNat:Nat):Int)]=_;rw[d _ (by omega)]
theorem xg(N:Nat)(a5:N≠0)(b1:N<=9223372036854775807)(w:T):Z O 57 #[M Q (N:Int)] w fun e bw=>e= U (S ⟨(R N).toArray⟩)/\V w.heap.size w bw:=by
 obtain⟨g,A⟩:∃g:Int,(N:Int)=g:=⟨_,rfl⟩;rw[A];have cb:0<g:=by omega
 have bp:g<=9223372036854775807:=by omega
 have ce:(g==0)=Br:=by rw[aC];omega
 have cc:¬g<0:=by omega
 have ap:=ar A;clear A;go_in;go_wp2_with fail;go_loopw [0,4,5] (fun E bt cf wr=>∃(c:Int) (a:List Int),E= M Q c/\0<=c/\c<=9223372036854775807/\Ce (c.toNat<10 ^ (19-a.length)/\a.length<=19/\qh (R N)=pre c.toNat++a.reverse)/\wr.ownsRow w.heap.size 5 1 bt a.length (B8 a)/\V w.heap.size w wr) (fun E _ _ _=>(B1 E).toNat)
 case atStart=>
  refine⟨g,[],rfl,by omega,bp,⟨?_,by simp,?_⟩,dB _ _ _ _,aq _ _⟩
  ·have:(10:Nat) ^ (19-([]:List Int).length)=10000000000000000000:=by decide
   rw[this];omega
  ·rw[show g.toNat=N by have:=ap.out;omega];unfold pre;rw[aa a5];simp
 case round=>
  obtain⟨c,a,rfl,bx,bE,l,q,o⟩:=hrel;by_cases u:c=0
  ·subst u;obtain⟨_,L,K⟩:=l.out;have x:qh (R N)=a.reverse:=K;have z:0<a.length:=by
    have e:=congrArg List.length x;rw[za]at e;have:0<(qh (R N)).length:=by
     rw[R];split<;>simp[qh]
    omega
   have F:Ce (co a.reverse=⟨(R N).toArray⟩):=by show _=_;rw[<-x,sy]
   rcases q.2 with⟨h,bn⟩|⟨t,a0,b0,am,b7,y,_,bf,m,al⟩
   ·have:a=[]:=by
     have b2:(B8 a).length=a.length:=Ht a;have:=q.1;simp at bn;omega
    rw[this]at z;simp at z
   ·have v:∀k,k<a.length->wr.cell? ⟨t,k,Ax⟩=Y (M B3 (a.getD k 0)):=fun k bd=>by
     rw[ay _ _ _ _ _ _ y];have f:(B8 a)[k]?=Y (M B3 (a.getD k 0)):=by simp[B8,bd,List.getD]
     rw[<-al,oF]at f;split at f
     ·simpa using f
     ·cases f
    have a9:t<wr.heap.size:=au y;obtain⟨d,n⟩:=aD a.length;rw[n]at z L v am;subst am;clear l K x q y al m bf;have af:∀b,b<d->a.reverse.take (b+1)=a.reverse.take b++[a.getD (d-1-b) 0]:=fun b B=>by
     have e:a.reverse[b]?=Y (a.getD (d-1-b) 0):=by
      rw[List.getElem?_reverse (by omega),List.getD,n,aF (by omega)];rfl
     rw[iq,e];rfl
    have m:∀b,b<=d->(co (a.reverse.take b)).size=b:=fun b B=>by
     have:∀j:List Int,(co j).size=j.length:=by
      intro j
      induction j with
      |nil=>rfl
      |cons I J bo=>rw[show I::J=[I]++J from rfl,vh,ae,bo,aH];rfl
     rw[this,jh,za];omega
    have H:=ar af;have an:=ar n;clear af n;go_wp2_with fail;go_loopw [6,7] (fun bs C wq=>∃b:Nat,b<=d/\C= M Q ((d:Int)-1-(b:Int))/\bs= S (co (a.reverse.take b))/\V wr.heap.size wr wq) (fun _ C _=>(B1 C+1).toNat)
    case atStart=>exact⟨0,by omega,by first|rfl|(congr 1;omega),rfl,aq _ _⟩
    case round=>
     obtain⟨b,B,rfl,rfl,p⟩:=hrel;have ak:=m b B;by_cases bl:b<d
     ·obtain⟨i,a6⟩:∃i:Nat,d-1-b=i:=⟨_,rfl⟩;have a8:=(lj p a9).trans (v i (by omega));have s:=H.out b bl;rw[a6]at s;have r:Ce (co (a.reverse.take b)++co [a.getD i 0]=co (a.reverse.take (b+1))):=by show _=_;rw[s,vh]
      generalize a.getD i 0=j at a8 r;have b5:=fun w=>ir (oJ w j);have ca:(co [j]).size=1:=rfl;have bb:(d:Int)-1-(b:Int)=(i:Int):=by omega
      have b3:i<d:=by omega
      generalize co (a.reverse.take b)=br at ak r⊢;rw[bb];clear m s v;go_wp2;go_roundw
      case rel=>exact⟨b+1,by omega,by first|rfl|(congr 1;omega),by rw[r.out],p.alloc p.size _⟩
      case measure=>simp[B1]
     ·obtain rfl:b=d:=by omega
      have b9:¬(0:Int)<=(b:Int)-1-(b:Int):=by omega
      rw[cC (by rw[za,an.out];exact ag _)];have G:=F.out;generalize co a.reverse=br at G⊢;subst G;clear ak m F H;go_wp2;go_ret;exact⟨rfl,o.trans (p.mono o.size)⟩
  ·have b6:(c==0)=Br:=by rw[aC];exact u
   have b4:(c !=0)=B2:=by rw[uf];exact u
   have b8:¬c%10<0:=by omega
   have L:a.length<=18:=by
    obtain⟨f,a1,_⟩:=l.out;rcases be a.length 19 with h|h
    ·omega
    ·rw[show 19-a.length=0 by omega]at f;simp at f;omega
   have av:Ce ((c / 10).toNat<10 ^ (19-(a++[48+c%10]).length)/\(a++[48+c%10]).length<=19/\qh (R N)=pre (c / 10).toNat++(a++[48+c%10]).reverse):=by
    obtain⟨f,a1,a2⟩:=l.out;have a4:(a++[48+c%10]).length=a.length+1:=by simp
    refine⟨?_,by omega,?_⟩
    ·rw[a4];have a3:10 ^ (19-a.length)=10 ^ (19-(a.length+1))*10:=by rw[<-Nat.pow_succ];congr 1;omega
     rw[a3]at f;have:(c / 10).toNat=c.toNat / 10:=by omega
     rw[this];omega
    ·rw[a2,Iy c.toNat (by omega),show(c / 10).toNat=c.toNat / 10 by omega,show((c.toNat%10:Nat):Int)=c%10 by omega];simp
   clear l;go_wp2_with (at_builtin;refine fs rfl (.tmp 20) (.tmp 24) rfl w.heap.size u4 a.length a rfl q o.size (by omega) [48+c%10] 1 rfl (by decide) (by decide) _ rfl rfl ?_;intro t a0 w1 bj a7);go_roundw
   case rel=>exact⟨c / 10,a++[48+c%10],by first|rfl|(congr 1;omega),by omega,by omega,av,by rw[aH];exact bj,o.trans (a7.mono (by omega))⟩
   case measure=>simp[B1];omega
structure zr (w:T):Prop where
 tabs:py w
 errs:uL w
 pow:Lib.TabIs O w "internal/strconv.uint64pow10" .u64 Lib.pow10Tab
 brj:w.cell? ⟨7,15,Ax⟩=Y (.int .u8 4)
theorem Gk{P:Program}{w d:T}{c:Nat}{n:String}{cs:Array B4}(a:w.var? P n=Y cs)(f:V c w d)(e:w.heap.size<=c):d.var? P n=Y cs:=by
 unfold World.var? at a⊢;cases hg:P.globalNamed n with
 |none=>simp[hg]at a
 |some b=>
  simp only[hg,yK]at a⊢;have g:b<w.heap.size:=by
   rcases be b w.heap.size with h'|h'
   ·exact h'
   ·simp[qx h']at a
  rw[f.block b (eI g e)];exact a
theorem zr.below{w e:T}{d:Nat}(a:zr w)(c:V d w e)(b:w.heap.size<=d):zr e:=
 ⟨a.tabs.below c b,a.errs.below c b,Gk a.pow c b,(lj c (eI (qB w _ a.brj) b)).trans a.brj⟩
theorem Iz(w:T)(q:Nat)(os:Array Obj):V w.heap.size w (Sort.grow (w.drewN q) os):=
 ⟨rfl,rfl,rfl,by show w.heap.size<=(w.heap++os).size;simp,fun b a=>by show(w.heap++os)[b]?=_;rw[Array.getElem?_append_left a]⟩
def lr(n:Int):ByteArray:=if n<0 then xK (n+18446744073709551616).toNat 16 else⟨(R n.toNat).toArray⟩
theorem Gl(N:Nat)(b:N<=9223372036854775807)(w:T):Z O 57 #[M Q (N:Int)] w fun e c=>e= U (S ⟨(R N).toArray⟩)/\V w.heap.size w c:=by
 by_cases a:N=0
 ·subst a;have e:(⟨(R 0).toArray⟩:ByteArray)=⟨#[48]⟩:=by rw[R,jK (by omega)];rfl
  rw[e];show Z O 57 #[M Q 0] w _;go_in;go_wp2;go_ret;exact⟨rfl,aq _ _⟩
 ·exact xg N a b w
theorem sA(n:Int)(d: -9223372036854775808<=n)(h:n<=9223372036854775807)(w:T):Z O 24 #[M Q n] w fun e a=>e= U (S (lr n))/\V w.heap.size w a:=by
 unfold lr;by_cases b:n<0
 ·rw[ab b];exact Gj n d b w
 ·rw[aa b];have c:∀w,Z O 57 #[M Q n] w fun e a=>e= U (S ⟨(R n.toNat).toArray⟩)/\V w.heap.size w a:=fun w=>by
   have:=Gl n.toNat (by omega) w;rw[show((n.toNat:Nat):Int)=n by omega]at this;exact this
  generalize (⟨(R n.toNat).toArray⟩:ByteArray)=g at c;have i:0<=n:=by omega
  go_in;go_wp2_with (go_at_call 57;refine(c _).mono ?_;rintro e a ⟨rfl,f⟩);go_ret;exact⟨rfl,f⟩
theorem Bn(n:Int)(c: -9223372036854775808<=n)(g:n<=9223372036854775807)(w:T)(d:zr w):Z O 19 #[M Q n] w fun e b=>e= U (S (lr n))/\V w.heap.size w b:=by
 unfold lr;by_cases a:n<0
 ·rw[ab a];exact Bm n c a w d.brj
 ·rw[aa a];have f:Z O 52 #[M Q n,M Q 10] w fun e b=>e= U (S ⟨(R n.toNat).toArray⟩)/\V w.heap.size w b:=by
   refine(Tryz.strconv_FormatInt_10 n c g w d.pow).mono ?_;rintro e b ⟨rfl,k,l,rfl⟩;refine⟨by unfold Lib.itoa;rw[aa a],Iz _ _ _⟩
  generalize (⟨(R n.toNat).toArray⟩:ByteArray)=i at f;have j:¬n<0:=a;go_in;go_wp2_with (go_at_call 52;refine f.mono ?_;rintro e b ⟨rfl,h⟩);go_ret;exact⟨rfl,h⟩
def IA(s:ByteArray):ByteArray:=if 4000<s.size then iH else co (bG s)
theorem Gm(s:ByteArray)(g:s.size<=1048576)(w:T):Z O 26 #[S s] w fun e c=>e= U (S (IA s))/\V w.heap.size w c:=by
 unfold IA;by_cases a:4000<s.size
 ·rw[ab a];go_in;go_wp2;go_ret;exact⟨rfl,aq _ _⟩
 ·rw[aa a];have b:=fun w=>xB s (by omega) w;generalize co (bG s)=f at b;go_in;go_wp2_with (go_at_call 34;refine(b _).mono ?_;rintro e c ⟨rfl,d⟩);go_ret;exact⟨rfl,d⟩
theorem Gn(s:ByteArray)(b:s.size<=1048576)(w:T):Z O 21 #[S s] w fun e c=>e= U (S (IA s))/\V w.heap.size w c:=by
 unfold IA;by_cases a:4000<s.size
 ·rw[ab a];refine dz (aaf s a b w) ?_;exact⟨rfl,aq _ _⟩
 ·rw[aa a];exact Gg s (by omega) w
theorem adb:∀k:Fin 30,5<=rb (bi ic k.val)/\rb (bi ic k.val)<=78:=by decide+kernel
theorem Bo(a:Int)(b:a<5\/78<a):∀(f k:Nat),k+f<=30->CK a f k=iH
 |0,k,_=>rfl
 |f+1,k,c=>by
  have:=adb ⟨k,by omega⟩;unfold CK;rw[aa (by simp only at this;omega)];exact Bo a b f (k+1) (by omega)
theorem Bp:∀k:Fin 79,k.val≠7->px (k.val:Int)=dh (k.val:Int):=by decide+kernel
theorem aaD(a:Int)(c:a≠7):px a=dh a:=by
 by_cases b:0<=a/\a<=78
 ·have:=Bp ⟨a.toNat,by omega⟩ (by simp only;omega);simp only[show((a.toNat:Nat):Int)=a by omega]at this;exact this
 ·unfold px dh;rw[aa (by omega),aa (by omega),aa (by omega),aa (by omega),aa (by omega),aa (by omega),aa (by omega)];exact Bo a (by omega) 30 0 (by omega)
def fh(k n:Int)(x:ByteArray):ByteArray:=if k=1 then(if iu x=B2 then x else iH) else if k=2 then lr n else if k=3 then(if Bk x=B2 then x else iH) else if k=4 then IA x else dh k
theorem pd(s:ByteArray)(d:s.size<=1100000)(w:T):Z O 18 #[S s] w fun e a=>e= U (S s)/\V w.heap.size w a:=by
 have c:=fun w=>Tryz.stringslite_Clone s w (by omega);go_in;go_wp2_with (go_at_call 50;refine(c _).mono ?_;rintro e a ⟨rfl,b⟩);go_ret;exact⟨rfl,b⟩
theorem aaE(k h t l n:Int)(x:ByteArray)(z: -9223372036854775808<=n)(A:n<=9223372036854775807)(B:x.size<=1048576)(w:T):Z O 8 #[.agg #[M Q k,M Q h,M Q t,M Q l,M Q n,S x]] w fun e d=>e= U (S (fh k n x))/\V w.heap.size w d:=by
 have c:V w.heap.size w (w.alloc (A0 #[M Q k,M Q h,M Q t,M Q l,M Q n,S x] 29)):=(aq _ w).alloc (ag _) _;have i:cA w.heap.size (w.alloc (A0 #[M Q k,M Q h,M Q t,M Q l,M Q n,S x] 29)) k h t l n x:=ax w _;have f:w.heap.size<=(w.alloc (A0 #[M Q k,M Q h,M Q t,M Q l,M Q n,S x] 29)).heap.size:=c.size;have j:w.heap.size<(w.alloc (A0 #[M Q k,M Q h,M Q t,M Q l,M Q n,S x] 29)).heap.size:=au i;by_cases o:k=1
 ·subst o;have b:=fun w=>iw x (by omega) w;rw[show fh 1 n x=if iu x=B2 then x else iH from rfl];generalize iu x=u at b;have m:∀d,V (w.alloc (A0 #[M Q 1,M Q h,M Q t,M Q l,M Q n,S x] 29)).heap.size (w.alloc (A0 #[M Q 1,M Q h,M Q t,M Q l,M Q n,S x] 29)) d->d.cell? ⟨w.heap.size,5,Ax⟩=Y (S x):=fun d a=>(aE (i.below a j)).2.2.2.2.2.1;cases u with
  |true=>
   go_in;go_wp2_with (go_at_call 23;refine(b _).mono ?_;rintro e d ⟨rfl,a⟩;have v:=m _ a;have g:=c.trans (a.mono f);clear m c a i f j);go_ret;exact⟨rfl,g⟩
  |false=>
   go_in;go_wp2_with (go_at_call 23;refine(b _).mono ?_;rintro e d ⟨rfl,a⟩;have v:=m _ a;have g:=c.trans (a.mono f);clear m c a i f j);go_ret;exact⟨rfl,g⟩
 have C:(k==1)=Br:=by rw[aC];exact o
 by_cases p:k=2
 ·subst p;have b:=fun w=>sA n z A w;rw[show fh 2 n x=lr n from rfl];generalize lr n=y at b;go_in;go_wp2_with (go_at_call 24;refine(b _).mono ?_;rintro e d ⟨rfl,a⟩;have g:=c.trans (a.mono f);clear c a i f j);go_ret;exact⟨rfl,g⟩
 have E:(k==2)=Br:=by rw[aC];exact p
 by_cases q:k=3
 ·subst q;have b:=fun w=>tu x (by omega) w;rw[show fh 3 n x=if Bk x=B2 then x else iH from rfl];generalize Bk x=u at b;have m:∀d,V (w.alloc (A0 #[M Q 3,M Q h,M Q t,M Q l,M Q n,S x] 29)).heap.size (w.alloc (A0 #[M Q 3,M Q h,M Q t,M Q l,M Q n,S x] 29)) d->d.cell? ⟨w.heap.size,5,Ax⟩=Y (S x):=fun d a=>(aE (i.below a j)).2.2.2.2.2.1;cases u with
  |true=>
   go_in;go_wp2_with (go_at_call 25;refine(b _).mono ?_;rintro e d ⟨rfl,a⟩;have v:=m _ a;have g:=c.trans (a.mono f);clear m c a i f j);go_ret;exact⟨rfl,g⟩
  |false=>
   go_in;go_wp2_with (go_at_call 25;refine(b _).mono ?_;rintro e d ⟨rfl,a⟩;have v:=m _ a;have g:=c.trans (a.mono f);clear m c a i f j);go_ret;exact⟨rfl,g⟩
 have F:(k==3)=Br:=by rw[aC];exact q
 by_cases r:k=4
 ·subst r;have b:=fun w=>Gm x B w;rw[show fh 4 n x=IA x from rfl];generalize IA x=y at b;go_in;go_wp2_with (go_at_call 26;refine(b _).mono ?_;rintro e d ⟨rfl,a⟩;have g:=c.trans (a.mono f);clear c a i f j);go_ret;exact⟨rfl,g⟩
 have G:(k==4)=Br:=by rw[aC];exact r
 have hS:fh k n x=dh k:=by unfold fh;rw[aa o,aa p,aa q,aa r]
 rw[hS];by_cases s:k=7
 ·subst s;rw[show dh 7=⟨#[10]⟩ from rfl];go_in;go_wp2;go_ret;exact⟨rfl,c⟩
 have H:(k==7)=Br:=by rw[aC];exact s
 have b:=fun w=>pL k w;rw[aaD k s]at b;generalize dh k=y at b;clear o p q r s hS;go_in;go_wp2_with (go_at_call 27;refine(b _).mono ?_;rintro e d ⟨rfl,a⟩;have g:=c.trans (a.mono f);clear c a i f j);go_ret;exact⟨rfl,g⟩
theorem ieq(t c:Int):(t=c)=((t==c)=B2):=by simp
theorem Dh(w:T)(t:Int):Z O 151 #[M Q t] w (gu w (uE t)):=by
 go_in;go_wp2_with (go_at_call 150;refine dz (pc _ _) ?_);all_goals
  go_ret2;go_tidy
  simp only[uE,ieq, *];simp[*];first|exact mC w _ _ (by simp)|exact um w _
theorem Di(w:T)(t:Int):Z O 167 #[M Q t] w (gu w (Ib t)):=by
 have b:=fun w=>rl w t;have a:=fun w=>rm w t;go_in;go_wp2_with (first|(go_at_call 150;refine dz (pc _ _) ?_)|(go_at_call 165;refine dz (b _) ?_)|(go_at_call 152;refine dz (a _) ?_));all_goals
  go_ret2;go_tidy
  simp only[Ib,ieq, *];simp[*];first|exact mC w _ _ (by simp)|exact um w _
theorem Gp{w w1:T}{r:List Int×Bool}{e:Ending}{b:T}(a:V w.heap.size w w1)(f:gu w1 r e b):gu w r e b:=by
 obtain⟨c,d,rfl,h,g⟩:=f;exact⟨c,d,rfl,uF h a.size,a.trans (g.mono a.size)⟩
theorem aaF{p:Prop}[Decidable p] {a b:List Int×Bool}(c:a.1.length<=6) (d:b.1.length<=6):(if p then a else b).1.length<=6:=by split<;>assumption
theorem Gq(t:Int):(uE t).1.length<=6:=by
 unfold uE
 repeat' (first|(apply aaF<;>skip)|exact Nat.le_of_ble_eq_true rfl)
theorem vm(w:T)(t:Int):Z O 132 #[.int .i64 100,.int .i64 t] w (gu w (ac0 t)):=by
 unfold ac0;by_cases d:t=5
 ·subst d;show Z _ _ _ _ (gu w ([5,100],B2));go_in;go_wp2_with (go_at_call 150;refine dz (pc _ _) ?_);go_ret2;exact mC w [5,100] B2 (by simp)
 ·rw[aa d];have a:=fun w=>Dh w t;have e:=Gq t;have z:(t==5)=Br:=beq_eq_false_iff_ne.2 d;generalize uE t=y at a e⊢;obtain⟨x,j⟩:=y;simp only at e⊢;obtain⟨E,c⟩:=aD x.length;obtain⟨q,r,s,u,v⟩:=fd uj;cases j with
  |true=>
   rw[ab rfl];unfold gu at a⊢;simp only at a⊢;rw[aH,eL];rw[c]at a e⊢;clear c;go_in;go_wp2_with (first|(go_at_call 151;refine(a _).mono ?_;rintro l w1 ⟨i,k,rfl,f,b⟩;have p:=b.size)|(at_builtin;refine lE _ rfl _ _ 94 rfl w.heap.size 3 q _ 1 8 Tryz.underlying94 r s u v rfl (by decide) _ _ _ rfl (f.alloc _) ⟨w1.heap.size,0,Ax⟩ 1 1 [.int .i64 101] rfl rfl (World.news_of_block (cs:=#[.int .i64 101]) (fr:=(0,0)) (ax w1 _)) (by intro F h;simp at h;subst h;rfl) (by unfold maxLen;omega) (by omega) (by simp;omega) ?_;intro G H g o C;obtain⟨B,A,rfl⟩:=B5 g));go_ret2;exact⟨_,_,rfl,g,(b.alloc p _).grown o (by simp;omega) (fun m n=>(f.lt m n).1)⟩
  |false=>
   rw[aa (by decide)];unfold gu at a;simp only at a;rw[c]at a;clear c;go_in;go_wp2_with (go_at_call 151;refine(a _).mono ?_;rintro l w1 ⟨i,k,rfl,f,b⟩);go_ret2;exact Gp b (um _ B2)
theorem Bq(w:T)(s t:Int)(b:101<=s)(c:s<=133):Z O 132 #[M Q s,M Q t] w (gu w (xE s t)):=by
 have f:=fun w=>rm w t;have g:=fun w=>Bl w t;have h:=fun w=>Di w t;obtain rfl|rfl|rfl|rfl|rfl|rfl|rfl|rfl|rfl|rfl|rfl|rfl|rfl|rfl|rfl|rfl|rfl|rfl|rfl|rfl|rfl|rfl|rfl|rfl|rfl|rfl|rfl|rfl|rfl|rfl|rfl|rfl|rfl:s=101\/s=102\/s=103\/s=104\/s=105\/s=106\/s=107\/s=108\/s=109\/s=110\/s=111\/s=112\/s=113\/s=114\/s=115\/s=116\/s=117\/s=118\/s=119\/s=120\/s=121\/s=122\/s=123\/s=124\/s=125\/s=126\/s=127\/s=128\/s=129\/s=130\/s=131\/s=132\/s=133:=by omega
 all_goals
  clear b c;go_in;go_wp2_with (first|(go_at_call 150;refine dz (pc _ _) ?_)|(go_at_call 152;refine dz (f _) ?_)|(go_at_call 168;refine dz (g _) ?_)|(go_at_call 167;refine(h _).mono ?_;rintro a k ⟨i,j,rfl,e,d⟩)|go_in);all_goals
   go_ret2;first
    |exact⟨_,_,rfl,e,d⟩
    |(go_tidy
      simp only[xE,pa,aeJ,aeK,aeL,aao,ae0,ae1,ae2,ae3,ae4,ae5,ae6,ae7,Ic,Id,ac1,ae8,ae9,afa,afb,afc,afd,aap,afe,aff,Ie,aaq,If,afg,afh,afi,ac2,afj,ieq, *];simp[*];first|exact mC w _ _ (by simp)|exact um w _|(by_cases a:t=21<;>simp_all<;>(try rw[show(t==46||t==21)=Br by simp[*]])<;>exact mC w _ _ (by simp))|(by_cases a:t=44<;>simp_all<;>exact mC w _ _ (show 2<=100 by decide)))
theorem zt(w:T)(s t:Int)(c:100<=s)(b:s<=133):Z O 132 #[M Q s,M Q t] w (gu w (xE s t)):=by
 by_cases a:s=100
 ·subst a;exact vm w t
 ·exact Bq w s t (by omega) b
theorem IB:(Tryz.prog.info? 146).map (fun i=>(i.zero,i.size,i.bytes))=Y (Y (.agg #[M Q 0,M Q 0]),2,16):=by kernel_rfl
def Hp(C:List (Int×Int)):List B4:=C.flatMap fun a=>[M Q a.1,M Q a.2]
theorem E6(C:List (Int×Int)):(Hp C).length=C.length*2:=by
 induction C with
 |nil=>rfl
 |cons b c a=>simp only[Hp,qC,aH,db,gH]at a⊢;omega
theorem E7(C D:List (Int×Int)):Hp (C++D)=Hp C++Hp D:=by simp[Hp]
theorem IC:∀(C:List (Int×Int))(i:Nat)(c:Int×Int),C[i]?=Y c->(Hp C)[i*2]?=Y (M Q c.1)/\(Hp C)[i*2+1]?=Y (M Q c.2)
 |[],i,c,b=>by simp at b
 |a::r,0,c,b=>by
  obtain rfl:a=c:=by simpa using b
  exact⟨rfl,rfl⟩
 |a::r,i+1,c,b=>by
  have f:=IC r i c (by simpa using b);have e:∀d,(Hp (a::r))[d+2]?=(Hp r)[d]?:=fun d=>rfl;rw[show(i+1)*2=i*2+2 by omega,show i*2+2+1=(i*2+1)+2 by omega,e,e];exact f
structure od (W:T) (base mb:Nat) (C:List (Int×Int)):Prop where
 ex:∃v,W.heap[mb]?=Y (.cells #[v] 123 (0,0))/\W.ownsRow base 146 2 v C.length (Hp C)
 lo:base<=mb
structure Kp (mb:Nat) (w w':T):Prop where
 os:w'.os=w.os
 tape:w'.tape=w.tape
 output:w'.output=w.output
 size:w.heap.size<=w'.heap.size
 block:∀k,k<w.heap.size->k≠mb->(∀cs fr,w.heap[k]?≠Y (.cells cs 146 fr))->w'.heap[k]?=w.heap[k]?
theorem Kp.refl(mb:Nat)(w:T):Kp mb w w:=⟨rfl,rfl,rfl,ag _,fun _ _ _ _=>rfl⟩
theorem Kp.trans{mb:Nat}{x y z:T}(a:Kp mb x y)(k:Kp mb y z):Kp mb x z:=
 ⟨k.os.trans a.os,k.tape.trans a.tape,k.output.trans a.output,bA a.size k.size,fun e c d b=>
  (k.block e (eI c a.size) d (fun f g=>by rw[a.block e c d b];exact b f g)).trans (a.block e c d b)⟩
theorem Kp.of_below{mb:Nat}{w b:T}(a:V w.heap.size w b):Kp mb w b:=⟨a.os,a.tape,a.output,a.size,fun d c _ _=>a.block d c⟩
theorem Kp.blk{mb:Nat}{w c:T}(d:Kp mb w c){k:Nat}{cs:Array B4}{t:TypeId}{fr:Nat×Nat}(a:w.heap[k]?=Y (A0 cs t fr))(f:t≠146)(e:k≠mb):c.heap[k]?=Y (A0 cs t fr):=
 (d.block k (au a) e (fun g h b=>by rw[a]at b;cases b;exact f rfl)).trans a
theorem Kp.row{mb:Nat}{w c:T}(j:Kp mb w c){t:B4}{h:Nat×Nat}(l:w.heap[mb]?=Y (A0 #[t] 123 h)){base e size n:Nat}{v:B4}{d:List B4}(r:w.ownsRow base e size v n d)(m:e≠146)(o:e≠123):c.ownsRow base e size v n d:=by
 obtain⟨k,b⟩:=r;refine⟨k,?_⟩;rcases b with b|⟨i,f,g,q,p,a,s⟩
 ·exact .inl b
 ·refine .inr ⟨i,f,g,q,p,j.blk a m ?_,s⟩;rintro rfl;rw[l]at a;simp only[io,oD]at a;exact o a.2.1.symm
theorem od.below{a b:T}{base mb:Nat}{C:List (Int×Int)}(c:od a base mb C)(e:V a.heap.size a b):od b base mb C:=by
 obtain⟨g,d,f⟩:=c.ex;exact⟨⟨g,(e.block _ (au d)).trans d,ei f e⟩,c.lo⟩
theorem od.alloc{a:T}{base mb:Nat}{C:List (Int×Int)}(c:od a base mb C)(b:Obj):od (a.alloc b) base mb C:=c.below (dF a b)
def iE(C:List (Int×Int)):Int->List Int->Prop
 |top,[]=>top= -1
 |top,s::r=>∃(i:Nat) (b:Int),top=(i:Int)/\C[i]?=Y (s,b)/\iE C b r
theorem iE.app{C:List (Int×Int)}(D:List (Int×Int)):∀{st:List Int}{a:Int},iE C a st->iE (C++D) a st
 |[],a,d=>d
 |s::r,a,⟨i,b,e,c,f⟩=>⟨i,b,e,by rw[jG (List.getElem?_eq_some_iff.1 c).1];exact c,f.app D⟩
theorem iE.push{C:List (Int×Int)}{st:List Int}{a:Int}(b:iE C a st)(s:Int):iE (C++[(s,a)]) (C.length:Int) (s::st):=
 ⟨C.length,a,rfl,by rw[jc (ag _),fC];rfl,b.app _⟩
theorem iE.lt{C:List (Int×Int)}:∀{st:List Int}{a:Int},iE C a st-> -1<=a/\a<(C.length:Int)
 |[],a,b=>by obtain rfl:a= -1:=b;omega
 |s::h,a,⟨g,d,e,c,f⟩=>by have:=(List.getElem?_eq_some_iff.1 c).1;omega
theorem vq(w:T)(base mb:Nat)(C:List (Int×Int))(n m:Int)(t:od w base mb C)(af:C.length<=100000000):
  Z O 133 #[.pointer (Y ⟨mb,0,Ax⟩),.int .i64 n,.int .i64 m] w fun e y=>e= .returned (.int .i64 (C.length:Nat))/\od y base mb (C++[(m,n)])/\Kp mb w y/\V base w y:=by
 obtain⟨a6,f,g⟩:=t.ex;have F:=t.lo;obtain⟨i,u⟩:=aD C.length;rw[u]at g af⊢;obtain⟨j,k,rfl⟩:=ey g;obtain⟨am,an,ap,av,a0⟩:=fd IB;have ak:=au f;have a3:mb≠w.heap.size:=by omega
 have a1:w.cell? ⟨mb,0,Ax⟩=Y (.slice j i k):=by rw[ay _ _ _ _ _ _ f];rfl
 have G:∀c,(B6 j i k).ownBlock=Y c->c≠mb/\base<=c:=fun c l=>by
  refine⟨?_,(g.lt c l).1⟩;rintro rfl;rcases g.2 with⟨a,_⟩|⟨q,A,B,a,_,d,_⟩
  ·rw[a]at l;simp[A2]at l
  ·rw[a]at l;obtain rfl:q=c:=by simpa [A2] using l
   rw[d]at f;cases f
 have o:=gy g f u;clear g f u t;go_in;go_wp2_with (at_builtin;refine lE _ rfl _ _ 121 rfl base 146 am _ 2 16 Tryz.underlying121 an ap av a0 rfl (by decide) _ _ _ rfl (o.out.1.alloc _) ⟨w.heap.size,0,Ax⟩ 1 1 [.int .i64 m,.int .i64 n] rfl rfl (World.news_of_block (cs:=#[.int .i64 m,.int .i64 n]) (fr:=(0,0)) (ax w _)) (by intro a5 H;simp at H;rcases H with rfl|rfl<;>rfl) (by unfold maxLen;omega) (by omega) (by simp;omega) ?_;intro a7 z x b a4;obtain⟨E,J,rfl⟩:=B5 x;have r:z.heap[mb]?=Y (.cells #[.slice j i k] 123 (0,0)):=(b.block mb (by simp;omega) (fun e=>(G mb e.symm).1 rfl)).trans ((cg _ _ _ ak).trans o.out.2.1);have a8:z.cell? ⟨mb,0,Ax⟩=Y (.slice j i k):=(by rw[ay _ _ _ _ _ _ r];rfl);have a2:z.frozen? ⟨mb,0,Ax⟩=Br:=dp _ _ _ _ _ r);go_ret;have al:=b.size;rw[dI]at al;refine⟨by go_num,⟨⟨.slice (Y ⟨E,0,Ax⟩) (i+1) J,bK _ mb 0 _ _ _ r,?_⟩,F⟩,?_,?_⟩
 ·rw[aH,o.out.2.2,E7];refine x.kept (row:=Y mb) ⟨rfl,rfl,rfl,by simp[World.setCell],fun h s v=>bC _ _ _ _ (fun e=>v (by rw[e]))⟩ ?_;refine .inr ?_;intro e;obtain rfl:E=mb:=by simpa [A2] using e
  rcases x.2 with⟨a,_⟩|⟨q,A,B,a,_,d,_⟩
  ·cases a
  ·cases a;rw[r]at d;cases d
 ·refine⟨b.os,b.tape,b.output,by simp[World.setCell];omega,fun h s v L=>?_⟩;rw[bC _ _ _ _ v];refine(b.block h (by simp;omega) (fun e=>?_)).trans (cg _ _ _ s);have p:(B6 j i k).ownBlock=Y h:=e.symm;rcases o.out.1.2 with⟨a,_⟩|⟨q,A,B,a,_,d,_⟩
  ·rw[a]at p;simp[A2]at p
  ·rw[a]at p;obtain rfl:q=h:=by simpa [A2] using p
   exact L _ _ d
 ·have K:base<=w.heap.size:=by omega
  have I:V base w (w.alloc (.cells #[.int .i64 m,.int .i64 n] 146)):=(aq _ w).alloc K _;exact(I.grown b (by simp;omega) (fun h s=>(G h s).2)).setCell F _
