import Derived.Test.YtjeamjdieofoeaaGreatDoorHZk10
import Derived.Test.YtjeamjdieofoeaaGreatDoorHZk04
import Derived.Test.YtjeamjdieofoeaaGreatDoorHZk16
import Derived.Laws.AppendOwnNone
import Derived.Lib.AppendZerosOnto
set_option linter.all false
set_option maxRecDepth 100000
set_option maxHeartbeats 25600000
open Go.Value renaming int->O,string->A9,slice->B0,tuple->B4,pointer->E0,string->E1,agg->F1
open Go.IntKind renaming i64->U,u64->F0,u8->F2
open Go.Proofs.Tryz renaming prog->Ax
open Option renaming some->A0,none->A5
open Go.Ending renaming returned->A2
open Go.Lib renaming decDigits->Br
open ByteArray renaming empty->Bs
open Go renaming World->B1,Calls->B6,Value->Cb
open Go.RowKit renaming Below->B3,intOf->C2,Hid->E2
open List renaming range->B7
open Bool renaming false->Er,true->Fs
namespace Go.Proofs.YtjeamjdieofoeaaGreatDoor
open Go.RowKit Go.Maps Go.WideMaps
variable{N:Nd}{T Y:ByteArray}{W w w' w0:World}{ak:Option Addr}{l:List Int}{ns:List Nd}{q t:Int}{vk vn vt:Value}
def DC(u:Nat)(j:Nat):Int:=nH ((u / 16 ^ j%16:Nat):Int)
def hxO(u:Nat):Nat->ByteArray
 |0=>⟨#[48,120]⟩
 |r+1=>hxO u r++fG [DC u (15-r)]
theorem Nat.pow_mul_two16(k:Nat):(2:Int) ^ (4*k)=(16:Int) ^ k:=by rw[Int.pow_mul];rfl
theorem Cu(u:Nat):∀r,(hxO u r).size=r+2
 |0=>rfl
 |r+1=>by show(hxO u r++fG [DC u (15-r)]).size=_;rw[ay,Cu u r];rfl
theorem aft(a:Int)(c:0<=a)(d:a<16)(w:B1):(Instr.index 9 (A9 ⟨#[48,49,50,51,52,53,54,55,56,57,97,98,99,100,101,102]⟩) (O F0 a)).run Ax w= .ok (O F2 (nH a)) w:=by
 have b:a.toNat<DG.size:=by simp only[DG];show a.toNat<16;omega
 have e:=akb a c d b;go_simp;exact e
theorem akj(c:Int)(a:0<=c)(b:c<18446744073709551616):bits .and F0 c 15=c%16:=by
 have:=bits_mask F0 64 (by decide) (fun f d e=>by rw[IntKind.wrap_u64];omega) 4 (by decide) c a b;simpa using this
theorem adm(n:Int)(z: -9223372036854775808<=n)(A:n<0)(w:B1):B6 Ax 180 #[O U n] w fun e w'=>e= A2 (A9 (hxO (n+18446744073709551616).toNat 16))/\B3 w.heap.size w w':=by
 obtain⟨c,x⟩:∃c:Nat,(c:Int)=n+18446744073709551616:=⟨(n+18446744073709551616).toNat,by omega⟩;rw[show(n+18446744073709551616).toNat=c by omega];obtain⟨d,p⟩:∃d:Int,d=(c:Int):=⟨_,rfl⟩;have ad:IntKind.u64.wrap n=d:=by rw[IntKind.wrap_u64];omega
 have K:0<=d:=by omega
 have L:d<18446744073709551616:=by omega
 have l:=aq p;have G:¬0<=n:=by omega
 clear p x;go_in;go_wp2_with fail;go_loopw [4,5] (fun y j wr=>∃b:Nat,b<=16/\j= O U (60-4*(b:Int))/\y= A9 (hxO c b)/\B3 w.heap.size w wr) (fun _ j _=>(C2 j+4).toNat)
 case atStart=>exact⟨0,by omega,rfl,rfl,ah _ _⟩
 case round=>
  obtain⟨b,H,rfl,rfl,h⟩:=hrel;by_cases B:b<16
  ·obtain⟨f,i⟩:∃f:Int,60-4*(b:Int)=f:=⟨_,rfl⟩;have E:0<=f:=by omega
   have F:f<=60:=by omega
   obtain⟨a,r⟩:∃a:Int,d / 2 ^ f.toNat=a:=⟨_,rfl⟩;have g:a=((c / 16 ^ (15-b):Nat):Int):=by
    rw[<-r,l.out,show f.toNat=4*(15-b) by omega,Nat.pow_mul_two16,Int.natCast_ediv];rfl
   have s:0<=a:=by rw[g];exact Int.natCast_nonneg _
   have t:a<18446744073709551616:=by
    rw[g];have:=Nat.div_le_self c (16 ^ (15-b));have:=l.out;omega
   have m:0<=a%16:=by omega
   have o:a%16<16:=by omega
   have u:bits .and F0 a 15=a%16:=akj a s t;have v:=fun w=>aft (a%16) m o w;have k:E2 (fG [nH (a%16)]=fG [DC c (15-b)]):=by
    show _=_;unfold DC;rw[g];rfl
   generalize a%16=D at m o u v k;have C:=fun w=>oI (uG w (nH D));have I:=Cu c b;have J:(fG [nH D]).size=1:=rfl;have q:=aq i;rw[i];clear g i;go_wp2;go_roundw
   case rel=>exact⟨b+1,by omega,by have:=q.out;congr 1;omega,by rw[k.out];rfl,h.alloc h.size _⟩
   case measure=>simp[C2];omega
  ·obtain rfl:b=16:=by omega
   go_wp2;go_ret;exact⟨rfl,h⟩
theorem alh:bits .and F0 16 (IntKind.u64.wrap (-16))=16:=by decide+kernel
theorem ali:IntKind.u64.wrap 4573923408821661840=4573923408821661840:=by decide+kernel
theorem aoB(w:B1)(h:w.cell? ⟨9,15,A5⟩=A0 (O F2 4)):B6 Ax 304 #[O F0 16] w fun e w'=>e= A2 (O U 4)/\w'=w:=by
 have a:=alh;have b:=ali;go_in;go_wp2;go_ret;exact⟨rfl,rfl⟩
theorem tz(w:B1)(h:w.cell? ⟨9,15,A5⟩=A0 (O F2 4)):B6 Ax 292 #[O F0 16] w fun e w'=>e= A2 (O U 4)/\w'=w:=by
 go_in;go_wp2_with (go_at_call 304;refine(aoB _ h).mono ?_;rintro e w' ⟨rfl,rfl⟩);go_ret;exact⟨rfl,rfl⟩
theorem alj:bits .and U 16 15=0:=by decide+kernel
theorem p2(w:B1):B6 Ax 291 #[O U 16] w fun e w'=>e= A2 (.bool Fs)/\w'=w:=by
 have a:=alj;go_in;go_wp2;go_ret;exact⟨rfl,rfl⟩
def D36:ByteArray:=⟨#[48,49,50,51,52,53,54,55,56,57,97,98,99,100,101,102,103,104,105,106,107,108,109,110,111,112,113,114,115,116,117,118,119,120,121,122]⟩
theorem aiK:∀i:Fin 16,((D36[i.val]'(by have:=i.isLt;show i.val<36;omega)).toNat:Int)=nH (i.val:Int):=by decide
theorem alk(a:Int)(c:0<=a)(d:a<16)(h:a.toNat<D36.size):((D36[a.toNat]'h).toNat:Int)=nH a:=by
 have:=aiK ⟨a.toNat,by omega⟩;have b:((a.toNat:Nat):Int)=a:=by omega
 simp only[b]at this;exact this
theorem abx(a:Int)(c:0<=a)(d:a<16)(w:B1):(Instr.index 9 (A9 ⟨#[48,49,50,51,52,53,54,55,56,57,97,98,99,100,101,102,103,104,105,106,107,108,109,110,111,112,113,114,115,116,117,118,119,120,121,122]⟩) (O F0 a)).run Ax w= .ok (O F2 (nH a)) w:=by
 have b:a.toNat<D36.size:=by simp only[D36];show a.toNat<36;omega
 have e:=alk a c d b;have f:a<36:=by omega
 go_simp;exact e
structure Rw (B:Nat) (w:B1) (u r:Nat):Prop where
 ex:∃arr,w.heap[B]?=A0 (.cells arr 300 (0,0))/\arr.size=65/\∀j,j<r->arr[64-j]?=A0 (.int .u8 (DC u j))
theorem Rw.step{B:Nat}{u r:Nat}(h:Rw B w u r)(j:r<65)(x:Int)(f:x=DC u r):Rw B (w.setCell ⟨B,64-r,A5⟩ (O F2 x)) u (r+1):=by
 obtain⟨g,c,d,e⟩:=h.ex;refine⟨_,bz w B (64-r) _ _ _ c,by simp[d],fun a i=>?_⟩;rw[Array.getElem?_setIfInBounds];by_cases b:a=r
 ·subst b;rw[ab rfl,ab (by omega),f]
 ·rw[aa (by omega)];exact e a (by omega)
theorem Rw.conv{B:Nat}{u:Nat}(h:Rw B w u 16):(convert 39 9 (.slice (A0 ⟨B,49,A5⟩) 16 16)).run Ax w= .ok (.string (fG ((B7 16).map fun j=>DC u (15-j)))) w:=by
 obtain⟨i,c,k,d⟩:=h.ex;rw[FE w 39 9 5 _ _ _ Tryz.underlying39 Tryz.underlying5 Tryz.underlying9];refine run_bytesToString w _ 16 16 _ ?_;have:=run_loadCells_list (P:=Ax) w ⟨B,49,A5⟩ (B8 ((B7 16).map fun j=>DC u (15-j))) (fun j f a=>by
  have e:j<16:=by
   rcases bj j 16 with g|g
   ·exact g
   ·rw[jG (by simpa [B8] using g)]at a;cases a
  have b:f= .int .u8 (DC u (15-j)):=by
   simp[B8,e]at a;exact a.symm
  subst b;rw[show(⟨B,49,A5⟩:Addr).add j=⟨B,49+j,A5⟩ by unfold Addr.add;split<;>simp_all,au _ _ _ _ _ _ c];have:=d (15-j) (by omega);rw[show 64-(15-j)=49+j by omega]at this;exact this)
 exact this
theorem aiL(u:Nat)(a2:9223372036854775808<=u)(a3:u<18446744073709551616)(w:B1)(h:w.cell? ⟨9,15,A5⟩=A0 (O F2 4)):B6 Ax 274 #[B0 A5 0 0,O F0 (u:Int),O U 16,.bool Er,.bool Er] w fun e w'=>e= A2 (B4 #[B0 A5 0 0,A9 (fG ((B7 16).map fun j=>DC u (15-j)))])/\B3 w.heap.size w w':=by
 have E:=AL w _ h;have ao:∀l,B6 Ax 292 #[O F0 16] (w.alloc l) fun e w'=>e= A2 (O U 4)/\w'=w.alloc l:=fun l=>tz _ ((pd (((ah w.heap.size w).alloc (ag _) l)) E).trans h);have A:Rw w.heap.size (w.alloc (.cells Tryz.zeroCells300 300)) u 0:=⟨_,aA w _,by kernel_rfl,fun j a8=>by omega⟩;have x:B3 w.heap.size w (w.alloc (.cells Tryz.zeroCells300 300)):=(ah _ w).alloc (ag _) _;obtain⟨m,n⟩:∃m,(B7 16).map (fun j=>DC u (15-j))=m:=⟨_,rfl⟩;rw[n];have H:E2 ((B7 16).map (fun j=>DC u (15-j))=m):=n;clear n;go_in;go_wp2_with (first|(go_at_call 291;refine(p2 _).mono ?_;rintro e w' ⟨rfl,rfl⟩)|(go_at_call 292;refine dB (ao _) ?_));generalize w.alloc (.cells Tryz.zeroCells300 300)=ar at A x;go_loopw [1,13] (fun ap s wr=>∃(r:Nat) (a:Int),r<=15/\s= O U (65-(r:Int))/\ap= O F0 a/\E2 (a=((u / 16 ^ r:Nat):Int))/\Rw w.heap.size wr u r/\B3 w.heap.size w wr) (fun _ s _=>(C2 s).toNat)
 case atStart=>exact⟨0,(u:Int),by omega,rfl,rfl,by show(u:Int)=_;simp,A,x⟩
 case round=>
  obtain⟨r,a,a9,rfl,rfl,b,o,B⟩:=hrel;obtain⟨av,d,a1,v⟩:=o.ex;have a4:w.heap.size<wr.heap.size:=ai d;have p:0<=a:=by rw[b.out];exact Int.natCast_nonneg _
  have L:a<18446744073709551616:=by
   rw[b.out];have:=Nat.div_le_self u (16 ^ r);omega
  have y:0<=a%16:=by omega
  have z:a%16<16:=by omega
  have i:E2 (nH (a%16)=DC u r):=by show _=_;unfold DC;rw[b.out];rfl
  by_cases E:r<15
  ·have an:16<=a:=by
    rw[b.out];have J:16 ^ (r+1)<=16 ^ 15:=Nat.pow_le_pow_right (by omega) (by omega);have t:16 ^ 15=1152921504606846976:=by decide
    have a0:16<=u / 16 ^ r:=by
     rw[Nat.le_div_iff_mul_le (Nat.pow_pos (by omega))];rw[Nat.pow_succ]at J;omega
    omega
   have I:E2 (a / 16=((u / 16 ^ (r+1):Nat):Int)):=by
    show _=_;rw[b.out,Nat.pow_succ,<-Nat.div_div_eq_div_mul];rfl
   have ad:bits .and F0 a 15=a%16:=akj a p L;have C:=fun w=>abx (a%16) y z w;generalize a%16=D at y z ad C i;obtain⟨c,K⟩:∃c:Nat,64-r=c:=⟨_,rfl⟩;have af:∃g,wr.cell? ⟨w.heap.size,c,A5⟩=A0 g:=by
    rw[au _ _ _ _ _ _ d];exact⟨_,uA (by omega)⟩
   obtain⟨g,al⟩:=af;have am:wr.frozen? ⟨w.heap.size,c,A5⟩=Er:=co _ _ _ _ _ d;have f:=o.step (by omega) (nH D) i;rw[K]at f;obtain⟨k,q⟩:∃k:Int,65-(r:Int)=k:=⟨_,rfl⟩;have a5:k-1=(c:Int):=by omega
   have a6:k<=65:=by omega
   have a7:c<=64:=by omega
   have G:=aq q;rw[q];clear q b v;go_wp2;go_roundw
   case rel=>exact⟨r+1,a / 16,by omega,by have:=G.out;congr 1;omega,rfl,I,f,B.setCell (by simp) _⟩
   case measure=>simp[C2];omega
  ·obtain rfl:r=15:=by omega
   have F:a<16:=by
    rw[b.out];have t:16 ^ 15=1152921504606846976:=by decide
    rw[t];omega
   have C:=fun w=>abx a p F w;rw[Int.emod_eq_of_lt p F]at i;obtain⟨g,al⟩:∃g,wr.cell? ⟨w.heap.size,49,A5⟩=A0 g:=by
    rw[au _ _ _ _ _ _ d];exact⟨_,uA (by omega)⟩
   have am:wr.frozen? ⟨w.heap.size,49,A5⟩=Er:=co _ _ _ _ _ d;have f:Rw w.heap.size (wr.setCell ⟨w.heap.size,49,A5⟩ (O F2 (nH a))) u 16:=o.step (r:=15) (by omega) (nH a) i;have ak:=f.conv;rw[H.out]at ak;have an:¬16<=a:=by omega
   clear b v f;go_wp2;go_ret2;exact⟨rfl,B.setCell (by simp) _⟩
theorem afu(u:Nat)(b:9223372036854775808<=u)(c:u<18446744073709551616)(w:B1)(h:w.cell? ⟨9,15,A5⟩=A0 (O F2 4)):B6 Ax 240 #[O F0 (u:Int),O U 16] w fun e w'=>e= A2 (A9 (fG ((B7 16).map fun j=>DC u (15-j))))/\B3 w.heap.size w w':=by
 have a:=aiL u b c w h;generalize fG ((B7 16).map fun j=>DC u (15-j))=f at a;generalize (u:Int)=g at a;go_in;go_wp2_with (go_at_call 274;refine a.mono ?_;rintro e w' ⟨rfl,d⟩);go_ret;exact⟨rfl,d⟩
theorem ai0(u:Nat)(b:9223372036854775808<=u)(c:u<18446744073709551616)(w:B1)(h:w.cell? ⟨9,15,A5⟩=A0 (O F2 4)):B6 Ax 192 #[O F0 (u:Int),O U 16] w fun e w'=>e= A2 (A9 (fG ((B7 16).map fun j=>DC u (15-j))))/\B3 w.heap.size w w':=by
 have a:=afu u b c w h;generalize fG ((B7 16).map fun j=>DC u (15-j))=f at a;generalize (u:Int)=g at a;go_in;go_wp2_with (go_at_call 240;refine a.mono ?_;rintro e w' ⟨rfl,d⟩);go_ret;exact⟨rfl,d⟩
theorem Cv(a b:List Int):fG (a++b)=fG a++fG b:=by
 have h:∀(d:List Int)(c:ByteArray),d.foldl (fun e f=>e.push (UInt8.ofNat f.toNat)) c=c++d.foldl (fun e f=>e.push (UInt8.ofNat f.toNat)) Bs:=by
  intro d
  induction d with
  |nil=>intro c;simp
  |cons a e g=>
   intro c;rw[qe,qe,g (c.push _),g (ByteArray.empty.push _)];apply pK;simp[ByteArray.push,oc]
 unfold fG;rw[List.foldl_append];exact h b _
theorem ai1(u:Nat):hxO u 16=⟨#[48,120]⟩++fG ((B7 16).map fun j=>DC u (15-j)):=by
 have c:∀a,hxO u a=⟨#[48,120]⟩++fG ((B7 a).map fun j=>DC u (15-j)):=by
  intro a
  induction a with
  |zero=>rfl
  |succ a b=>rw[hxO,b,List.range_succ,dF,Cv,bq];rfl
 exact c 16
theorem Ju(n:Int)(l: -9223372036854775808<=n)(m:n<0)(w:B1)(h:w.cell? ⟨9,15,A5⟩=A0 (O F2 4)):B6 Ax 117 #[O U n] w fun e w'=>e= A2 (A9 (hxO (n+18446744073709551616).toNat 16))/\B3 w.heap.size w w':=by
 obtain⟨a,g⟩:∃a:Nat,(a:Int)=n+18446744073709551616:=⟨(n+18446744073709551616).toNat,by omega⟩;rw[show(n+18446744073709551616).toNat=a by omega,ai1];have c:=ai0 a (by omega) (by omega) w h;have i:IntKind.u64.wrap n=(a:Int):=by rw[IntKind.wrap_u64];omega
 have f:(fG ((B7 16).map fun b=>DC a (15-b))).size=16:=rfl;generalize fG ((B7 16).map fun b=>DC a (15-b))=j at c f;generalize (a:Int)=k at c i;clear g;go_in;go_wp2_with (go_at_call 192;refine c.mono ?_;rintro e w' ⟨rfl,d⟩);go_ret;exact⟨rfl,d⟩
def zm(b:List UInt8):List Int:=b.map fun a=>(a.toNat:Int)
theorem EF(a:List UInt8):fG (zm a)=⟨a.toArray⟩:=by
 have g:∀(a:List UInt8)(b:ByteArray),(zm a).foldl (fun d h=>d.push (UInt8.ofNat h.toNat)) b=⟨b.data++a.toArray⟩:=by
  intro a
  induction a with
  |nil=>intro b;simp[zm]
  |cons c d f=>
   intro b;show(zm d).foldl _ (b.push (UInt8.ofNat ((c.toNat:Int)).toNat))=_;rw[f];have e:UInt8.ofNat ((c.toNat:Int)).toNat=c:=by simp
   rw[e];simp[ByteArray.push]
 have:=g a Bs;unfold fG;rw[this];simp
def pre(c:Nat):List Int:=if c=0 then [] else zm (Br c)
theorem afv(c:Nat)(h:c≠0):pre c=pre (c / 10)++[48+((c%10:Nat):Int)]:=by
 have d:∀b,b<10->(((UInt8.ofNat (48+b)).toNat:Nat):Int)=48+(b:Int):=fun b e=>by
  rw[UInt8.toNat_ofNat',Nat.mod_eq_of_lt (by omega)];omega
 unfold pre;rw[aa h];by_cases a:c<10
 ·rw[ab (by omega),Br,mJ a,Nat.mod_eq_of_lt a];show [(((UInt8.ofNat (48+c)).toNat:Nat):Int)]=_;rw[d c a];rfl
 ·rw[aa (by omega),Br,dif_neg a];show List.map _ (_++_)=_;rw[dF];show zm (Br (c / 10))++[(((UInt8.ofNat (48+c%10)).toNat:Nat):Int)]=_;rw[d _ (by omega)]
theorem D2(N:Nat)(a2:N≠0)(bt:N<=9223372036854775807)(w:B1):B6 Ax 228 #[O U (N:Int)] w fun e w'=>e= A2 (A9 ⟨(Br N).toArray⟩)/\B3 w.heap.size w w':=by
 obtain⟨g,A⟩:∃g:Int,(N:Int)=g:=⟨_,rfl⟩;rw[A];have b3:0<g:=by omega
 have bf:g<=9223372036854775807:=by omega
 have b5:(g==0)=Er:=by rw[cG];omega
 have b4:¬g<0:=by omega
 have an:=aq A;clear A;go_in;go_wp2_with fail;go_loopw [0,4,5] (fun E bl b6 wr=>∃(c:Int) (a:List Int),E= O U c/\0<=c/\c<=9223372036854775807/\E2 (c.toNat<10 ^ (19-a.length)/\a.length<=19/\zm (Br N)=pre c.toNat++a.reverse)/\wr.ownsRow w.heap.size 5 1 bl a.length (B8 a)/\B3 w.heap.size w wr) (fun E _ _ _=>(C2 E).toNat)
 case atStart=>
  refine⟨g,[],rfl,by omega,bf,⟨?_,by simp,?_⟩,dr _ _ _ _,ah _ _⟩
  ·have:(10:Nat) ^ (19-([]:List Int).length)=10000000000000000000:=by decide
   rw[this];omega
  ·rw[show g.toNat=N by have:=an.out;omega];unfold pre;rw[aa a2];simp
 case round=>
  obtain⟨c,a,rfl,bo,br,l,q,o⟩:=hrel;by_cases u:c=0
  ·subst u;obtain⟨_,L,K⟩:=l.out;have x:zm (Br N)=a.reverse:=K;have z:0<a.length:=by
    have e:=congrArg List.length x;rw[Fw]at e;have:0<(zm (Br N)).length:=by
     rw[Br];split<;>simp[zm]
    omega
   have F:E2 (fG a.reverse=⟨(Br N).toArray⟩):=by show _=_;rw[<-x,EF]
   rcases q.2 with⟨h,bc⟩|⟨t,ap,bs,al,bF,y,_,a9,m,ak⟩
   ·have:a=[]:=by
     have bw:(B8 a).length=a.length:=aee a;have:=q.1;simp at bc;omega
    rw[this]at z;simp at z
   ·have v:∀k,k<a.length->wr.cell? ⟨t,k,A5⟩=A0 (O F2 (a.getD k 0)):=fun k a8=>by
     rw[au _ _ _ _ _ _ y];have f:(B8 a)[k]?=A0 (O F2 (a.getD k 0)):=by simp[B8,a8,List.getD]
     rw[<-ak,jH]at f;split at f
     ·simpa using f
     ·cases f
    have a6:t<wr.heap.size:=ai y;obtain⟨d,n⟩:=az a.length;rw[n]at z L v al;subst al;clear l K x q y ak m a9;have ad:∀b,b<d->a.reverse.take (b+1)=a.reverse.take b++[a.getD (d-1-b) 0]:=fun b B=>by
     have e:a.reverse[b]?=A0 (a.getD (d-1-b) 0):=by
      rw[List.getElem?_reverse (by omega),List.getD,n,aJ (by omega)];rfl
     rw[iI,e];rfl
    have m:∀b,b<=d->(fG (a.reverse.take b)).size=b:=fun b B=>by
     have:∀j:List Int,(fG j).size=j.length:=by
      intro j
      induction j with
      |nil=>rfl
      |cons I J bd=>rw[show I::J=[I]++J from rfl,Cv,ay,bd,aK];rfl
     rw[this,eD,Fw];omega
    have H:=aq ad;have am:=aq n;clear ad n;go_wp2_with fail;go_loopw [6,7] (fun bk C bn=>∃b:Nat,b<=d/\C= O U ((d:Int)-1-(b:Int))/\bk= A9 (fG (a.reverse.take b))/\B3 wr.heap.size wr bn) (fun _ C _=>(C2 C+1).toNat)
    case atStart=>exact⟨0,by omega,by first|rfl|(congr 1;omega),rfl,ah _ _⟩
    case round=>
     obtain⟨b,B,rfl,rfl,p⟩:=hrel;have af:=m b B;by_cases bb:b<d
     ·obtain⟨i,a3⟩:∃i:Nat,d-1-b=i:=⟨_,rfl⟩;have a5:=(pd p a6).trans (v i (by omega));have s:=H.out b bb;rw[a3]at s;have r:E2 (fG (a.reverse.take b)++fG [a.getD i 0]=fG (a.reverse.take (b+1))):=by show _=_;rw[s,Cv]
      generalize a.getD i 0=j at a5 r;have bD:=fun w=>oI (uG w j);have b2:(fG [j]).size=1:=rfl;have a7:(d:Int)-1-(b:Int)=(i:Int):=by omega
      have bx:i<d:=by omega
      generalize fG (a.reverse.take b)=bh at af r⊢;rw[a7];clear m s v;go_wp2;go_roundw
      case rel=>exact⟨b+1,by omega,by first|rfl|(congr 1;omega),by rw[r.out],p.alloc p.size _⟩
      case measure=>simp[C2]
     ·obtain rfl:b=d:=by omega
      have b1:¬(0:Int)<=(b:Int)-1-(b:Int):=by omega
      rw[cA (by rw[Fw,am.out];exact ag _)];have G:=F.out;generalize fG a.reverse=bh at G⊢;subst G;clear af m F H;go_wp2;go_ret;exact⟨rfl,o.trans (p.mono o.size)⟩
  ·have bE:(c==0)=Er:=by rw[cG];exact u
   have bA:(c !=0)=Fs:=by rw[xB];exact u
   have b0:¬c%10<0:=by omega
   have L:a.length<=18:=by
    obtain⟨f,ar,_⟩:=l.out;rcases bj a.length 19 with h|h
    ·omega
    ·rw[show 19-a.length=0 by omega]at f;simp at f;omega
   have ao:E2 ((c / 10).toNat<10 ^ (19-(a++[48+c%10]).length)/\(a++[48+c%10]).length<=19/\zm (Br N)=pre (c / 10).toNat++(a++[48+c%10]).reverse):=by
    obtain⟨f,ar,av⟩:=l.out;have a1:(a++[48+c%10]).length=a.length+1:=by simp
    refine⟨?_,by omega,?_⟩
    ·rw[a1];have a0:10 ^ (19-a.length)=10 ^ (19-(a.length+1))*10:=by rw[<-Nat.pow_succ];congr 1;omega
     rw[a0]at f;have:(c / 10).toNat=c.toNat / 10:=by omega
     rw[this];omega
    ·rw[av,afv c.toNat (by omega),show(c / 10).toNat=c.toNat / 10 by omega,show((c.toNat%10:Nat):Int)=c%10 by omega];simp
   clear l;go_wp2_with (at_builtin;refine jc rfl (.tmp 20) (.tmp 24) rfl w.heap.size u4 a.length a rfl q o.size (by omega) [48+c%10] 1 rfl (by decide) (by decide) _ rfl rfl ?_;intro t ap b7 ba a4);go_roundw
   case rel=>exact⟨c / 10,a++[48+c%10],by first|rfl|(congr 1;omega),by omega,by omega,ao,by rw[aK];exact ba,o.trans (a4.mono (by omega))⟩
   case measure=>simp[C2];omega
structure Cw (w:B1):Prop where
 tabs:qv w
 errs:nA w
 pow:Lib.TabIs Ax w "internal/strconv.uint64pow10" .u64 Lib.pow10Tab
 brj:w.cell? ⟨9,15,A5⟩=A0 (.int .u8 4)
theorem zn{P:Program}{B:Nat}{n:String}{cs:Array Cb}(h:w.var? P n=A0 cs)(c:B3 B w w')(b:w.heap.size<=B):w'.var? P n=A0 cs:=by
 unfold World.var? at h⊢;cases hg:P.globalNamed n with
 |none=>simp[hg]at h
 |some a=>
  simp only[hg,A7]at h⊢;have d:a<w.heap.size:=by
   rcases bj a w.heap.size with h'|h'
   ·exact h'
   ·simp[xk h']at h
  rw[c.block a (fD d b)];exact h
theorem Cw.below{B:Nat}(h:Cw w)(b:B3 B w w')(a:w.heap.size<=B):Cw w':=
 ⟨h.tabs.below b a,h.errs.below b a,zn h.pow b a,(pd b (fD (AL w _ h.brj) a)).trans h.brj⟩
theorem afw(w:B1)(q:Nat)(os:Array Obj):B3 w.heap.size w (Sort.grow (w.drewN q) os):=
 ⟨rfl,rfl,rfl,by show w.heap.size<=(w.heap++os).size;simp,fun b a=>by show(w.heap++os)[b]?=_;rw[Array.getElem?_append_left a]⟩
def Cy(n:Int):ByteArray:=if n<0 then hxO (n+18446744073709551616).toNat 16 else⟨(Br n.toNat).toArray⟩
theorem adn(N:Nat)(b:N<=9223372036854775807)(w:B1):B6 Ax 228 #[O U (N:Int)] w fun e w'=>e= A2 (A9 ⟨(Br N).toArray⟩)/\B3 w.heap.size w w':=by
 by_cases a:N=0
 ·subst a;have e:(⟨(Br 0).toArray⟩:ByteArray)=⟨#[48]⟩:=by rw[Br,mJ (by omega)];rfl
  rw[e];show B6 Ax 228 #[O U 0] w _;go_in;go_wp2;go_ret;exact⟨rfl,ah _ _⟩
 ·exact D2 N a b w
theorem ado(n:Int)(c: -9223372036854775808<=n)(g:n<=9223372036854775807)(w:B1):B6 Ax 180 #[O U n] w fun e w'=>e= A2 (A9 (Cy n))/\B3 w.heap.size w w':=by
 unfold Cy;by_cases a:n<0
 ·rw[ab a];exact adm n c a w
 ·rw[aa a];have b:∀w,B6 Ax 228 #[O U n] w fun e w'=>e= A2 (A9 ⟨(Br n.toNat).toArray⟩)/\B3 w.heap.size w w':=fun w=>by
   have:=adn n.toNat (by omega) w;rw[show((n.toNat:Nat):Int)=n by omega]at this;exact this
  generalize (⟨(Br n.toNat).toArray⟩:ByteArray)=f at b;have h:0<=n:=by omega
  go_in;go_wp2_with (go_at_call 228;refine(b _).mono ?_;rintro e w' ⟨rfl,d⟩);go_ret;exact⟨rfl,d⟩
theorem Jv(n:Int)(b: -9223372036854775808<=n)(f:n<=9223372036854775807)(w:B1)(c:Cw w):B6 Ax 117 #[O U n] w fun e w'=>e= A2 (A9 (Cy n))/\B3 w.heap.size w w':=by
 unfold Cy;by_cases a:n<0
 ·rw[ab a];exact Ju n b a w c.brj
 ·rw[aa a];have d:B6 Ax 193 #[O U n,O U 10] w fun e w'=>e= A2 (A9 ⟨(Br n.toNat).toArray⟩)/\B3 w.heap.size w w':=by
   refine(Tryz.strconv_FormatInt_10 n b f w c.pow).mono ?_;rintro e w' ⟨rfl,j,k,rfl⟩;refine⟨by unfold Lib.itoa;rw[aa a],afw _ _ _⟩
  generalize (⟨(Br n.toNat).toArray⟩:ByteArray)=h at d;have i:¬n<0:=a;go_in;go_wp2_with (go_at_call 193;refine d.mono ?_;rintro e w' ⟨rfl,g⟩);go_ret;exact⟨rfl,g⟩
theorem alm:∀k:Fin 30,5<=xG (bK jd k.val)/\xG (bK jd k.val)<=78:=by decide+kernel
theorem Jw(kind:Int)(h:kind<5\/78<kind):∀(f k:Nat),k+f<=30->KB kind f k=KA
 |0,k,_=>rfl
 |f+1,k,a=>by
  have:=alm ⟨k,by omega⟩;unfold KB;rw[aa (by simp only at this;omega)];exact Jw kind h f (k+1) (by omega)
theorem Jy:∀k:Fin 79,k.val≠7->pG (k.val:Int)=fy (k.val:Int):=by decide+kernel
theorem aby(kind:Int)(b:kind≠7):pG kind=fy kind:=by
 by_cases a:0<=kind/\kind<=78
 ·have:=Jy ⟨kind.toNat,by omega⟩ (by simp only;omega);simp only[show((kind.toNat:Nat):Int)=kind by omega]at this;exact this
 ·unfold pG fy;rw[aa (by omega),aa (by omega),aa (by omega),aa (by omega),aa (by omega),aa (by omega),aa (by omega)];exact Jw kind (by omega) 30 0 (by omega)
theorem EG(s:ByteArray)(c:s.size<=1100000)(w:B1):B6 Ax 243 #[A9 s] w fun e w'=>e= A2 (A9 s)/\B3 w.heap.size w w':=by
 have b:=fun w=>Tryz.stringslite_Clone s w (by omega);go_in;go_wp2_with (go_at_call 275;refine(b _).mono ?_;rintro e w' ⟨rfl,a⟩);go_ret;exact⟨rfl,a⟩
structure Jz (s:ByteArray) (f p:Nat) (a:List Int) (R:Bool×Nat×List Int):Prop where
 out:fp s f p a=R
def EH(p:Nat)(R:Bool×Nat×List Int):Cb:=if R.1=Fs then F1 #[O U 4,O U p,O U (R.2.1:Int),O U 0,O U 0,A9 (fG R.2.2)] else F1 #[O U 4,O U p,O U 0,O U 0,O U 0,A9 ⟨#[]⟩]
def JA(R:Bool×Nat×List Int):Int:=if R.1=Fs then -1 else(R.2.1:Int)
theorem EI{p a:Nat}{c:List Int}{R:Bool×Nat×List Int}(h:(Fs,a,c)=R):(Ending.returned (B4 #[F1 #[O U 4,O U p,O U (a:Int),O U 0,O U 0,A9 (fG c)],O U (-1)]))= A2 (B4 #[EH p R,O U (JA R)]):=by
 subst h;rfl
theorem ul{p a:Nat}{c:List Int}{R:Bool×Nat×List Int}(h:(Er,a,c)=R):(Ending.returned (B4 #[F1 #[O U 4,O U p,O U 0,O U 0,O U 0,A9 ⟨#[]⟩],O U (a:Int)]))= A2 (B4 #[EH p R,O U (JA R)]):=by
 subst h;rfl
theorem Gz(s:ByteArray)(c4:s.size<=70000)(p:Nat)(c6:p<s.size)(w:B1):B6 Ax 148 #[A9 s,F1 #[O U 0,O U p,O U 0,O U 0,O U 0,A9 ⟨#[]⟩]] w fun e w'=>
  e= A2 (B4 #[EH p (fp s (s.size+1) (p+1) []),O U (JA (fp s (s.size+1) (p+1) []))])/\B3 w.heap.size w w':=by
 obtain⟨C,bo⟩:=az (fp s (s.size+1) (p+1) []);rw[bo];have b0:Jz s (s.size+1) (p+1) [] C:=⟨bo⟩;go_in;go_wp2_with fail;go_loopw [6,7,8,9] (fun bf cl d4 d5 wr=>∃(b j i:Nat) (g:List Int),bf= O U b/\dD w.heap.size wr 4 p 0 0 0 ⟨#[]⟩/\dD (w.heap.size+1) wr 0 0 0 0 0 ⟨#[]⟩/\wr.ownsRow (w.heap.size+2) 5 1 cl j (B8 g)/\s.size<b+i/\b<=s.size/\j<=b/\Jz s i b g C/\B3 w.heap.size w wr/\w.heap.size+2<=wr.heap.size) (fun bf _ _ _ _=>s.size-(C2 bf).toNat)
 case atStart=>
  generalize b9:(w.alloc _).alloc _=cr;obtain⟨x,y,b7,df⟩:=DB b9;exact⟨p+1,0,s.size+1,[],by go_num,x,y,dr _ _ _ _,by omega,by omega,by omega,b0,b7,by omega⟩
 case round=>
  obtain⟨b,j,i,g,rfl,x,y,z,c1,c8,c5,b1,l,m⟩:=hrel;obtain⟨cs,ct,cv,cw,cx,cz,cB⟩:=bg x;obtain⟨z0,L,ad,ak,al,am,d6⟩:=bg y;obtain⟨i,rfl⟩:∃H,i=H+1:=⟨i-1,by omega⟩;have c:=b1.out;unfold fp at c;by_cases br:b<s.size
  ·have ck:=jt br;have cg:=fun w=>cL br w;have c7:(b:Int)<(s.size:Int):=by omega
   rw[aa (by omega)]at c;obtain⟨t,cb⟩:=az (ax s b);rw[cb]at ck cg c;by_cases a6:t=34
   ·subst a6;rw[ab rfl]at c;have f:=aq c;rcases z.2 with⟨rfl,cc⟩|⟨H,an,cF,rfl,ds⟩
    ·have ca:g=[]:=by have:=xC z;rw[cc]at this;exact ia this
     have bE:=aq ca;have ch:=Ih;go_wp2_with fail;refine aI (v:= B4 #[F1 #[O U 4,O U p,O U ((b:Int)+1),O U 0,O U 0,A9 Bs],O U (-1)]) (by simp[results,Tryz.results148,go_sem,z0,L,ad,ak,al,am]) rfl ⟨by have h:=f.out;rw[bE.out]at h;exact EI h,?_⟩
     iterate 8 refine eJ ?_ (by simp) _
     exact l
    ·have ch:=oI (sa (a:=⟨w.heap.size,2,A5⟩) z (by simp) (O U ((b:Int)+1)));go_wp2_with fail;refine aI (v:= B4 #[F1 #[O U 4,O U p,O U ((b:Int)+1),O U 0,O U 0,A9 (fG g)],O U (-1)]) (by simp[results,Tryz.results148,go_sem,z0,L,ad,ak,al,am]) rfl ⟨EI f,?_⟩
     iterate 8 refine eJ ?_ (by simp) _
     exact l
   rw[aa a6]at c;have dk:(t==34)=Er:=by simp[a6]
   by_cases a7:t=10
   ·subst a7;rw[ab rfl]at c;have f:=aq c;go_wp2_with fail;refine aI (v:= B4 #[F1 #[O U 4,O U p,O U 0,O U 0,O U 0,A9 ⟨#[]⟩],O U (b:Int)]) (by simp[results,Tryz.results148,go_sem,z0,L,ad,ak,al,am]) rfl ⟨ul f,?_⟩
    iterate 6 refine eJ ?_ (by simp) _
    exact l
   rw[aa a7]at c;have dn:(t==10)=Er:=by simp[a7]
   by_cases a8:t=92
   ·subst a8;rw[ab rfl]at c;have k:=fun w=>gh s (by omega) ((b:Int)+1) (b+1) (by omega) w;by_cases u:ax s (b+1)=110
    ·have q:=db u;rw[show jg s (b+1)=(10,b+1+1,Fs) by unfold jg;rw[ab u],ab rfl]at c;rw[su q,u]at k;have f:Jz s i (b+1+1) (g++[10]) C:=⟨c⟩;go_wp2_with (first|(go_at_call 143;refine dB (k _) ?_)|(at_builtin;refine jc rfl (.tmp 51) (.tmp 52) rfl (w.heap.size+2) _ j g rfl z m (by omega) [10] 1 rfl (by decide) (by decide) _ rfl rfl ?_;intro H an av o d));go_roundw
     case rel=>exact⟨b+1+1,j+1,i,g++[10],by go_num,x.below d (by omega),y.below d (by omega),o,by omega,by omega,by omega,f,l.trans (d.mono (by omega)),bL m d.size⟩
     case measure=>simp[C2];omega
    by_cases E:ax s (b+1)=116
    ·have q:=db E;rw[show jg s (b+1)=(9,b+1+1,Fs) by unfold jg;rw[aa u,ab E],ab rfl]at c;rw[su q,E]at k;have f:Jz s i (b+1+1) (g++[9]) C:=⟨c⟩;go_wp2_with (first|(go_at_call 143;refine dB (k _) ?_)|(at_builtin;refine jc rfl (.tmp 56) (.tmp 57) rfl (w.heap.size+2) _ j g rfl z m (by omega) [9] 1 rfl (by decide) (by decide) _ rfl rfl ?_;intro H an av o d));go_roundw
     case rel=>exact⟨b+1+1,j+1,i,g++[9],by go_num,x.below d (by omega),y.below d (by omega),o,by omega,by omega,by omega,f,l.trans (d.mono (by omega)),bL m d.size⟩
     case measure=>simp[C2];omega
    by_cases F:ax s (b+1)=34
    ·have q:=db F;rw[show jg s (b+1)=(34,b+1+1,Fs) by unfold jg;rw[aa u,aa E,ab (Or.inl F),F],ab rfl]at c;rw[su q,F]at k;have bb:=fun w=>xD q w;rw[F]at bb;have f:Jz s i (b+1+1) (g++[34]) C:=⟨c⟩;go_wp2_with (first|(go_at_call 143;refine dB (k _) ?_)|(at_builtin;refine jc rfl (.tmp 62) (.tmp 66) rfl (w.heap.size+2) _ j g rfl z m (by omega) [34] 1 rfl (by decide) (by decide) _ rfl rfl ?_;intro H an av o d));go_roundw
     case rel=>exact⟨b+1+1,j+1,i,g++[34],by go_num,x.below d (by omega),y.below d (by omega),o,by omega,by omega,by omega,f,l.trans (d.mono (by omega)),bL m d.size⟩
     case measure=>simp[C2];omega
    by_cases G:ax s (b+1)=92
    ·have q:=db G;rw[show jg s (b+1)=(92,b+1+1,Fs) by unfold jg;rw[aa u,aa E,ab (Or.inr G),G],ab rfl]at c;rw[su q,G]at k;have bb:=fun w=>xD q w;rw[G]at bb;have f:Jz s i (b+1+1) (g++[92]) C:=⟨c⟩;go_wp2_with (first|(go_at_call 143;refine dB (k _) ?_)|(at_builtin;refine jc rfl (.tmp 62) (.tmp 66) rfl (w.heap.size+2) _ j g rfl z m (by omega) [92] 1 rfl (by decide) (by decide) _ rfl rfl ?_;intro H an av o d));go_roundw
     case rel=>exact⟨b+1+1,j+1,i,g++[92],by go_num,x.below d (by omega),y.below d (by omega),o,by omega,by omega,by omega,f,l.trans (d.mono (by omega)),bL m d.size⟩
     case measure=>simp[C2];omega
    by_cases ap:ax s (b+1)=120
    ·have q:=db ap;rw[su q,ap]at k;have b8:jg s (b+1)=dc s (b+1+1):=by unfold jg;rw[aa u,aa E,aa (fun h=>h.elim F G),ab ap]
     rw[b8]at c;unfold dc at c;have K:=fun w=>gh s (by omega) ((b:Int)+1+1) (b+1+1) (by omega) w;have ar:=fun w=>gh s (by omega) ((b:Int)+1+2) (b+1+1+1) (by omega) w;have bk:=aa8 s (b+1+1);have bl:=aa8 s (b+1+1+1);have n:=fun w=>yG (lk s (b+1+1)) bk.1 bk.2 w;have A:=fun w=>yG (lk s (b+1+1+1)) bl.1 bl.2 w;rw[abe]at n A;have cm:=mK (ax s (b+1+1));have cn:=mK (ax s (b+1+1+1));by_cases J:fK (ax s (b+1+1))<0
     ·rw[ab J,aa (by simp)]at c;have f:=aq c;generalize lk s (b+1+1)=bh at K n;generalize fK (ax s (b+1+1))=r at n J;go_wp2_with (go_at_call 143;refine dB (k _) ?_);refine pH 3 ?_;rw[iK];go_wp2_with (first|(go_at_call 143;refine dB (K _) ?_)|(go_at_call 221;refine dB (n _) ?_));refine aI (v:= B4 #[F1 #[O U 4,O U p,O U 0,O U 0,O U 0,A9 ⟨#[]⟩],O U ((b:Int)+1+1)]) (by simp[results,Tryz.results148,go_sem,z0,L,ad,ak,al,am]) rfl ⟨ul f,?_⟩
      iterate 6 refine eJ ?_ (by simp) _
      exact l
     rw[aa J]at c;have bs:0<=fK (ax s (b+1+1)):=by omega
     by_cases ao:fK (ax s (b+1+1+1))<0
     ·rw[ab ao,aa (by simp)]at c;have f:=aq c;generalize lk s (b+1+1)=bh at K n;generalize fK (ax s (b+1+1))=r at n J bs;generalize lk s (b+1+1+1)=b4 at ar A;generalize fK (ax s (b+1+1+1))=I at A ao;go_wp2_with (go_at_call 143;refine dB (k _) ?_);refine pH 3 ?_;rw[iK];go_wp2_with (first|(go_at_call 143;refine dB (K _) ?_)|(go_at_call 221;refine dB (n _) ?_));rw[iK];go_wp2_with (first|(go_at_call 143;refine dB (ar _) ?_)|(go_at_call 221;refine dB (A _) ?_));refine aI (v:= B4 #[F1 #[O U 4,O U p,O U 0,O U 0,O U 0,A9 ⟨#[]⟩],O U ((b:Int)+1+2)]) (by simp[results,Tryz.results148,go_sem,z0,L,ad,ak,al,am]) rfl ⟨by have h:=ul (p:=p) f.out;rw[show((b+1+1+1:Nat):Int)=(b:Int)+1+2 by omega]at h;exact h,?_⟩
      iterate 6 refine eJ ?_ (by simp) _
      exact l
     have a9:b+1+1<s.size:=by
      rcases bj (b+1+1) s.size with h|h
      ·exact h
      ·rw[dj]at J;exact absurd (by decide) J
     have ba:b+1+1+1<s.size:=by
      rcases bj (b+1+1+1) s.size with h|h
      ·exact h
      ·rw[dj]at ao;exact absurd (by decide) ao
     have bc:=fun w=>cL a9 w;have bd:=fun w=>cL ba w;rw[show((b+1+1:Nat):Int)=(b:Int)+1+1 by omega]at bc;rw[show((b+1+1+1:Nat):Int)=(b:Int)+1+2 by omega]at bd;rw[aa ao,ab rfl]at c;rw[su a9]at K n;rw[su ba]at ar A;have cf:0<=fK (ax s (b+1+1+1)):=by omega
     have f:Jz s i (b+1+1+1+1) (g++[fK (ax s (b+1+1))*16+fK (ax s (b+1+1+1))]) C:=⟨c⟩;have b5:=jt a9;have b6:=jt ba;generalize fK (ax s (b+1+1))=r at n J bs cm f;generalize fK (ax s (b+1+1+1))=I at A ao cf cn f;generalize ax s (b+1+1)=bh at K n bc b5;generalize ax s (b+1+1+1)=b4 at ar A bd b6;rw[show r*16+I=16*r+I by omega]at f;go_wp2_with (go_at_call 143;refine dB (k _) ?_);refine pH 3 ?_;rw[iK];go_wp2_with (first|(go_at_call 143;refine dB (K _) ?_)|(go_at_call 221;refine dB (n _) ?_));rw[iK];go_wp2_with (first|(go_at_call 143;refine dB (ar _) ?_)|(go_at_call 221;refine dB (A _) ?_));rw[iK];go_wp2_with fail;obtain⟨B,bn⟩:∃B:Int,(b:Int)+1=B:=⟨_,rfl⟩;rw[bn]at bc bd⊢;have bF:=aq bn;have dz:IntKind.i64.wrap (B+1)=B+1:=Bc _ (by omega);have d0:IntKind.i64.wrap (B+2)=B+2:=Bc _ (by omega);have d1:IntKind.i64.wrap (16*r)=16*r:=Bc _ (by omega);have d2:IntKind.i64.wrap (16*r+I)=16*r+I:=Bc _ (by omega);have d3:IntKind.u8.wrap (16*r+I)=16*r+I:=IntWalk.u8_in _ (by omega);have cI:0<=B:=by omega
     have c0:B<=70001:=by omega
     go_region_held3 (fun w'=>True) (trivial) ((first|(go_at_call 221;with_reducible refine dB (n _) ?_)|(go_at_call 221;with_reducible refine dB (A _) ?_)|(refine Bd (by rfl) _ _ (by rfl) (w.heap.size+2) _ j g (by rfl) z m (by omega) [_] 1 (by rfl) (by decide) (by decide) _ (by rfl) (by rfl) ?_;intro H an av o d)))
     all_goals
      go_wp2_with fail;have c9:=bF.out;exact⟨⟨b+1+1+1+1,j+1,i,g++[16*r+I],by congr 1<;>omega,x.below d (by omega),y.below d (by omega),o,by omega,by omega,by omega,f,l.trans (d.mono (by omega)),bL m d.size⟩,by simp[C2];omega⟩
    rw[show jg s (b+1)=(0,b+1,Er) by unfold jg;rw[aa u,aa E,aa (fun h=>h.elim F G),aa ap],aa (by simp)]at c;have f:=aq c;have bt:=uh s (b+1) 110;have bw:=uh s (b+1) 116;have bx:=uh s (b+1) 34;have bA:=uh s (b+1) 92;have bD:=uh s (b+1) 120;rw[aC u]at bt;rw[aC E]at bw;rw[aC F]at bx;rw[aC G]at bA;rw[aC ap]at bD;generalize lk s (b+1)=cq at k bt bw bx bA bD;go_wp2_with (go_at_call 143;refine dB (k _) ?_);refine aI (v:= B4 #[F1 #[O U 4,O U p,O U 0,O U 0,O U 0,A9 ⟨#[]⟩],O U ((b:Int)+1)]) (by simp[results,Tryz.results148,go_sem,z0,L,ad,ak,al,am]) rfl ⟨ul f,?_⟩
    iterate 6 refine eJ ?_ (by simp) _
    exact l
   rw[aa a8]at c;have dq:(t==92)=Er:=by simp[a8]
   have f:Jz s i (b+1) (g++[t]) C:=⟨c⟩;go_wp2_with (at_builtin;refine jc rfl (.tmp 36) (.tmp 38) rfl (w.heap.size+2) _ j g rfl z m (by omega) [t] 1 rfl (by decide) (by decide) _ rfl rfl ?_;intro H an av o d);go_roundw
   case rel=>exact⟨b+1,j+1,i,g++[t],by go_num,x.below d (by omega),y.below d (by omega),o,by omega,by omega,by omega,f,l.trans (d.mono (by omega)),bL m d.size⟩
   case measure=>simp[C2];omega
  ·rw[ab (by omega)]at c;have f:=aq c;obtain rfl:b=s.size:=by omega
   go_wp2_with fail;refine aI (v:= B4 #[F1 #[O U 4,O U p,O U 0,O U 0,O U 0,A9 ⟨#[]⟩],O U (s.size:Int)]) (by simp[results,Tryz.results148,go_sem,z0,L,ad,ak,al,am]) rfl ⟨ul f,?_⟩
   iterate 6 refine eJ ?_ (by simp) _
   exact l
theorem LI(w:B1)(n:TypeId)(fr:Nat×Nat)(g:w.heap[3]?=A0 (.cells EE n fr))(kind:Int)(k:∀i,i<20->qk.getD i 0≠kind):
  B6 Ax 195 #[.int .i64 kind] w fun e w'=>e= .returned (.tuple #[.agg #[.int .i64 0,.int .i64 0,.int .i64 0],.bool Er])/\B3 w.heap.size w w':=by
 have r:=ai g;have h:∀a,B3 w.heap.size w (w.alloc a):=fun a=>(ah _ w).alloc (ag _) a;have o:E2 (eA w.heap.size (w.alloc (.cells #[.int .i64 0,.int .i64 0,.int .i64 0] 168)) 0 0 0/\B3 w.heap.size w (w.alloc (.cells #[.int .i64 0,.int .i64 0,.int .i64 0] 168))):=⟨aA w _,h _⟩;have p:=aq k;clear k;go_in;go_wp2_with (refine uB rfl 234 _ rfl 3 rfl n _ fr _ (((h _).block _ r).trans g) Tryz.underlying234 rfl (by kernel_rfl) ?_);go_loopw [7] (fun f wr=>∃b:Nat,b<=20/\f= .int .i64 b/\E2 (eA w.heap.size wr 0 0 0/\B3 w.heap.size w wr)) (fun f _=>20-(C2 f).toNat)
 case atStart=>exact⟨0,by omega,rfl,o⟩
 case round=>
  obtain⟨b,z,rfl,c⟩:=hrel;by_cases l:b<20
  ·have d:=fun w=>aki b l w;have t:=ai c.1;have j:∀a,B3 wr.heap.size wr (wr.alloc a):=fun a=>(ah _ wr).alloc (ag _) a;have s:=p.out b l;generalize mo (3*b+1)=B at d;generalize mo (3*b+2)=C at d;generalize qk.getD b 0=A at d s;have q:E2 (∀a,eA w.heap.size (wr.alloc a) 0 0 0/\B3 w.heap.size w (wr.alloc a)):=fun a=>⟨((j a).block _ t).trans c.1,c.2.trans ((j a).mono c.2.size)⟩;go_wp21
   exact⟨⟨b+1,by omega,by go_num,q _⟩,by simp[C2];omega⟩
  ·obtain rfl:b=20:=by omega
   obtain⟨u,v,x,y⟩:=c.1.cells;have m:E2 (eA w.heap.size (((wr.setCell ⟨w.heap.size,0,A5⟩ (.int .i64 0)).setCell ⟨w.heap.size,1,A5⟩ (.int .i64 0)).setCell ⟨w.heap.size,2,A5⟩ (.int .i64 0)) 0 0 0/\B3 w.heap.size w (((wr.setCell ⟨w.heap.size,0,A5⟩ (.int .i64 0)).setCell ⟨w.heap.size,1,A5⟩ (.int .i64 0)).setCell ⟨w.heap.size,2,A5⟩ (.int .i64 0))):=⟨eA.put c.1 0 0 0,((c.2.setCell (ag _) _).setCell (ag _) _).setCell (ag _) _⟩;go_wp21
   exact aI (mA rfl _ _ _ ⟨w.heap.size,0,A5⟩ (.bool Er) _ rfl rfl (vy _ _ _ _ _ m.1)) rfl ⟨rfl,m.2⟩
theorem abz:∀j,j<20->mo (3*j+1)=Iz (qk.getD j 0)/\mo (3*j+2)=rpw (qk.getD j 0)/\ip (qk.getD j 0)=Fs/\∀i,i<j->qk.getD i 0≠qk.getD j 0:=by decide
theorem aln{k:Int}(b:ip k=Fs)(d:k<=78):∃j,j<20/\qk.getD j 0=k:=by
 have c:=aH b;have a:k=10\/k=26\/k=61\/k=62\/k=63\/k=64\/k=65\/k=66\/k=67\/k=68\/k=69\/k=70\/k=71\/k=72\/k=73\/k=74\/k=75\/k=76\/k=77\/k=78:=by omega
 rcases a with rfl|rfl|rfl|rfl|rfl|rfl|rfl|rfl|rfl|rfl|rfl|rfl|rfl|rfl|rfl|rfl|rfl|rfl|rfl|rfl
 ·exact⟨1,by decide,rfl⟩
 ·exact⟨0,by decide,rfl⟩
 ·exact⟨14,by decide,rfl⟩
 ·exact⟨15,by decide,rfl⟩
 ·exact⟨16,by decide,rfl⟩
 ·exact⟨17,by decide,rfl⟩
 ·exact⟨18,by decide,rfl⟩
 ·exact⟨19,by decide,rfl⟩
 ·exact⟨11,by decide,rfl⟩
 ·exact⟨9,by decide,rfl⟩
 ·exact⟨10,by decide,rfl⟩
 ·exact⟨12,by decide,rfl⟩
 ·exact⟨13,by decide,rfl⟩
 ·exact⟨8,by decide,rfl⟩
 ·exact⟨2,by decide,rfl⟩
 ·exact⟨3,by decide,rfl⟩
 ·exact⟨4,by decide,rfl⟩
 ·exact⟨5,by decide,rfl⟩
 ·exact⟨6,by decide,rfl⟩
 ·exact⟨7,by decide,rfl⟩
def ndD:Nd:=⟨0,0,0,0,0,0,Bs,[],[]⟩
def ae(a:List Nd)(i:Int):Nd:=a.getD i.toNat ndD
def dG(N:Nd)(j:Nat):Int:=N.ks.getD j 0
def gw(l:List ByteArray):ByteArray:=l.foldl (· ++·) Bs
def gi(x:ByteArray):ByteArray:=⟨#[40]⟩++x++⟨#[41]⟩
def po(a:List Nd)(E:Int->ByteArray)(k b:Int):ByteArray:=if iD (ae a k).k (ae a k).op<b then gi (E k) else E k
def Ae(N:Nd)(a:Int):Int:=if tj N.k N.op=a then a+1 else a
def GA(a:List Nd)(E:Int->ByteArray)(N:Nd)(c:ByteArray)(b:Int):ByteArray:=po a E (dG N 0) (Ae N b)++c++po a E (dG N 1) (tj N.k N.op)
def GC(N:Nd):Bool:=N.k==30&&N.op==19
def unS(a:List Nd)(N:Nd):ByteArray:=if N.op=21 then⟨#[110,111,116,32]⟩ else if N.op=22 then⟨#[35]⟩ else if N.op=20 then⟨#[126]⟩ else if GC (ae a (dG N 0))=Fs then⟨#[45]⟩++⟨#[32]⟩ else⟨#[45]⟩
def unB(a:List Nd)(E:Int->ByteArray)(N:Nd):ByteArray:=unS a N++po a E (dG N 0) 11
def bsB(a:List Nd)(E:Int->ByteArray)(k:Int):ByteArray:=if td (ae a k).k=Fs then E k else gi (E k)
def plB(N:Nd):ByteArray:=
 if N.k=20 then⟨#[110,105,108]⟩ else if N.k=21 then⟨#[116,114,117,101]⟩ else if N.k=22 then⟨#[102,97,108,115,101]⟩ else if N.k=23 then Cy N.n
 else if N.k=24\/N.k=26 then N.x else if N.k=25 then fG (oJ N.x) else if N.k=27 then⟨#[46,46,46]⟩ else Bs
def Ay(a:List Nd)(E:Int->ByteArray)(X:Nd):ByteArray:=
 if X.k=41 then⟨#[91]⟩++E (dG X 0)++⟨#[93,32,61,32]⟩++E (dG X 1) else if X.k=42 then(⟨#[46]⟩++X.x++⟨#[32,61,32]⟩)++E (dG X 0) else E (dG X 0)
def afx(a:List Nd)(E:Int->ByteArray)(N:Nd):ByteArray:=⟨#[123]⟩++cC (N.ks.map fun b=>Ay a E (ae a b))++⟨#[125]⟩
def Az(S:Int->Nat->ByteArray)(ks:List Int)(tab:Nat):ByteArray:=
 if ks=[] then⟨#[123,125]⟩ else⟨#[123]⟩++gw (ks.map fun a=>gH (tab+1)++S a (tab+1))++gH tab++⟨#[125]⟩
def adp(N:Nd):ByteArray:=⟨#[40]⟩++cC N.nm++(if N.op=1 then(if N.nm=[] then⟨#[46,46,46]⟩ else dL++⟨#[46,46,46]⟩) else Bs)++⟨#[41,32]⟩
def JB(a:List Nd)(S:Int->Nat->ByteArray)(N:Nd)(tab:Nat):ByteArray:=adp N++Az S (ae a (dG N 0)).ks tab
def prE(a:List Nd)(E:Int->ByteArray)(S:Int->Nat->ByteArray)(N:Nd)(tab:Nat):ByteArray:=
 if N.k=28 then GA a E N ⟨#[32,97,110,100,32]⟩ (iD N.k N.op)
 else if N.k=29 then GA a E N ⟨#[32,111,114,32]⟩ (iD N.k N.op)
 else if N.k=31 then GA a E N (⟨#[32]⟩++pG (60+N.op)++⟨#[32]⟩) (iD N.k N.op)
 else if N.k=30 then unB a E N
 else if N.k=32 then bsB a E (dG N 0)++⟨#[91]⟩++E (dG N 1)++⟨#[93]⟩
 else if N.k=33 then bsB a E (dG N 0)++(⟨#[46]⟩++N.x)
 else if N.k=34 then bsB a E (dG N 0)++⟨#[40]⟩++cC ((N.ks.drop 1).map E)++⟨#[41]⟩
 else if N.k=35 then afx a E N
 else if N.k=36 then⟨#[102,110]⟩++JB a S N tab
 else if N.k=37 then gi (E (dG N 0))
 else plB N
def Cz(a:List Nd)(E:Int->ByteArray)(S:Int->Nat->ByteArray)(b:Int->ByteArray->ByteArray)(N:Nd)(c:ByteArray)(tab:Nat):ByteArray:=
 c++E (dG N 0)++⟨#[32]⟩++Az S (ae a (dG N 1)).ks tab++
  (if N.ks.length<3 then Bs else if(ae a (dG N 2)).k=7 then b (dG N 2) ⟨#[32,101,108,105,102,32]⟩ else⟨#[32,101,108,115,101,32]⟩++Az S (ae a (dG N 2)).ks tab)
def nm0(N:Nd):ByteArray:=N.nm.getD 0 Bs
def prS(a:List Nd)(E:Int->ByteArray)(S:Int->Nat->ByteArray)(b:Int->ByteArray->ByteArray)(N:Nd)(tab:Nat):ByteArray:=
 if N.k=1 then Az S N.ks tab
 else if N.k=2 then⟨#[108,101,116,32]⟩++cC N.nm++(if N.ks=[] then Bs else⟨#[32,61,32]⟩++cC (N.ks.map E))
 else if N.k=3 then(⟨#[99,111,110,115,116,32]⟩++nm0 N++⟨#[32,61,32]⟩)++E (dG N 0)
 else if N.k=4 then(⟨#[102,110,32]⟩++nm0 N)++JB a S (ae a (dG N 0)) tab
 else if N.k=5 then cC ((N.ks.take N.n.toNat).map E)++⟨#[32,61,32]⟩++cC ((N.ks.drop N.n.toNat).map E)
 else if N.k=6 then E (dG N 0)
 else if N.k=7 then b (-1) ⟨#[105,102,32]⟩
 else if N.k=8 then⟨#[119,104,105,108,101,32]⟩++E (dG N 0)++⟨#[32]⟩++Az S (ae a (dG N 1)).ks tab
 else if N.k=9\/N.k=10 then⟨#[102,111,114,32]⟩++cC N.nm++(if N.k=9 then⟨#[32,61,32]⟩ else⟨#[32,105,110,32]⟩)++cC ((N.ks.take (N.ks.length-1)).map E)++⟨#[32]⟩++Az S (ae a (dG N (N.ks.length-1))).ks tab
 else if N.k=11 then⟨#[98,114,101,97,107]⟩
 else if N.k=12 then⟨#[110,101,120,116]⟩
 else if N.k=13 then⟨#[114,101,116,117,114,110]⟩++(if N.ks=[] then Bs else⟨#[32]⟩++cC (N.ks.map E))
 else if N.k=14 then⟨#[116,114,121,32]⟩++Az S (ae a (dG N 0)).ks tab++⟨#[32,99,97,116,99,104,32]⟩++cC N.nm++⟨#[32]⟩++Az S (ae a (dG N 1)).ks tab
 else if N.k=15 then⟨#[116,104,114,111,119,32]⟩++E (dG N 0)
 else if N.k=16 then⟨#[100,101,102,101,114,32]⟩++E (dG N 0)
 else Bs
mutual
def rI(a:List Nd):Nat->Int->Nat->ByteArray
 |0,_,_=>Bs
 |f+1,i,tab=>prE a (fun k=>rI a f k tab) (fun k t=>rJ a f k t) (ae a i) tab
def rJ(a:List Nd):Nat->Int->Nat->ByteArray
 |0,_,_=>Bs
 |f+1,i,tab=>prS a (fun k=>rI a f k tab) (fun k t=>rJ a f k t) (fun _ w=>Cz a (fun k=>rI a f k tab) (fun k t=>rJ a f k t) (fun k w=>yk a f k w tab) (ae a i) w tab) (ae a i) tab
def yk(a:List Nd):Nat->Int->ByteArray->Nat->ByteArray
 |0,_,_,_=>Bs
 |f+1,i,w,tab=>Cz a (fun k=>rI a f k tab) (fun k t=>rJ a f k t) (fun k w=>yk a f k w tab) (ae a i) w tab
end
def lh(a:List Nd):ByteArray:=gw ((ae a ((a.length:Int)-1)).ks.map fun b=>rJ a a.length b 0++⟨#[10]⟩)
def CA(a:List Nd):ByteArray:=if 65536<(lh a).size then Bs else lh a
theorem zo{b:Nat}(o:Obj)(h:Kq b (w.alloc o) w'):Kq b w w':=(Kq.of_below ((ah _ w).alloc (ag _) o)).trans h
theorem adq(g:B1)(j vn vk:Cb)(N:Nd)(T:ByteArray)(t:Int)(w:B1)(h:Pr g j T t w)(v:20<=N.k/\N.k<=27)(al: -9223372036854775808<=N.n)(am:N.n<=9223372036854775807)(u:N.k=25->N.x.size<=4000)(s:T.size+(plB N).size<=140737488355328):
  B6 Ax 105 #[E0 (A0 ⟨g.heap.size,0,A5⟩),jf N vn vk] w fun e w'=>e= A2 (B4 #[])/\Pr g j (T++plB N) t w'/\Kq g.heap.size w w':=by
 have G:B3 w.heap.size w (w.alloc (.cells #[O U N.k,O U N.f,O U N.t,O U N.l,O U N.op,O U N.n,A9 N.x,vn,vk] 45)):=(ah _ w).alloc (ag _) _;have i:E2 (Pr g j T t (w.alloc (.cells #[O U N.k,O U N.f,O U N.t,O U N.l,O U N.op,O U N.n,A9 N.x,vn,vk] 45))/\B3 w.heap.size w (w.alloc (.cells #[O U N.k,O U N.f,O U N.t,O U N.l,O U N.op,O U N.n,A9 N.x,vn,vk] 45))):=⟨h.below G,G⟩;have q:=ado N.n al am;obtain⟨an,a⟩:=az (plB N);rw[a]at s⊢;unfold plB at a;clear h G;unfold jf;have c:∀z:Int,N.k=z->(N.k==z)=Fs:=fun z e=>by simpa using e
 have b:∀z:Int,N.k≠z->(N.k==z)=Er:=fun z e=>by simpa using e
 by_cases m:N.k=20
 ·have J:=c _ m;rw[ab m]at a;subst a;clear m c b v u q;go_in;go_wp2_with (go_at_call 14;refine(eL g j _ _ _ _ i.1 s).mono ?_;rintro e B ⟨rfl,p2,d⟩);go_end0
  exact⟨rfl,p2,zo _ d⟩
 have J:=b _ m;rw[aa m]at a;by_cases o:N.k=21
 ·have K:=c _ o;rw[ab o]at a;subst a;clear m o c b v u q;go_in;go_wp2_with (go_at_call 14;refine(eL g j _ _ _ _ i.1 s).mono ?_;rintro e B ⟨rfl,p2,d⟩);go_end0
  exact⟨rfl,p2,zo _ d⟩
 have K:=b _ o;rw[aa o]at a;by_cases p:N.k=22
 ·have L:=c _ p;rw[ab p]at a;subst a;clear m o p c b v u q;go_in;go_wp2_with (go_at_call 14;refine(eL g j _ _ _ _ i.1 s).mono ?_;rintro e B ⟨rfl,p2,d⟩);go_end0
  exact⟨rfl,p2,zo _ d⟩
 have L:=b _ p;rw[aa p]at a;by_cases r:N.k=23
 ·have ad:=c _ r;rw[ab r]at a;rw[a]at q;clear m o p r c b v u a;go_in;go_wp2_with fail;refine bv (q _) fun E y=>?_;have C:E2 (Pr g j T t E/\B3 w.heap.size w E):=⟨i.1.below y,i.2.trans (y.mono i.2.size)⟩;clear y q;go_wp2_with fail;refine(eL g j _ _ _ _ C.1 s).mono ?_;rintro e B ⟨rfl,p2,d⟩;go_wp2_with fail;go_end0
  exact⟨rfl,p2,(Kq.of_below C.2).trans d⟩
 have ad:=b _ r;rw[aa r]at a;by_cases e4:N.k=24\/N.k=26
 ·rw[ab e4]at a;rcases e4 with e4|e4
  ·have I:=c _ e4;rw[a]at i⊢;clear m o p r e4 c b v u q a;go_in;go_wp2_with (go_at_call 14;refine(eL g j _ _ _ _ i.1 s).mono ?_;rintro e B ⟨rfl,p2,d⟩);go_end0
   exact⟨rfl,p2,zo _ d⟩
  ·have I:(N.k==24)=Er:=b _ (by omega);have af:=c _ e4;rw[a]at i⊢;clear m o p r e4 c b v u q a;go_in;go_wp2_with (go_at_call 14;refine(eL g j _ _ _ _ i.1 s).mono ?_;rintro e B ⟨rfl,p2,d⟩);go_end0
   exact⟨rfl,p2,zo _ d⟩
 rw[aa e4]at a;have I:(N.k==24)=Er:=b _ (by omega);have af:(N.k==26)=Er:=b _ (by omega);by_cases A:N.k=25
 ·have ak:=c _ A;rw[ab A]at a;have H:=acG N.x (u A);rw[a]at H;clear m o p r e4 A c b v u a q;go_in;go_wp2_with fail;refine bv (H _) fun E y=>?_;have C:E2 (Pr g j T t E/\B3 w.heap.size w E):=⟨i.1.below y,i.2.trans (y.mono i.2.size)⟩;clear y H;go_wp2_with fail;refine(eL g j _ _ _ _ C.1 s).mono ?_;rintro e B ⟨rfl,p2,d⟩;go_wp2_with fail;go_end0
  exact⟨rfl,p2,(Kq.of_below C.2).trans d⟩
 have ak:=b _ A;rw[aa A]at a;have F:N.k=27:=by omega
 have ao:=c _ F;rw[ab F]at a;subst a;clear m o p r e4 A F c b v u q;go_in;go_wp2_with (go_at_call 14;refine(eL g j _ _ _ _ i.1 s).mono ?_;rintro e B ⟨rfl,p2,d⟩);go_end0
 exact⟨rfl,p2,zo _ d⟩
theorem ai2(a:Int):3<=(vL a).1/\(vL a).1<=10:=by
 unfold vL
 repeat' split
 all_goals exact⟨by decide,by decide⟩
theorem CC(k a:Int):0<iD k a/\iD k a<=12:=by
 have:=ai2 a;unfold iD
 repeat' split
 all_goals omega
theorem akk(a:List Nd)(E:Int->ByteArray)(k:Int):po a E k 0=E k:=by
 unfold po;rw[aa];have:=CC (ae a k).k (ae a k).op;omega
theorem vB(x:ByteArray):(gi x).size=x.size+2:=by unfold gi;rw[ay,ay];show 1+x.size+1=_;omega
theorem GD{k:Nat}(h:k<ns.length):ns[k]?=A0 (ae ns (k:Int)):=by
 unfold ae;rw[lG,List.getD,aJ h];rfl
def OkE(c:B1)(e:Cb)(d:List Nd)(E:Int->ByteArray)(t:Int)(B:Nat):Prop:=
 ∀(a:Nat)(b:Int)(T:ByteArray)(W:B1),a<B->fe (ae d a).k=Fs->0<=b->b<=100->Pr c e T t W->T.size+(po d E a b).size<=140737488355328->
  B6 Ax 33 #[E0 (A0 ⟨c.heap.size,0,A5⟩),O U (a:Int),O U b] W fun f w'=>f= A2 (B4 #[])/\Pr c e (T++po d E a b) t w'/\Kq c.heap.size W w'
theorem OkE.zero{E:Int->ByteArray}{B:Nat}(h:OkE w0 vt ns E t B)(k:Nat)(T:ByteArray)(W:B1)(b:k<B)(a:fe (ae ns k).k=Fs)(d:Pr w0 vt T t W)(c:T.size+(E k).size<=140737488355328):
  B6 Ax 33 #[E0 (A0 ⟨w0.heap.size,0,A5⟩),O U (k:Int),O U 0] W fun e w'=>e= A2 (B4 #[])/\Pr w0 vt (T++E k) t w'/\Kq w0.heap.size W w':=by
 have:=h k 0 T W b a (by omega) (by omega) d (by rw[akk];exact c);rw[akk]at this;exact this
theorem afy(a:B1)(i:Cb)(b:List Nd)(E:Int->ByteArray)(t:Int)(B:Nat)(v:OkE a i b E t B)(l:fs a i b)(af:b.length<=1048576)(k:Nat)(y:k<B)(z:k<b.length)(x:fe (ae b k).k=Fs)
  (T:ByteArray) (w:B1) (h:Pr a i T t w) (m:T.size+(bsB b E k).size<=140737488355328):
  B6 Ax 103 #[E0 (A0 ⟨a.heap.size,0,A5⟩),O U (k:Int)] w fun e w'=>e= A2 (B4 #[])/\Pr a i (T++bsB b E k) t w'/\Kq a.heap.size w w':=by
 have A:=GD z;obtain⟨al,s,rfl⟩:=l.form;obtain⟨G,rfl,ap,ao,u⟩:=(l.below h.bel).get A;obtain⟨z0,ar,av⟩:=h.cells;have ad:=u.c0;have f:=Lo (ae b k).k;have d:=lD h x v;clear h l u A x v;obtain⟨n,j⟩:=az b.length;rw[j]at z0 d af z;have an:(k:Int)<(n:Int):=by omega
 have am:(0:Int)<=(k:Int):=by omega
 obtain⟨ak,c⟩:=az (bsB b E k);rw[c]at m⊢;rw[j];unfold bsB at c;clear j;generalize (ae b k).k=L at ad f c;cases hb:td L with
 |true=>
  rw[hb]at f c;rw[ab rfl]at c;subst c;clear hb;go_in;go_wp2_with (go_at_call 179;refine dB (f _) ?_);refine(d.2.2.zero k T w y d.2.1 d.1 m).mono ?_;rintro e J ⟨rfl,p2,g⟩;go_wp2_with fail;exact aI (dJ rfl _ _ _) rfl ⟨rfl,p2,g⟩
 |false=>
  rw[hb]at f c;rw[aa (by simp)]at c;subst c;rw[vB]at m;clear hb;go_in;go_wp2_with (go_at_call 179;refine dB (f _) ?_);refine(eL a _ T _ t w d.1 (by show T.size+1<=_;omega)).mono ?_;rintro e J ⟨rfl,p2,g⟩;have p:=gI p2 g;clear p2 g;go_wp2_with fail;refine(d.2.2.zero k _ J y d.2.1 p.1 (by rw[ay];show T.size+1+_<=_;omega)).mono ?_;rintro e o ⟨rfl,H,C⟩;have q:E2 (Pr a (B0 (A0 G) n s) (T++⟨#[40]⟩++E k) t o/\Kq a.heap.size w o):=⟨H,p.2.trans C⟩;clear H C;go_wp2_with fail;refine(eL a _ _ _ t o q.1 (by rw[ay,ay];show T.size+1+_+1<=_;omega)).mono ?_;rintro e K ⟨rfl,I,F⟩;have r:E2 (Pr a (B0 (A0 G) n s) (T++gi (E k)) t K/\Kq a.heap.size w K):=⟨by unfold gi;rw[<-bq,<-bq];exact I,q.2.trans F⟩;clear I F;go_wp2_with fail;go_end0
  exact⟨rfl,r.1,r.2⟩
theorem Kq.box{b k:Nat}(h:Kq b w w')(a:qh k w 45 N vn vk)(d:k≠b):qh k w' 45 N vn vk:=by
 refine(h.block k (ai a) d ?_).trans a;intro e f c;unfold qh at a;rw[a]at c;cases c
theorem CD{p:Addr}{i:Nat}{v:Cb}(h:W.cell? (p.add i)=A0 v)(a:i≠0):W.cell? ⟨p.block,p.off+i,A5⟩=A0 v:=by
 unfold Addr.add at h;rw[aa a]at h;exact h
def Wr(c:B1)(e:Cb)(t:Int)(f:FuncId)(args:Array Cb)(d:ByteArray):Prop:=
 ∀(a:ByteArray)(b:B1),Pr c e a t b->a.size+d.size<=140737488355328->B6 Ax f args b fun g w'=>g= A2 (B4 #[])/\Pr c e (a++d) t w'/\Kq c.heap.size b w'
theorem CE(a:ByteArray):Wr w0 vt t 14 #[E0 (A0 ⟨w0.heap.size,0,A5⟩),A9 a] a:=fun b c e d=>eL w0 _ b a _ c e d
abbrev pW(a:B1):Cb:= E0 (A0 ⟨a.heap.size,0,A5⟩)
abbrev ane(N:Nd)(vn vk:Cb):Obj:= .cells #[O U N.k,O U N.f,O U N.t,O U N.l,O U N.op,O U N.n,A9 N.x,vn,vk] 45
structure NdR (w0:B1) (p1:Addr) (i:Nat) (N:Nd) (an:Option Addr) (M cn:Nat) (ak:Option Addr) (L ck:Nat):Prop where
 nm:cu w0 (.slice an M cn) N.nm
 ks:dw w0 (.slice ak L ck) N.ks
 hM:N.nm.length=M
 hL:N.ks.length=L
 cap:L<=ck
 rd:∀W,B3 w0.heap.size w0 W->KF W (p1.add (i*9)) N (.slice an M cn) (.slice ak L ck)
def CF(f:B1)(c:Addr)(e:List Nd):Prop:=
 ∀a N d b,e[a]?=A0 N->f.cell? ⟨(c.add (a*9)).block,(c.add (a*9)).off+8,A5⟩=A0 (B0 d N.ks.length b)->N.ks.length<=b
theorem yl{e:Addr}{n j:Nat}(l:fs w0 (B0 (A0 e) n j) ns)(o:CF w0 e ns){i:Nat}(p:i<ns.length):∃c h d ak g b,NdR w0 e i (ae ns i) c h d ak g b:=by
 have f:=GD p;obtain⟨r,k,t,s,a⟩:=l.get f;cases k;obtain⟨c,d,rfl⟩:=a.hn.form;obtain⟨ak,b,rfl⟩:=a.hk.form;exact⟨c,_,d,ak,_,b,a.hn,a.hk,rfl,rfl,o i _ ak b f a.c8,fun q m=>a.below m⟩
abbrev NdC(W:B1)(a:Addr)(N:Nd)(vn vk:Cb):Prop:=W.cell? a=A0 (O U N.k)/\W.cell? ⟨a.block,a.off+1,A5⟩=A0 (O U N.f)/\W.cell? ⟨a.block,a.off+2,A5⟩=A0 (O U N.t)/\W.cell? ⟨a.block,a.off+3,A5⟩=A0 (O U N.l)/\W.cell? ⟨a.block,a.off+4,A5⟩=A0 (O U N.op)/\W.cell? ⟨a.block,a.off+5,A5⟩=A0 (O U N.n)/\W.cell? ⟨a.block,a.off+6,A5⟩=A0 (A9 N.x)/\W.cell? ⟨a.block,a.off+7,A5⟩=A0 vn/\W.cell? ⟨a.block,a.off+8,A5⟩=A0 vk
structure Bx (w0:B1) (vt:Cb) (t:Int) (w:B1) (N:Nd) (vn vk:Cb) (T:ByteArray) (W:B1):Prop where
 pr:Pr w0 vt T t W
 kq:Kq w0.heap.size w W
 bx:qh w.heap.size W 45 N vn vk
theorem Bx.new(h:Pr w0 vt T t w)(N:Nd)(vn vk:Cb):Bx w0 vt t w N vn vk T (w.alloc (ane N vn vk)):=by
 have a:B3 w.heap.size w (w.alloc (ane N vn vk)):=(ah _ w).alloc (ag _) _;exact⟨h.below a,Kq.of_below a,aA w _⟩
theorem Bx.next{b:ByteArray}{a:B1}(h:Bx w0 vt t w N vn vk T W)(c:w0.heap.size<w.heap.size)(p:Pr w0 vt b t a)(k:Kq w0.heap.size W a):Bx w0 vt t w N vn vk b a:=
 ⟨p,h.kq.trans k,k.box h.bx (by omega)⟩
theorem Bx.below{a:B1}(h:Bx w0 vt t w N vn vk T W)(b:B3 W.heap.size W a):Bx w0 vt t w N vn vk T a:=
 ⟨h.pr.below b,h.kq.trans (Kq.of_below b),h.bx.below b⟩
theorem Bx.cells(h:Bx w0 vt t w N vn vk T W):W.cell? ⟨w.heap.size,0,A5⟩=A0 (O U N.k)/\W.cell? ⟨w.heap.size,1,A5⟩=A0 (O U N.f)/\W.cell? ⟨w.heap.size,2,A5⟩=A0 (O U N.t)/\W.cell? ⟨w.heap.size,3,A5⟩=A0 (O U N.l)/\W.cell? ⟨w.heap.size,4,A5⟩=A0 (O U N.op)/\W.cell? ⟨w.heap.size,5,A5⟩=A0 (O U N.n)/\W.cell? ⟨w.heap.size,6,A5⟩=A0 (A9 N.x)/\W.cell? ⟨w.heap.size,7,A5⟩=A0 vn/\W.cell? ⟨w.heap.size,8,A5⟩=A0 vk:=by
 obtain⟨a,b,c,d,e,g,i,j,m,o⟩:=cd h.bx;exact⟨a,b,c,d,e,g,i,j,m⟩
theorem Bx.kid0{a:Addr}{b c:Nat}(h:Bx w0 vt t w N vn (B0 (A0 a) b c) T W)(e:dw w0 (B0 (A0 a) b c) N.ks)(f:N.ks[0]?=A0 q):W.cell? a=A0 (O U q):=by
 obtain⟨i,d,g⟩:=(e.below h.pr.bel).get f;cases d;simpa [Addr.add] using g
theorem Bx.kid{a:Addr}{b c:Nat}(h:Bx w0 vt t w N vn (B0 (A0 a) b c) T W)(f:dw w0 (B0 (A0 a) b c) N.ks){j:Nat}(g:N.ks[j]?=A0 q)(e:j≠0):W.cell? ⟨a.block,a.off+j,A5⟩=A0 (O U q):=by
 obtain⟨k,d,i⟩:=(f.below h.pr.bel).get g;cases d;exact CD i e
theorem Bx.name0{a:Addr}{b c:Nat}(h:Bx w0 vt t w N (B0 (A0 a) b c) vk T W)(e:cu w0 (B0 (A0 a) b c) N.nm){s:ByteArray}(f:N.nm[0]?=A0 s):W.cell? a=A0 (A9 s):=by
 obtain⟨i,d,g⟩:=(e.below h.pr.bel).get f;cases d;simpa [Addr.add] using g
theorem dw.ptr{a b:Nat}(h:dw W (B0 ak a b) l)(d:0<l.length:=by omega):∃f,ak=A0 f:=by
 obtain⟨e,c,_⟩:=h.get (aJ d);exact⟨e,c⟩
theorem cu.ptr{a b:Nat}{l:List ByteArray}(h:cu W (B0 ak a b) l)(d:0<l.length:=by omega):∃f,ak=A0 f:=by
 obtain⟨e,c,_⟩:=h.get (aJ d);exact⟨e,c⟩
theorem qC{j:Nat}(h:N.ks[j]?=A0 q):j<N.ks.length:=(List.getElem?_eq_some_iff.1 h).1
theorem Bx.stp{f:FuncId}{args:Array Cb}{Q:Ending->B1->Prop}{V:B1}(B:E2 (Bx w0 vt t w N vn vk T V))(c:B3 V.heap.size V W)(S:E2 (Wr w0 vt t f args Y))(e:w0.heap.size<w.heap.size)(d:T.size+Y.size<=140737488355328)(k:∀b,Bx w0 vt t w N vn vk (T++Y) b->Q (A2 (B4 #[])) b):B6 Ax f args W Q:=
 (S _ _ (B.below c).pr d).mono fun h g a=>a.1 ▸ k g ((B.below c).next e a.2.1 a.2.2)
theorem Bx.fin(B:E2 (Bx w0 vt t w N vn vk Y W))(e:Y=T):Ending.returned (B4 #[])= A2 (B4 #[])/\Pr w0 vt T t W/\Kq w0.heap.size w W:=⟨rfl,e ▸ B.pr,B.kq⟩
section
variable (w0 : World) (vt : Value) (t : Nat)
abbrev WE(q:Nat)(a:ByteArray):Prop:=Wr w0 vt t 33 #[pW w0,O U (q:Int),O U 0] a
abbrev WB(q:Nat)(a:ByteArray):Prop:=Wr w0 vt t 30 #[pW w0,O U (q:Int)] a
abbrev WD(q:Nat)(a:ByteArray):Prop:=Wr w0 vt t 34 #[pW w0,O U (q:Int)] a
abbrev WX(l:List Int)(b:ByteArray):Prop:=∀a,dw w0 a l->Wr w0 vt t 32 #[pW w0,a] b
abbrev WA(q:Nat)(a:ByteArray):Prop:=Wr w0 vt t 103 #[pW w0,O U (q:Int)] a
end
def tr(base:Nat)(W:B1)(v:Cb)(xs:List ByteArray):Prop:=W.ownsRow base 9 1 v xs.length (xs.map E1)
theorem CG:(Tryz.prog.info? 9).map (fun i=>(i.zero,i.size,i.bytes))=A0 (A0 (A9 ⟨#[]⟩),1,16):=by kernel_rfl
theorem AB{base:Nat}{v:Cb}{n:Nat}{xs:List Cb}(e:TypeId)(c:Nat)(d:w.ownsRow base 9 1 v n xs):
  (Builtin.append_ #[42,42] e #[v,.slice A5 0 c]).run Ax w= .ok v w:=by
 obtain⟨l,a,i,j,k⟩:=du CG;rcases d.2 with⟨rfl,rfl⟩|⟨h,f,g,rfl,_,_,b,_⟩
 ·simp[Builtin.append_,Fx Tryz.underlying42,sizeOf,typeInfo,a,Builtin.lenOf,Builtin.firstCells]
 ·simp[Builtin.append_,Fx Tryz.underlying42,sizeOf,typeInfo,a,Builtin.lenOf,Builtin.firstCells,b,storeCells]
theorem ai3:∀(l:List ByteArray),∀u∈l.map E1,u.oneCell'=Fs:=fun l u a=>by
 obtain⟨b,_,rfl⟩:=List.mem_map.1 a;rfl
theorem EJ{n:Array Oper}{p:List Oper}{o:Oper}{a:Act}{Q:Exit->Act->B1->Prop}(B:o.guard=A5)(s x:Operand)
  (C:o.op= .call {callee:= .builtin .append,args:=#[s,x],argTypes:=#[42,42]}) (base:Nat) (v:Cb) (xs:List ByteArray) (F:a.eval s=v)
  (ak:tr base w v xs) (A:base<=w.heap.size) (H:Cb) (d:List ByteArray) (y:a.eval x=H) (af:cu w H d) (a4:xs.length<=4194304) (a3:d.length<=4194304) (r:Nat) (u:xs.length+d.length=r)
  (h:∀e f l,tr base l (.slice e r f) (xs++d)->B3 base w l->wpList Ax n Q p (a.put o.dst (.slice e r f)) l):
  wpList Ax n Q (o::p) a w:=by
 subst u;obtain⟨ap,K,am,an,ao⟩:=du CG;have g:=ak;have a1:∀b,a.eval x= .slice A5 0 b->d=[]->wpList Ax n Q (o::p) a w:=fun b z j=>by
  subst j;obtain⟨e,f,rfl⟩:=bI g;refine wpList_plain B fun a2 I=>?_;have u:=AB o.type b g;unfold Oper.wp execOp;simp only[C,resolve,invoke,builtin,Fk,Sem.run_pure,A1,List.map_toArray,kK,List.map_nil,F,z,u];exact I _ _ (h e f w (by rw[dA];exact g) (ah _ _))
 have G:∀c b,a.eval x= .slice (A0 c) d.length b->(∀k q,d[k]?=A0 q->w.cell? (c.add k)=A0 (.string q))->wpList Ax n Q (o::p) a w:=fun c b z t=>by
  refine wpList_append_own_at _ B s x 42 C base 9 ap _ 1 16 Tryz.underlying42 K am an ao rfl (by decide) v _ _ F g c d.length b (d.map E1) z (by simp) (fun k q i=>?_) (ai3 d) (by unfold maxLen;omega) (by omega) A ?_
  ·rw[ce]at i;obtain⟨a0,al,rfl⟩:=Option.map_eq_some_iff.1 i;exact t k a0 al
  ·intro a5 l E J _ _;obtain⟨e,f,rfl⟩:=bI E;exact h e f l (by unfold tr;rw[aK,dF];exact E) ((ah base w).grown J A (fun ar L=>(g.lt ar L).1))
 rcases af with⟨j,c,b,m⟩|⟨c,b,m,t⟩
 ·cases c with
  |none=>exact a1 b (y.trans m) j
  |some c=>exact G c b (by rw[y,m,j];rfl) (fun k q i=>by rw[j]at i;simp at i)
 ·exact G c b (y.trans m) t
theorem um(z:Cb)(n:Nat)(h:z.cells.size=1):(Builtin.zeroCells z.cells n).size=n:=by unfold Builtin.zeroCells;simp[h]
theorem afz(n:Nat)(u:1<=n)(v:n<=1000000)(w:B1):B6 Ax 270 #[.slice A5 0 0,.int .i64 (n:Int)] w fun e w'=>
  ∃c,e= .returned (.slice (A0 ⟨w.heap.size,0,A5⟩) 0 c)/\tr w.heap.size w' (.slice (A0 ⟨w.heap.size,0,A5⟩) 0 c) []/\B3 w.heap.size w w':=by
 obtain⟨t,q,r,s,p⟩:=du CG;have d:∀h,(Builtin.append_ #[42,3] h #[.slice A5 0 0,.int .i64 (n:Int)]).run Ax w= .ok (.slice (A0 ⟨w.heap.size,0,A5⟩) (0+n) (grownCap w (0+n) 0 9)) (w.drew.alloc (.cells ([].toArray++Builtin.zeroCells (E1 ⟨#[]⟩).cells n++Builtin.zeroCells (E1 ⟨#[]⟩).cells (grownCap w (0+n) 0 9-(0+n))) 9)):=fun h=>
  Lib.run_append_grow_zeros w 42 3 h 9 t (.string ⟨#[]⟩) .i64 .i64 Tryz.underlying42 Tryz.underlying3 q r A5 0 0 [] (run_firstCells_none _ _ _ _ _) n (by omega) (by rw[s];omega) (by omega) (by omega) (by rw[p];omega) (growslice_fits (by omega) (by rw[p];omega))
 have k:0+n<=grownCap w (0+n) 0 9:=grownCap_ge w _ _ _;have f:=grownCap_le_maxLen w (0+n) 0 9 (by unfold maxLen;omega);obtain⟨a,j⟩:∃a,a=grownCap w (0+n) 0 9:=⟨_,rfl⟩;rw[<-j]at d k f;obtain⟨b,g⟩:∃b,([].toArray++Builtin.zeroCells (E1 ⟨#[]⟩).cells n++Builtin.zeroCells (E1 ⟨#[]⟩).cells (a-(0+n)))=b:=⟨_,rfl⟩;have o:b.size=a:=by rw[<-g];rw[Array.size_append,Array.size_append,um _ _ rfl,um _ _ rfl];simp;omega
 rw[g]at d;have l:B3 w.heap.size w (w.drew.alloc (.cells b 9)):=(aw (ah _ w)).alloc (ag _) _;have m:tr w.heap.size (w.drew.alloc (.cells b 9)) (.slice (A0 ⟨w.heap.size,0,A5⟩) 0 a) []:=by
  refine⟨rfl,.inr ⟨w.heap.size,a,b,rfl,ag _,aA w.drew _,aL _,f,by rw[o];omega,by simp⟩⟩
 have i:E2 (tr w.heap.size (w.drew.alloc (.cells b 9)) (.slice (A0 ⟨w.heap.size,0,A5⟩) 0 a) []/\B3 w.heap.size w (w.drew.alloc (.cells b 9))):=⟨m,l⟩;rw[show 0+n=n by omega]at d k;clear m l g j o f;go_enter Tryz.func270,Tryz.ntmps270;go_wp2_with (at_builtin;refine Lib.wpList_append_run _ rfl _ _ _ _ rfl _ _ rfl rfl _ _ (d _) ?_);all_goals (go_ret;exact⟨a,rfl,i.out.1,i.out.2⟩)
theorem ry(l:List ByteArray)(k:Nat)(x:ByteArray)(c:l[k]?=A0 x):gw (l.take (k+1))=gw (l.take k)++x:=by
 obtain⟨a,b⟩:=List.getElem?_eq_some_iff.1 c;unfold gw;rw[List.take_succ_eq_append_getElem a,List.foldl_append,b];rfl
theorem afA(l:List ByteArray)(k:Nat):(gw (l.take k)).size<=(gw (l.take (k+1))).size:=by
 by_cases a:k<l.length
 ·rw[ry l k _ (aJ a),ay];omega
 ·rw[cA (by omega),cA (by omega)];exact ag _
theorem abA(l:List ByteArray)(k:Nat):(gw (l.take k)).size<=(gw l).size:=by
 have b:∀a,(gw (l.take k)).size<=(gw (l.take (k+a))).size:=by
  intro a
  induction a with
  |zero=>exact ag _
  |succ a c=>exact bL c (afA l (k+a))
 have:=b l.length
 rwa [cA (show l.length<=k+l.length by omega)]at this
def anf(c:B1)(d:Cb)(f:List Nd)(S:Int->Nat->ByteArray)(B:Nat):Prop:=
 ∀(a b:Nat)(T:ByteArray)(W:B1),a<B->jj (ae f a).k=Fs->b+B<=500000->Pr c d T b W->T.size+(S a b).size<=140737488355328->
  B6 Ax 13 #[E0 (A0 ⟨c.heap.size,0,A5⟩),O U (a:Int)] W fun e w'=>e= A2 (B4 #[])/\Pr c d (T++S a b) b w'/\Kq c.heap.size W w'
def ang(b:List Nd)(B:Nat)(c:List Int):Prop:=∀d∈c,∃a:Nat,d=(a:Int)/\a<B/\a<b.length/\jj (ae b a).k=Fs
theorem adr(a:B1)(G:Cb)(f:List Nd)(S:Int->Nat->ByteArray)(B:Nat)(ap:anf a G f S B)(ao:fs a G f)(b3:f.length<=1048576)(i:Nat)(bd:i<f.length)(am:ang f B (ae f i).ks)(bf:(ae f i).ks.length<=1048576)(tab:Nat)(cF:tab+B<500000)
  (T:ByteArray) (w:B1) (h:Pr a G T tab w) (z:T.size+(Az S (ae f i).ks tab).size<=140737488355328):
  B6 Ax 30 #[E0 (A0 ⟨a.heap.size,0,A5⟩),O U (i:Int)] w fun e w'=>e= A2 (B4 #[])/\Pr a G (T++Az S (ae f i).ks tab) tab w'/\Kq a.heap.size w w':=by
 have bk:=GD bd;obtain⟨cl,l,rfl⟩:=ao.form;obtain⟨n,rfl,c3,c0,ak⟩:=ao.get bk;obtain⟨z0,cc,cf⟩:=h.cells;have a9:=aj h.bel ak.c8;have v:=ak.hk;obtain⟨s,bh⟩:=az ((ae f i).ks);rw[bh]at am bf z v⊢;obtain⟨cm,cn,rfl⟩:=v.form;obtain⟨g,bc⟩:=az f.length;obtain⟨k,an⟩:=az s.length;rw[bc]at z0 h ap b3 bd⊢;rw[an]at a9 v bf;have j:=Ig h v am ap an;have cz:(i:Int)<(g:Int):=by omega
 have cB:(0:Int)<=(i:Int):=by omega
 obtain⟨a8,m⟩:=az (Az S s tab);rw[m]at z⊢;clear h ao ak bk am ap v bh bc an;unfold Az at m;by_cases r:s=[]
 ·have b0:k=0:=by have:=j.2.2.2.2;rw[r]at this;simpa using this.symm
  rw[ab r]at m;subst m b0;clear r;go_in;go_wp2_with fail;refine(eL a _ T _ _ _ j.1 z).mono ?_;rintro e H ⟨rfl,x,E⟩;go_wp2_with fail;exact aI (dJ rfl _ _ _) rfl ⟨rfl,x,E⟩
 ·rw[aa r]at m;have b1:0<k:=by
   have:=j.2.2.2.2;cases s with
   |nil=>exact absurd rfl r
   |cons ck cI=>simp at this;omega
  have ct:((k:Int)==0)=Er:=by simp;omega
  obtain⟨c,A⟩:∃c,(s.map fun b=>gH (tab+1)++S b (tab+1))=c:=⟨_,rfl⟩;rw[A]at m;have af:E2 (⟨#[123]⟩++gw c++gH tab++⟨#[125]⟩=a8/\(s.map fun b=>gH (tab+1)++S b (tab+1))=c/\c.length=k):=⟨m,A,by rw[<-A,cj];exact j.2.2.2.2⟩;have br:T.size+(1+(gw c).size+(tab+1)+1)<=140737488355328:=by
   have e:a8.size=1+(gw c).size+(tab+1)+1:=by rw[<-m,ay,ay,ay,ld];rfl
   omega
  have u:=aq br;clear m A z r br b1;go_in;go_wp2_with fail;refine(eL a _ T ⟨#[123]⟩ _ _ j.1 (by have:=u.out;show T.size+1<=_;omega)).mono ?_;rintro e H ⟨rfl,x,E⟩;obtain⟨a3,I,y⟩:=x.cells;have a4:=y 2;have bt:=x.putTab ((tab:Int)+1);have J:E2 (Pr a (B0 (A0 n) g l) (T++⟨#[123]⟩) ((tab+1:Nat):Int) (H.setCell ⟨a.heap.size,2,A5⟩ (O U ((tab:Int)+1)))/\Kq a.heap.size w (H.setCell ⟨a.heap.size,2,A5⟩ (O U ((tab:Int)+1)))):=⟨by rw[show((tab+1:Nat):Int)=(tab:Int)+1 by omega];exact bt,E.trans (Kq.putP _ _ _ _)⟩;clear x E bt y;go_wp2_with fail;generalize H.setCell ⟨a.heap.size,2,A5⟩ (O U ((tab:Int)+1))=cg at J⊢;clear a3 I a4 z0 cc cf a9;go_loopw [32] (fun a0 wr=>∃b:Nat,b<=k/\a0= O U b/\E2 (Pr a (B0 (A0 n) g l) (T++⟨#[123]⟩++gw (c.take b)) ((tab+1:Nat):Int) wr/\Kq a.heap.size w wr)) (fun a0 _=>k-(C2 a0).toNat)
  case atStart=>exact⟨0,by omega,rfl,by rw[show T++⟨#[123]⟩++gw (c.take 0)=T++⟨#[123]⟩ from ByteArray.append_empty];exact J.1,J.2⟩
  case round=>
   obtain⟨b,cv,rfl,q⟩:=hrel;by_cases b4:b<k
   ·obtain⟨cb,C⟩:=cy j.2.2.2.2 b4;obtain⟨t,rfl,bl,b5,bn⟩:=j.2.2.1 cb (cH C);obtain⟨bE,rfl,bF⟩:=(j.2.1.below q.1.bel).get C;have cx:(b:Int)<(k:Int):=by omega
    have cw:(0:Int)<=(b:Int):=by omega
    have bo:c[b]?=A0 (gH (tab+1)++S t (tab+1)):=by rw[<-af.out.2.1,ce,C];rfl
    have al:=ry c b _ bo;have ba:=abA c (b+1);have bb:(gw (c.take b)).size+(tab+2+(S t (tab+1)).size)<=(gw c).size:=by rw[al,ay,ay,ld]at ba;omega
    have ad:=gI al bb;have a6:=gI bl bn;have ar:b=0->wr.cell? bE=A0 (O U (t:Int)):=fun e=>by subst e;simpa [Addr.add] using bF
    clear al ba bb C bo bl b5 bn;have bx:∀d,Pr a (B0 (A0 n) g l) (T++⟨#[123]⟩++gw (c.take b)++gH (tab+1)) ((tab+1:Nat):Int) d->Kq a.heap.size wr d->B6 Ax 13 #[E0 (A0 ⟨a.heap.size,0,A5⟩),O U (t:Int)] d fun e w'=>e= A2 (B4 #[])/\E2 (Pr a (B0 (A0 n) g l) (T++⟨#[123]⟩++gw (c.take (b+1))) ((tab+1:Nat):Int) w'/\Kq a.heap.size w w'):=by
     intro d p o;refine(j.2.2.2.1 t (tab+1) _ d a6.1 a6.2 (by omega) p (by have:=ad.2;have:=u.out;rw[ay,ay,ay,ld];show T.size+1+_+_+_<=_;omega)).mono ?_;rintro e bA ⟨rfl,b8,b6⟩;refine⟨rfl,?_,(q.2.trans o).trans b6⟩;rw[ad.out.1,<-bq,<-bq];exact b8
    have a7:E2 (∀d,Pr a (B0 (A0 n) g l) (T++⟨#[123]⟩++gw (c.take b)++gH (tab+1)) ((tab+1:Nat):Int) d->Kq a.heap.size wr d->B6 Ax 13 #[E0 (A0 ⟨a.heap.size,0,A5⟩),O U (t:Int)] d fun e w'=>e= A2 (B4 #[])/\E2 (Pr a (B0 (A0 n) g l) (T++⟨#[123]⟩++gw (c.take (b+1))) ((tab+1:Nat):Int) w'/\Kq a.heap.size w w')):=bx;have F:=I3 a (B0 (A0 n) g l) (T++⟨#[123]⟩++gw (c.take b)) (tab+1) wr q.1 (by omega) (by have:=ad.2;have:=u.out;rw[ay,ay];show T.size+1+_+_<=_;omega);clear bx;by_cases b2:b=0
    ·subst b2;have cq:=ar rfl;clear ar;go_wp2_with fail;refine F.mono ?_;rintro e d ⟨rfl,p,o⟩;have ks:=a7.out d p o;clear p o F;go_wp2_with fail;refine ks.mono ?_;rintro e bA ⟨rfl,K⟩;go_wp2_with fail;exact⟨⟨1,by omega,by go_num,K⟩,by simp[C2];omega⟩
    ·clear ar;go_wp2_with fail;refine F.mono ?_;rintro e d ⟨rfl,p,o⟩;have ks:=a7.out d p o;clear p o F;go_wp2_with fail;refine ks.mono ?_;rintro e bA ⟨rfl,K⟩;go_wp2_with fail;exact⟨⟨b+1,by omega,by go_num,K⟩,by simp[C2];omega⟩
   ·obtain rfl:b=k:=by omega
    obtain⟨a3,I,y⟩:=q.1.cells;have ca:wr.cell? ⟨a.heap.size,2,A5⟩=A0 (O U ((tab:Int)+1)):=by rw[I];rw[show((tab+1:Nat):Int)=(tab:Int)+1 by omega]
    have a4:=y 2;have av:=q.1.putTab (tab:Int);rw[cA (by rw[af.out.2.2];exact ag _)]at av;have L:E2 (Pr a (B0 (A0 n) g l) (T++⟨#[123]⟩++gw c) (tab:Int) (wr.setCell ⟨a.heap.size,2,A5⟩ (O U (tab:Int)))/\Kq a.heap.size w (wr.setCell ⟨a.heap.size,2,A5⟩ (O U (tab:Int)))):=⟨av,q.2.trans (Kq.putP _ _ _ _)⟩;have cr:(tab:Int)+1-1=(tab:Int):=by omega
    clear av I y a3;go_wp2_with fail;generalize wr.setCell ⟨a.heap.size,2,A5⟩ (O U (tab:Int))=ch at L⊢;refine(I3 a _ _ tab _ L.1 (by omega) (by have:=u.out;rw[ay,ay];show T.size+1+_+_<=_;omega)).mono ?_;rintro e bD ⟨rfl,bw,bs⟩;have a5:E2 (Pr a (B0 (A0 n) g l) (T++⟨#[123]⟩++gw c++gH tab) (tab:Int) bD/\Kq a.heap.size w bD):=⟨bw,L.2.trans bs⟩;clear bw bs ca a4;go_wp2_with fail;refine(eL a _ _ ⟨#[125]⟩ _ _ a5.1 (by have:=u.out;rw[ay,ay,ay,ld];show T.size+1+_+_+1<=_;omega)).mono ?_;rintro e c4 ⟨rfl,b9,b7⟩;go_wp2_with fail;go_end0
    refine⟨rfl,?_,a5.2.trans b7⟩;rw[<-af.out.1,<-bq,<-bq,<-bq];exact b9
theorem add_add(a:Addr)(i j:Nat):(a.add i).add j=a.add (i+j):=by
 unfold Addr.add;by_cases b:i=0
 ·subst b;simp
 ·by_cases c:j=0
  ·subst c;simp[b]
  ·simp[b,c];omega
theorem dw.take{a:Option Addr}{n c:Nat}(h:dw W (B0 a n c) l)(k:Nat)(f:k<=l.length):dw W (B0 a k c) (l.take k):=by
 rcases h with⟨rfl,d,g,e⟩|⟨d,g,e,j⟩
 ·have:k=0:=by simpa using f
  subst this;exact .inl ⟨rfl,a,c,rfl⟩
 ·cases e;by_cases i:k=0
  ·subst i;exact .inl ⟨by simp,_,_,rfl⟩
  ·refine .inr ⟨d,c,by rw[eD,uF f],fun m o b=>j m o ?_⟩;rw[jH]at b;split at b
   ·exact b
   ·cases b
theorem dw.drop{a:Addr}{n c b:Nat}(h:dw W (B0 (A0 a) n c) l)(k m:Nat)(q:k<=l.length)(j:m=l.length-k):dw W (B0 (A0 (a.add k)) m b) (l.drop k):=by
 subst j;rcases h with⟨rfl,f,g,d⟩|⟨f,g,d,i⟩
 ·exact .inl ⟨by simp,A0 (a.add k),b,by simp⟩
 ·cases d;refine .inr ⟨a.add k,b,by rw[ep],fun o p e=>?_⟩;rw[pI]at e;rw[add_add];exact i (k+o) p e
section
variable (w0 : World) (vt : Value) (t : Nat)
inductive BrO (p1:Addr) (n i:Nat) (ns:List Nd) (N:Nd) (vn vk:Value):FuncId->Array Value->ByteArray->Prop
 |br3 {word E Y Z:ByteArray}{q r c:Nat}:N.ks.length=3->N.ks[0]?=some (q:Int)->N.ks[1]?=some (r:Int)->N.ks[2]?=some (c:Int)->Hid (WE w0 vt t q E)->Hid (WB w0 vt t r Y)->c<n/\(ae ns c).k≠7->Hid (WB w0 vt t c Z)->BrO p1 n i ns N vn vk 35 #[pW w0,jf N vn vk,.string word] (word++E++⟨#[32]⟩++Y++⟨#[32,101,108,115,101,32]⟩++Z)
 |bre {word E Y Z:ByteArray}{q r c:Nat}:N.ks.length=3->N.ks[0]?=some (q:Int)->N.ks[1]?=some (r:Int)->N.ks[2]?=some (c:Int)->Hid (WE w0 vt t q E)->Hid (WB w0 vt t r Y)->c<n/\(ae ns c).k=7->Hid (∀an M cn ak L ck,NdR w0 p1 c (ae ns c) an M cn ak L ck->Wr w0 vt t 35 #[pW w0,jf (ae ns c) (.slice an M cn) (.slice ak L ck),.string ⟨#[32,101,108,105,102,32]⟩] Z)->BrO p1 n i ns N vn vk 35 #[pW w0,jf N vn vk,.string word] (word++E++⟨#[32]⟩++Y++Z)
 |neg {A E:ByteArray}{c:Nat}:N.ks.length=1->N.ks[0]?=some (c:Int)->Hid (N.op=19)->c<n/\((ae ns c).k=30/\((ae ns c).op=19/\A=⟨#[45]⟩++⟨#[32]⟩\/(ae ns c).op≠19/\A=⟨#[45]⟩)\/(ae ns c).k≠30/\A=⟨#[45]⟩)->Hid (Wr w0 vt t 33 #[pW w0,.int .i64 (c:Int),.int .i64 11] E)->BrO p1 n i ns N vn vk 102 #[pW w0,jf N vn vk] (A++E)
end
theorem CH{c:Addr}{n m:Nat}(x:fs w0 (B0 (A0 c) n m) ns)(y:CF w0 c ns)(bn:ns.length=n)(bA:n<=1048576){tab i:Nat}{a2:Option Addr}{a1 a3 a0 o:Nat}(R:NdR w0 c i N a2 a1 a3 ak a0 o){f:FuncId}{args:Array Cb}(bk:BrO w0 (B0 (A0 c) n m) tab c n i ns N (B0 a2 a1 a3) (B0 ak a0 o) f args Y):
  Wr w0 (B0 (A0 c) n m) tab f args Y:=by
 intro br ba a5 bl;have a9:=a5.lt;have bh:=R.hL;have bt:=R.cap;have a:=aq (Bx.new a5 N (B0 a2 a1 a3) (B0 ak a0 o));cases bk
 case' br3 b _ _ _ _ _ _ g hX=>
  obtain⟨u,s,w,t,r,v,l⟩:=yl x y (show b<ns.length by omega);obtain⟨g,p⟩:=g;have a4:((ae ns b).k==7)=Er:=by simpa using p
  clear p
 case' bre b _ _ _ _ _ _ g hX=>
  obtain⟨u,s,w,t,r,v,l⟩:=yl x y (show b<ns.length by omega);obtain⟨g,p⟩:=g;have a4:=kqs p;clear p;have bc:=aq (hX _ _ _ _ _ _ l);unfold jf at bc;clear hX
 case' neg b _ _ ho g hX=>
  obtain⟨u,s,w,t,r,v,l⟩:=yl x y (show b<ns.length by omega);have bs:=kqf ho.out;obtain⟨g,⟨z,⟨A,rfl⟩|⟨A,rfl⟩⟩|⟨z,rfl⟩⟩:=g;all_goals first|have a4:=kqs z|have a4:((ae ns b).k==30)=Er:=by simpa using z
  all_goals first|have bf:=kqs A|have bf:((ae ns b).op==19)=Er:=by simpa using A|skip
  all_goals clear z;try clear A
 all_goals
  try simp only[ay]at bl
  have bx:(b:Int)<(n:Int):=by omega
  have bw:(0:Int)<=(b:Int):=by omega
  generalize ae ns b=a8 at *;have av:=aq l;obtain⟨q,rfl⟩:=R.ks.ptr;have d:=aq R;have bo:=bh.symm.trans (by with_reducible assumption:N.ks.length=_);subst bo;obtain⟨L,ad,af,al,am,ao,ap,ar,h⟩:=a.cells;have a6:=a.kid0 d.ks (by with_reducible assumption)
  (try have bb:=a.kid d.ks (j:=1) (by with_reducible assumption) (by decide))
  (try have a7:=a.kid d.ks (j:=2) (by with_reducible assumption) (by decide))
  obtain⟨B,C,E,F,G,H,I,J,K,_,_⟩:=av.rd _ a.pr.bel;have z0:=a.pr.cells.1;clear a5 R l x y bn;unfold jf;go_in
  repeat (go_wp2_with fail;refine Bx.stp a (by first|exact ah _ _|exact aw (cK _ _)) (by with_reducible first|exact aq (CE _)|assumption) a9 (by(try simp only[ay]);omega) ?_;intro bd a;have a:=aq a;clear L ad af al am ao ap ar h;obtain⟨L,ad,af,al,am,ao,ap,ar,h⟩:=a.cells;have a6:=a.kid0 d.ks (by with_reducible assumption);(try have bb:=a.kid d.ks (j:=1) (by with_reducible assumption) (by decide));(try have a7:=a.kid d.ks (j:=2) (by with_reducible assumption) (by decide));obtain⟨B,C,E,F,G,H,I,J,K,_,_⟩:=av.rd _ a.pr.bel;have z0:=a.pr.cells.1)
  go_wp2_with fail;first|go_region_held3 (fun e=>e.cell? ⟨w0.heap.size,0,A5⟩=A0 (B0 (A0 c) n m)/\e.cell? ⟨ba.heap.size,8,A5⟩=A0 (B0 (A0 q) 1 o)/\e.cell? q=A0 (O U (b:Int))/\NdC e (c.add (b*9)) a8 (B0 u s w) (B0 t r v)) (first|exact⟨z0,h,a6,B,C,E,F,G,H,I,J,K⟩|((repeat' refine And.intro ?_ ?_)<;>go_keep)) (fail)|go_region_held3 (fun e=>e.cell? ⟨w0.heap.size,0,A5⟩=A0 (B0 (A0 c) n m)/\e.cell? ⟨ba.heap.size,8,A5⟩=A0 (B0 (A0 q) 3 o)/\e.cell? ⟨q.block,q.off+2,A5⟩=A0 (O U (b:Int))/\NdC e (c.add (b*9)) a8 (B0 u s w) (B0 t r v)) (first|exact⟨z0,h,a7,B,C,E,F,G,H,I,J,K⟩|((repeat' refine And.intro ?_ ?_)<;>go_keep)) (fail)
  repeat (go_wp2_with fail;refine Bx.stp a (by first|exact ah _ _|exact aw (cK _ _)) (by with_reducible first|exact aq (CE _)|assumption) a9 (by(try simp only[ay]);omega) ?_;intro bd a;have a:=aq a;clear L ad af al am ao ap ar h;obtain⟨L,ad,af,al,am,ao,ap,ar,h⟩:=a.cells;have a6:=a.kid0 d.ks (by with_reducible assumption);(try have bb:=a.kid d.ks (j:=1) (by with_reducible assumption) (by decide));(try have a7:=a.kid d.ks (j:=2) (by with_reducible assumption) (by decide));obtain⟨B,C,E,F,G,H,I,J,K,_,_⟩:=av.rd _ a.pr.bel;have z0:=a.pr.cells.1)
  go_wp2_with fail;first|go_end0|refine aI (dJ rfl _ _ _) rfl ?_
  exact Bx.fin a (by simp only[bq])
def afB(b:List Nd)(B:Nat)(c:List Int):Prop:=∀d∈c,∃a:Nat,d=(a:Int)/\a<B/\a<b.length/\fe (ae b a).k=Fs
theorem ads(c:B1)(o v:Cb)(an:List Nd)(E:Int->ByteArray)(t:Int)(B:Nat)(ad:OkE c o an E t B)(d:List Int)(y:dw c v d)(L:afB an B d)(a1:d.length<=1048576)(T:ByteArray)(w:B1)(h:Pr c o T t w)(av:T.size+(cC (d.map E)).size<=140737488355328):
  B6 Ax 32 #[E0 (A0 ⟨c.heap.size,0,A5⟩),v] w fun e w'=>e= A2 (B4 #[])/\Pr c o (T++cC (d.map E)) t w'/\Kq c.heap.size w w':=by
 have m:=Kz h y L ad;obtain⟨a4,a5,rfl⟩:=y.form;clear h y L ad;obtain⟨n,x⟩:=az d.length;rw[x]at a1 m⊢;have G:=aq x;clear x;obtain⟨b,s⟩:=az (d.map E);rw[s]at av⊢;have F:E2 (d.map E=b/\b.length=n):=⟨s,by rw[<-s,cj];exact G⟩;clear s;go_in;go_wp2_with fail;go_loopw [8] (fun z wr=>∃a:Nat,a<=n/\z= O U a/\E2 (Pr c o (T++cC (b.take a)) t wr/\Kq c.heap.size w wr)) (fun z _=>n-(C2 z).toNat)
 case atStart=>exact⟨0,by omega,rfl,by rw[show T++cC (b.take 0)=T from ByteArray.append_empty];exact m.1,Kq.refl _ _⟩
 case round=>
  obtain⟨a,a7,rfl,f⟩:=hrel;by_cases a0:a<n
  ·obtain⟨a3,u⟩:=cy G.out a0;obtain⟨j,rfl,af,a2,ak⟩:=m.2.2.1 a3 (cH u);obtain⟨ap,rfl,ar⟩:=(m.2.1.below f.1.bel).get u;have a9:(a:Int)<(n:Int):=by omega
   have a8:(0:Int)<=(a:Int):=by omega
   have al:b[a]?=A0 (E j):=by rw[<-F.out.1,ce,u];rfl
   have J:=oE b a (E j) al;have K:=Bf b (a+1);have l:=gI J K;have r:=gI af ak;clear J K u al af a2 ak;by_cases I:a=0
   ·subst I;have g:cC (b.take (0+1))=cC (b.take 0)++E j:=by rw[l.out.1,ab rfl]
    have i:=l.2;rw[g,ay]at i;have k:=gI g i;clear g i l;have a6:wr.cell? ap=A0 (O U (j:Int)):=by simpa [Addr.add] using ar
    go_wp2_with fail;refine(m.2.2.2.zero j _ _ r.1 r.2 f.1 (by have:=k.2;rw[ay];omega)).mono ?_;rintro e A ⟨rfl,p2,q⟩;have p:=gI p2 q;clear p2 q;go_wp2_with fail;refine⟨⟨1,by omega,by go_num,?_,f.2.trans p.2⟩,by simp[C2];omega⟩;rw[show(1:Nat)=0+1 from rfl,k.out.1,<-bq];exact p.1
   ·have g:cC (b.take (a+1))=cC (b.take a)++dL++E j:=by rw[l.out.1,aa I]
    have i:=l.2;rw[g,ay,ay]at i;have H:dL.size=2:=rfl;have k:=lD g i H;clear g i H l;have ba:(0:Int)<(a:Int):=by omega
    go_wp2_with fail;refine(eL c o _ _ _ _ f.1 (by have:=k.2;rw[ay];show _+dL.size<=_;omega)).mono ?_;rintro e A ⟨rfl,p2,q⟩;have p:E2 (Pr c o (T++cC (b.take a)++dL) t A/\Kq c.heap.size wr A):=⟨p2,q⟩;clear p2 q;go_wp2_with fail;refine(m.2.2.2.zero j _ _ r.1 r.2 p.1 (by have:=k.2;rw[ay,ay];omega)).mono ?_;rintro e bb ⟨rfl,ao,am⟩;have C:=gI ao am;clear ao am;go_wp2_with fail;refine⟨⟨a+1,by omega,by go_num,?_,(f.2.trans p.2).trans C.2⟩,by simp[C2];omega⟩;rw[k.out.1,<-bq,<-bq];exact C.1
  ·obtain rfl:a=n:=by omega
   go_wp2_with fail;go_end0
   refine⟨rfl,?_,f.2⟩;have:=f.1
   rwa [cA (by rw[F.out.2];exact ag _)]at this
