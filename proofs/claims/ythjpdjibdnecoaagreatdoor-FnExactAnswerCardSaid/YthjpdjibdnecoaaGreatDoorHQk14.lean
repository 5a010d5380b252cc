import Derived.Test.YthjpdjibdnecoaaGreatDoorHQk13
import Derived.Test.YthjpdjibdnecoaaGreatDoorHQk05
set_option linter.all false
set_option maxRecDepth 100000
set_option maxHeartbeats 6400000
open Go.Lib renaming decDigits->M
open Go.Proofs.Tryz renaming prog->O
open ByteArray renaming empty->Q
open Go.Value renaming int->R,string->Z,tuple->A0
open Go.IntKind renaming i64->S
open Bool renaming true->T,false->Y
open Go renaming World->U,Calls->Ax
open Go.Ending renaming returned->V
open Option renaming some->W,none->X
namespace Go.Proofs.YthjpdjibdnecoaaGreatDoor
open Go.RowKit Go.Maps Go.WideMaps
def hxd(u:Nat)(j:Nat):Int:=xm ((u / 16 ^ j%16:Nat):Int)
theorem aiK:bits .and S 16 15=0:=by decide+kernel
theorem p2(w:U):Ax O 198 #[R S 16] w fun e a=>e= V (.bool T)/\a=w:=by
 have b:=aiK;go_in;go_wp2;go_ret;exact⟨rfl,rfl⟩
structure Rw (B:Nat) (w:U) (u r:Nat):Prop where
 ex:∃arr,w.heap[B]?=W (.cells arr 262 (0,0))/\arr.size=65/\∀j,j<r->arr[64-j]?=W (.int .u8 (hxd u j))
theorem Rw.step{B:Nat}{w:U}{u r:Nat}(h:Rw B w u r)(j:r<65)(x:Int)(f:x=hxd u r):Rw B (w.setCell ⟨B,64-r,X⟩ (R .u8 x)) u (r+1):=by
 obtain⟨g,c,d,e⟩:=h.ex;refine⟨_,bi w B (64-r) _ _ _ c,by simp[d],fun a i=>?_⟩;rw[Array.getElem?_setIfInBounds];by_cases b:a=r
 ·subst b;rw[ab rfl,ab (by omega),f]
 ·rw[aa (by omega)];exact e a (by omega)
theorem xA(a b:List Int):ic (a++b)=ic a++ic b:=by
 have h:∀(d:List Int)(c:ByteArray),d.foldl (fun e f=>e.push (UInt8.ofNat f.toNat)) c=c++d.foldl (fun e f=>e.push (UInt8.ofNat f.toNat)) Q:=by
  intro d
  induction d with
  |nil=>intro c;simp
  |cons a e g=>
   intro c;rw[xk,xk,g (c.push _),g (ByteArray.empty.push _)];apply re;simp[ByteArray.push,me]
 unfold ic;rw[List.foldl_append];exact h b _
def sd(b:List UInt8):List Int:=b.map fun a=>(a.toNat:Int)
theorem yr(a:List UInt8):ic (sd a)=⟨a.toArray⟩:=by
 have g:∀(a:List UInt8)(b:ByteArray),(sd a).foldl (fun d h=>d.push (UInt8.ofNat h.toNat)) b=⟨b.data++a.toArray⟩:=by
  intro a
  induction a with
  |nil=>intro b;simp[sd]
  |cons c d f=>
   intro b;show(sd d).foldl _ (b.push (UInt8.ofNat ((c.toNat:Int)).toNat))=_;rw[f];have e:UInt8.ofNat ((c.toNat:Int)).toNat=c:=by simp
   rw[e];simp[ByteArray.push]
 have:=g a Q;unfold ic;rw[this];simp
def pre(c:Nat):List Int:=if c=0 then [] else sd (M c)
theorem Hf(c:Nat)(h:c≠0):pre c=pre (c / 10)++[48+((c%10:Nat):Int)]:=by
 have d:∀b,b<10->(((UInt8.ofNat (48+b)).toNat:Nat):Int)=48+(b:Int):=fun b e=>by
  rw[UInt8.toNat_ofNat',Nat.mod_eq_of_lt (by omega)];omega
 unfold pre;rw[aa h];by_cases a:c<10
 ·rw[ab (by omega),M,kJ a,Nat.mod_eq_of_lt a];show [(((UInt8.ofNat (48+c)).toNat:Nat):Int)]=_;rw[d c a];rfl
 ·rw[aa (by omega),M,dif_neg a];show List.map _ (_++_)=_;rw[ee];show sd (M (c / 10))++[(((UInt8.ofNat (48+c%10)).toNat:Nat):Int)]=_;rw[d _ (by omega)]
theorem C6(N:Nat)(a2:N≠0)(bD:N<=9223372036854775807)(w:U):Ax O 8 #[R S (N:Int)] w fun e bs=>e= V (Z ⟨(M N).toArray⟩)/\Below w.heap.size w bs:=by
 obtain⟨g,A⟩:∃g:Int,(N:Int)=g:=⟨_,rfl⟩;rw[A];have b8:0<g:=by omega
 have bl:g<=9223372036854775807:=by omega
 have ca:(g==0)=Y:=by rw[aK];omega
 have b9:¬g<0:=by omega
 have an:=aw A;clear A;go_in;go_wp2_with fail;go_loopw [0,4,5] (fun E br cb wr=>∃(c:Int) (a:List Int),E= R S c/\0<=c/\c<=9223372036854775807/\Hid (c.toNat<10 ^ (19-a.length)/\a.length<=19/\sd (M N)=pre c.toNat++a.reverse)/\wr.ownsRow w.heap.size 5 1 br a.length (B8 a)/\Below w.heap.size w wr) (fun E _ _ _=>(intOf E).toNat)
 case atStart=>
  refine⟨g,[],rfl,by omega,bl,⟨?_,by simp,?_⟩,bc _ _ _ _,ag _ _⟩
  ·have:(10:Nat) ^ (19-([]:List Int).length)=10000000000000000000:=by decide
   rw[this];omega
  ·rw[show g.toNat=N by have:=an.out;omega];unfold pre;rw[aa a2];simp
 case round=>
  obtain⟨c,a,rfl,bw,bx,l,q,o⟩:=hrel;by_cases u:c=0
  ·subst u;obtain⟨_,L,K⟩:=l.out;have x:sd (M N)=a.reverse:=K;have z:0<a.length:=by
    have e:=congrArg List.length x;rw[ub]at e;have:0<(sd (M N)).length:=by
     rw[M];split<;>simp[sd]
    omega
   have F:Hid (ic a.reverse=⟨(M N).toArray⟩):=by show _=_;rw[<-x,yr]
   rcases q.2 with⟨h,bh⟩|⟨t,ap,bA,al,b4,y,_,a9,m,ak⟩
   ·have:a=[]:=by
     have bE:(B8 a).length=a.length:=Jn a;have:=q.1;simp at bh;omega
    rw[this]at z;simp at z
   ·have v:∀k,k<a.length->wr.cell? ⟨t,k,X⟩=W (R .u8 (a.getD k 0)):=fun k a8=>by
     rw[aq _ _ _ _ _ _ y];have f:(B8 a)[k]?=W (R .u8 (a.getD k 0)):=by simp[B8,a8,List.getD]
     rw[<-ak,kE]at f;split at f
     ·simpa using f
     ·cases f
    have a6:t<wr.heap.size:=ah y;obtain⟨d,n⟩:=ay a.length;rw[n]at z L v al;subst al;clear l K x q y ak m a9;have ad:∀b,b<d->a.reverse.take (b+1)=a.reverse.take b++[a.getD (d-1-b) 0]:=fun b B=>by
     have e:a.reverse[b]?=W (a.getD (d-1-b) 0):=by
      rw[List.getElem?_reverse (by omega),List.getD,n,bJ (by omega)];rfl
     rw[fK,e];rfl
    have m:∀b,b<=d->(ic (a.reverse.take b)).size=b:=fun b B=>by
     have:∀j:List Int,(ic j).size=j.length:=by
      intro j
      induction j with
      |nil=>rfl
      |cons I J bk=>rw[show I::J=[I]++J from rfl,xA,cL,bk,aH];rfl
     rw[this,jy,ub];omega
    have H:=aw ad;have am:=aw n;clear ad n;go_wp2_with fail;go_loopw [6,7] (fun bo C bt=>∃b:Nat,b<=d/\C= R S ((d:Int)-1-(b:Int))/\bo= Z (ic (a.reverse.take b))/\Below wr.heap.size wr bt) (fun _ C _=>(intOf C+1).toNat)
    case atStart=>exact⟨0,by omega,by first|rfl|(congr 1;omega),rfl,ag _ _⟩
    case round=>
     obtain⟨b,B,rfl,rfl,p⟩:=hrel;have af:=m b B;by_cases bd:b<d
     ·obtain⟨i,a3⟩:∃i:Nat,d-1-b=i:=⟨_,rfl⟩;have a5:=(jC p a6).trans (v i (by omega));have s:=H.out b bd;rw[a3]at s;have r:Hid (ic (a.reverse.take b)++ic [a.getD i 0]=ic (a.reverse.take (b+1))):=by show _=_;rw[s,xA]
      generalize a.getD i 0=j at a5 r;have b2:=fun w=>ou (ue w j);have b7:(ic [j]).size=1:=rfl;have a7:(d:Int)-1-(b:Int)=(i:Int):=by omega
      have b0:i<d:=by omega
      generalize ic (a.reverse.take b)=bn at af r⊢;rw[a7];clear m s v;go_wp2;go_roundw
      case rel=>exact⟨b+1,by omega,by first|rfl|(congr 1;omega),by rw[r.out],p.alloc p.size _⟩
      case measure=>simp[intOf]
     ·obtain rfl:b=d:=by omega
      have b6:¬(0:Int)<=(b:Int)-1-(b:Int):=by omega
      rw[fs (by rw[ub,am.out];exact ae _)];have G:=F.out;generalize ic a.reverse=bn at G⊢;subst G;clear af m F H;go_wp2;go_ret;exact⟨rfl,o.trans (p.mono o.size)⟩
  ·have b3:(c==0)=Y:=by rw[aK];exact u
   have b1:(c !=0)=T:=by rw[ud];exact u
   have b5:¬c%10<0:=by omega
   have L:a.length<=18:=by
    obtain⟨f,ar,_⟩:=l.out;rcases co a.length 19 with h|h
    ·omega
    ·rw[show 19-a.length=0 by omega]at f;simp at f;omega
   have ao:Hid ((c / 10).toNat<10 ^ (19-(a++[48+c%10]).length)/\(a++[48+c%10]).length<=19/\sd (M N)=pre (c / 10).toNat++(a++[48+c%10]).reverse):=by
    obtain⟨f,ar,av⟩:=l.out;have a1:(a++[48+c%10]).length=a.length+1:=by simp
    refine⟨?_,by omega,?_⟩
    ·rw[a1];have a0:10 ^ (19-a.length)=10 ^ (19-(a.length+1))*10:=by rw[<-Nat.pow_succ];congr 1;omega
     rw[a0]at f;have:(c / 10).toNat=c.toNat / 10:=by omega
     rw[this];omega
    ·rw[av,Hf c.toNat (by omega),show(c / 10).toNat=c.toNat / 10 by omega,show((c.toNat%10:Nat):Int)=c%10 by omega];simp
   clear l;go_wp2_with (at_builtin;refine gL rfl (.tmp 20) (.tmp 24) rfl w.heap.size u4 a.length a rfl q o.size (by omega) [48+c%10] 1 rfl (by decide) (by decide) _ rfl rfl ?_;intro t ap cc bb a4);go_roundw
   case rel=>exact⟨c / 10,a++[48+c%10],by first|rfl|(congr 1;omega),by omega,by omega,ao,by rw[aH];exact bb,o.trans (a4.mono (by omega))⟩
   case measure=>simp[intOf];omega
structure Hg (w:U):Prop where
 tabs:qo w
 errs:mI w
 pow:Lib.TabIs O w "internal/strconv.uint64pow10" .u64 Lib.pow10Tab
 brj:w.cell? ⟨10,15,X⟩=W (.int .u8 4)
theorem qu{P:Program}{w b:U}{B:Nat}{n:String}{cs:Array Value}(h:w.var? P n=W cs)(d:Below B w b)(c:w.heap.size<=B):b.var? P n=W cs:=by
 unfold World.var? at h⊢;cases hg:P.globalNamed n with
 |none=>simp[hg]at h
 |some a=>
  simp only[hg,Ay]at h⊢;have e:a<w.heap.size:=by
   rcases co a w.heap.size with h'|h'
   ·exact h'
   ·simp[tE h']at h
  rw[d.block a (eF e c)];exact h
theorem Hg.below{w c:U}{B:Nat}(h:Hg w)(b:Below B w c)(a:w.heap.size<=B):Hg c:=
 ⟨h.tabs.below b a,h.errs.below b a,qu h.pow b a,(jC b (eF (Eg w _ h.brj) a)).trans h.brj⟩
theorem aiL:∀k:Fin 30,5<=xo (ci iz k.val)/\xo (ci iz k.val)<=78:=by decide+kernel
theorem Hh(kind:Int)(h:kind<5\/78<kind):∀(f k:Nat),k+f<=30->Jp kind f k=Jo
 |0,k,_=>rfl
 |f+1,k,a=>by
  have:=aiL ⟨k,by omega⟩;unfold Jp;rw[aa (by simp only at this;omega)];exact Hh kind h f (k+1) (by omega)
theorem Hi:∀k:Fin 79,k.val≠7->vC (k.val:Int)=gc (k.val:Int):=by decide+kernel
theorem LF(kind:Int)(b:kind≠7):vC kind=gc kind:=by
 by_cases a:0<=kind/\kind<=78
 ·have:=Hi ⟨kind.toNat,by omega⟩ (by simp only;omega);simp only[show((kind.toNat:Nat):Int)=kind by omega]at this;exact this
 ·unfold vC gc;rw[aa (by omega),aa (by omega),aa (by omega),aa (by omega),aa (by omega),aa (by omega),aa (by omega)];exact Hh kind (by omega) 30 0 (by omega)
theorem DA(s:ByteArray)(d:s.size<=1100000)(w:U):Ax O 206 #[Z s] w fun e a=>e= V (Z s)/\Below w.heap.size w a:=by
 have c:=fun w=>Tryz.stringslite_Clone s w (by omega);go_in;go_wp2_with (go_at_call 231;refine(c _).mono ?_;rintro e a ⟨rfl,b⟩);go_ret;exact⟨rfl,b⟩
def JI(s:ByteArray)(p:Nat):Int×ByteArray:=match uE ez (s.extract p (mo s (s.size+1) p)) 22 0 with|some a=>(10+(a:Int),⟨#[]⟩)|none=>(1,s.extract p (mo s (s.size+1) p))
theorem ak5(s:ByteArray)(p:Nat):wdT s p= .agg #[R S (JI s p).1,R S p,R S (mo s (s.size+1) p),R S 0,R S 0,Z (JI s p).2]:=by
 unfold wdT JI;cases uE ez (s.extract p (mo s (s.size+1) p)) 22 0<;>rfl
theorem LG{b t mb n:Nat}{w c:U}{D:DataW Unit}(h:w.ownsMap O 9 (plainElem (H:=Unit) O 3) mb n D)(i:ql b t w c)(f:mb≠b)(g:mb≠t):c.ownsMap O 9 (plainElem (H:=Unit) O 3) mb n D:=by
 obtain⟨e,d,a,j⟩:=h;exact⟨e,d,(i.block mb (ah a) f g).trans a,j⟩
theorem E3{fr:Int}(s:ByteArray)(bD:s.size<=70000)(b t mb:Nat)(w:U)(p:Nat)(l ao:Int)(a4:p<s.size)(x:b≠t)(bl:mb≠b)(bn:mb≠t)(hS:fH b w s (.map (W mb)) fr p l Y)(af:dj t w 0 p 0 ao 0 Q)(a1:w.ownsMap O 9 (plainElem (H:=Unit) O 3) mb 22 (yl 22)):
  Ax O 165 #[.pointer (W ⟨b,0,X⟩),.pointer (W ⟨t,0,X⟩)] w fun e J=>e= .returned (.tuple #[])/\ql b t w J/\fH b J s (.map (W mb)) fr (mo s (s.size+1) p:Int) l Y/\dj t J (JI s p).1 p 0 ao 0 (JI s p).2:=by
 have bA:b<w.heap.size:=ah hS;have bE:t<w.heap.size:=ah af;have bb:=vD s (s.size+1) p (rg a4);have a7:=fun w=>zi s (by omega) p (rg a4) w;obtain⟨i,j,k,m,n,o,q,r⟩:=eI hS;obtain⟨A,B,C,E,F,G,I⟩:=bf af;unfold JI;generalize mo s (s.size+1) p=a at a7 bb;obtain⟨a9,L⟩:=ay (uE ez (s.extract p a) 22 0);rw[L];have ar:=aw L;clear L;go_in;go_upto_region 0 with fail
 go_cut [16] from 7 (fun bx ap=>bx= .int .i64 (a:Int)/\ql b t w ap/\fH b ap s (.map (W mb)) fr a l Y/\dj t ap 0 p 0 ao 0 Q)
 case first=>
  go_region_with (first|(go_at_call 205;refine(a7 _).mono ?_;rintro e J ⟨rfl,bo⟩;obtain rfl:=bo.symm))
  all_goals
   go_wp2_with fail;go_meet
   case rel=>exact⟨rfl,((ql.refl b t w).setB 3 _).drew,hS.setP _,af.other (dD x) _⟩
 case rest=>
  obtain⟨rfl,al,ad,ak⟩:=hcut;clear i j k m n o q r A B C E F G I;have a2:=LG a1 al bl bn;obtain⟨i,j,k,m,n,o,q,r⟩:=eI ad;obtain⟨A,B,C,E,F,G,I⟩:=bf ak;go_upto_region 1 with fail
  go_quiet (fail)
  have d:=ad.drewN nq;have f:=ak.drewN nq;have y:=al.drewN nq;have K:(wc.drewN nq).ownsMap O 9 (plainElem (H:=Unit) O 3) mb 22 (yl 22):=a2;generalize wc.drewN nq=av at d f y K⊢;clear i j k m n o q r A B C E F G I ad ak al a2 a1;obtain⟨i,j,k,m,n,o,q,r⟩:=eI d;obtain⟨A,B,C,E,F,G,I⟩:=bf f;have bs:b<av.heap.size:=ah d;have bt:t<av.heap.size:=ah f;have a5:(s.extract p a).size<=70000:=by rw[iu];omega
  have z:keyOf O 9 (.string (s.extract p a))=W (.string (s.extract p a).data.toList):=keyOf_string_mk Tryz.underlying9 (by unfold maxLen;omega);have c:=GG (H:=Unit) (s.extract p a);have an:=fun w=>DA (s.extract p a) (by omega) w;unfold rL at c;rw[ar.out]at c;cases a9 with
  |some a6=>
   have a3:=af5 (H:=Unit) (s.extract p a) a6 ar.out;have h:Maps.has (yl (H:=Unit) 22) (.string (s.extract p a).data.toList)=T:=c;clear c;generalize s.extract p a=bw at z a3 h an a5⊢;go_wp2_with (at_lookup;refine wpList_lookup_own_ok_int _ rfl _ _ 147 rfl 9 3 .i64 af0 Tryz.underlying147 Tryz.underlying3 (by kernel_rfl) mb 22 _ rfl K _ _ rfl z ?_;intro a0 g br;rw[h];rw[a3]at g;obtain rfl:10+(a6:Int)=a0:=by injection g with g;injection g);refine ba (jg rfl _ _ _) rfl ?_;exact⟨rfl,y.setT 0 _,d.other x _,f.setKind _⟩
  |none=>
   have h:Maps.has (yl (H:=Unit) 22) (.string (s.extract p a).data.toList)=Y:=c;clear c;obtain⟨bw,am⟩:=ay (s.extract p a);rw[am]at z h an a5⊢;have a8:=aw am;clear am;go_wp2_with (first|(at_lookup;refine wpList_lookup_own_ok_int _ rfl _ _ 147 rfl 9 3 .i64 af0 Tryz.underlying147 Tryz.underlying3 (by kernel_rfl) mb 22 _ rfl K _ _ rfl z ?_;intro a0 g br;rw[h])|(go_at_call 206;refine(an _).mono ?_;rintro e b0 ⟨rfl,v⟩;have bh:=d.below v bs;have u:=f.below v bt;have bk:=y.below (v.mono y.size);have tf3:=(bf u).2.2.2.2.2.2;have b1:=(bf u).1;have b2:=(bf u).2.2.2.2.2.1;clear v));go_end0
   exact⟨rfl,(bk.setT 0 _).setT 5 _,(bh.other x _).other x _,by rw[a8.out];exact(u.setKind _).setText _⟩
theorem iG(s:ByteArray)(a b i:Nat)(d:b<=s.size)(e:a+i<b):az (s.extract a b) i=az s (a+i):=by
 rw[EH,EH];have c:(s.extract a b).data.toList=(s.data.toList.drop a).take (b-a):=by rw[<-fj,Lib.extract_toList]
 rw[c,kE,ab (by omega),tH]
theorem oE(s:ByteArray)(a b:Nat)(c:b<=s.size):(s.extract a b).size=b-a:=by rw[iu];omega
theorem LH(s:ByteArray)(a b p:Nat)(c:b<=s.size):∀n,a+p+n<=b->uK (s.extract a b) p n=uK s (a+p) n
 |0,_=>rfl
 |n+1,h=>by
  rw[uK,uK,LH s a b p c n (by omega),iG s a b (p+n) c (by omega),Ey]
theorem LI(s:ByteArray)(a b p:Nat)(c:b<=s.size):∀n,a+p+n<=b->uL (s.extract a b) p n=uL s (a+p) n
 |0,_=>rfl
 |n+1,h=>by
  rw[uL,uL,LI s a b p c n (by omega),iG s a b (p+n) c (by omega),Ey]
def vI(s:ByteArray)(p:Nat):Int×Int×ByteArray:=
 if az s p=48/\az s (p+1)=120 then(2,wrap64 (uK s (p+2) ((dl s p).1-(p+2)):Int),⟨#[]⟩)
 else match (if Hc s p=T then X else uL s p ((dl s p).1-p)) with
  |some a=>(2,(a:Int),⟨#[]⟩)
  |none=>(3,0,s.extract p (dl s p).1)
theorem ai0(s:ByteArray)(p:Nat)(a:(dl s p).2=T):Ab s p= .agg #[R S (vI s p).1,R S p,R S ((dl s p).1:Int),R S 0,R S (vI s p).2.1,Z (vI s p).2.2]/\xw s p= -1:=by
 unfold Ab xw vI;by_cases b:az s p=48/\az s (p+1)=120
 ·have c:dl s p=mw s (p+2):=by unfold dl;rw[ab b]
  rw[c]at a⊢;simp only[ab b];unfold hxA hxF;rw[ab a,ab a];exact⟨rfl,rfl⟩
 ·have c:dl s p=oA s (nA1 s (nA0 s p)):=by unfold dl;rw[aa b]
  rw[c]at a⊢;simp only[aa b];unfold nmA nmF;rw[ab a,ab a];cases Hc s p with
  |true=>exact⟨rfl,rfl⟩
  |false=>
   simp only[aa (show ¬Y=T by simp)];cases uL s p ((oA s (nA1 s (nA0 s p))).1-p)<;>exact⟨rfl,by trivial⟩
theorem Hj(s:ByteArray)(p:Nat)(a:(dl s p).2=Y):xw s p=((dl s p).1:Int):=by
 unfold xw;by_cases b:az s p=48/\az s (p+1)=120
 ·have c:dl s p=mw s (p+2):=by unfold dl;rw[ab b]
  rw[c]at a⊢;rw[ab b];unfold hxF;rw[aa (by rw[a];simp)]
 ·have c:dl s p=oA s (nA1 s (nA0 s p)):=by unfold dl;rw[aa b]
  rw[c]at a⊢;rw[aa b];unfold nmF;rw[aa (by rw[a];simp)]
theorem abp(s:ByteArray)(p:Nat)(j:p<s.size)(g:cu (az s p)=T)(o:¬(az s p=48/\az s (p+1)=120)):yo (s.extract p (dl s p).1)=Option.map (fun u:Nat=>(u:Int)) (if Hc s p=T then X else uL s p ((dl s p).1-p)):=by
 have c:=uh s p j;have q:=oE s p (dl s p).1 c.2;have b:∀a,p+a<(dl s p).1->az (s.extract p (dl s p).1) a=az s (p+a):=fun a i=>iG s p _ a c.2 i;have f:cu (az (s.extract p (dl s p).1) 0)=T:=by rw[b 0 (by omega)];exact g
 have d:dl s p=oA s (nA1 s (nA0 s p)):=by unfold dl;rw[aa o]
 have k:=JC s p j;have l:=JD s _ k.2;have r:=JB s _ l.2;cases hk:Hc s p with
 |false=>
  obtain⟨m,e⟩:=EK s p g hk;have t:(dl s p).1=nA0 s p:=by rw[d,m]
  rw[G6 _ (by omega) (fun a i=>by rw[b a (by omega)];exact e _ (by omega) (by omega))];rw[q,LI s p _ 0 c.2 _ (by omega),ua];simp
 |true=>
  simp only[jh,Option.map_none];unfold Hc at hk;rcases aC hk with h|h
  ·have n:nA0 s p<(dl s p).1:=by
    have:nA0 s p<nA1 s (nA0 s p):=by
     unfold nA1;rw[ab h];have:=rm s (nA0 s p+1) (by have:=qa h.2;omega);omega
    rw[d];omega
   exact xu _ f (nA0 s p-p) (by omega) (by rw[b _ (by omega),show p+(nA0 s p-p)=nA0 s p by omega,h.1];decide)
  ·have n:nA1 s (nA0 s p)<(dl s p).1:=by
    have e:=acK s _ h;have v:=rm s _ e.2;rw[d];unfold oA;rw[ab h];simp only;omega
   exact xu _ f (nA1 s (nA0 s p)-p) (by omega) (by rw[b _ (by omega),show p+(nA1 s (nA0 s p)-p)=nA1 s (nA0 s p) by omega,h];decide)
theorem Hk(s:ByteArray)(F:s.size<=1100000)(p:Nat)(m:p<s.size)(r:cu (az s p)=T)(v:(dl s p).2=T)(w:U)(q:mI w):
  Ax O 208 #[Z (s.extract p (dl s p).1)] w fun e l=>(((vI s p).1=2/\e= V (A0 #[R S (vI s p).2.1,.bool T])/\(vI s p).2.2=⟨#[]⟩)\/((vI s p).1=3/\(∃x,e= V (A0 #[R S x,.bool Y]))/\(vI s p).2.1=0/\(vI s p).2.2=s.extract p (dl s p).1))/\Below w.heap.size w l:=by
 have f:=uh s p m;have z:=oE s p (dl s p).1 f.2;have c:∀b,p+b<(dl s p).1->az (s.extract p (dl s p).1) b=az s (p+b):=fun b u=>iG s p _ b f.2 u;by_cases a:az s p=48/\az s (p+1)=120
 ·have e:dl s p=mw s (p+2):=by unfold dl;rw[ab a]
  have t:mw s (p+2)=((dl s p).1,T):=by rw[<-e];exact Prod.ext rfl v
  obtain⟨A,B,C,o⟩:=G7 t;refine(Dv _ (by rw[c 0 (by omega)];exact a.1) (by rw[c 1 (by omega)];exact a.2) (by omega) (by omega) (fun b g d=>by rw[c b (by omega)];exact o _ (by omega) (by omega)) w).mono ?_;rintro n l ⟨rfl,i⟩;rw[z,LH s p _ 2 f.2 _ (by omega)];have h:vI s p=(2,wrap64 (uK s (p+2) ((dl s p).1-(p+2)):Int),⟨#[]⟩):=by unfold vI;rw[ab a]
  rw[h];exact⟨.inl ⟨rfl,by rw[show(dl s p).1-p-2=(dl s p).1-(p+2) by omega],rfl⟩,i⟩
 ·have y:¬(az (s.extract p (dl s p).1) 0=48/\az (s.extract p (dl s p).1) 1=120):=by
   rintro ⟨g,d⟩;have E:=dv d (by omega);rw[c 0 (by omega)]at g;rw[c 1 (by omega)]at d;exact a ⟨g,d⟩
  refine(Dw _ (by omega) y w q).mono ?_;rintro n l ⟨⟨x,rfl,j⟩,i⟩;rw[abp s p m r a]at j⊢;refine⟨?_,i⟩;have h:vI s p=match (if Hc s p=T then X else uL s p ((dl s p).1-p)) with|some k=>(2,(k:Int),⟨#[]⟩)|none=>(3,0,s.extract p (dl s p).1):=by unfold vI;rw[aa a]
  rw[h];cases hc:(if Hc s p=T then X else uL s p ((dl s p).1-p)) with
  |some k=>
   rw[hc]at j;have:=j k rfl;subst this;exact .inl ⟨rfl,rfl,rfl⟩
  |none=>exact .inr ⟨rfl,⟨x,rfl⟩,rfl,rfl⟩
theorem BB{fr:Int}(s:ByteArray)(b1:s.size<=70000)(b t:Nat)(w:U)(m:Value)(p:Nat)(l a1:Int)(av:p<s.size)(bn:cu (az s p)=T)(f:b≠t)(hS:fH b w s m fr p l Y)(A:dj t w 0 p 0 a1 0 Q)(v:mI w)(bD:14<=b)(bE:14<=t):
  Ax O 167 #[.pointer (W ⟨b,0,X⟩),.pointer (W ⟨t,0,X⟩)] w fun e u=>e= V (A0 #[])/\ql b t w u/\
   (if(dl s p).2=T then fH b u s m fr ((dl s p).1:Int) l Y/\dj t u (vI s p).1 p 0 a1 (vI s p).2.1 (vI s p).2.2 else fH b u s m fr ((dl s p).1:Int) l T/\dj t u 0 p 0 a1 0 Q):=by
 have b0:b<w.heap.size:=ah hS;have b2:t<w.heap.size:=ah A;have a3:=uh s p av;have r:=fun w=>uJ s (by omega) p av w;have q:=fun br w v=>Hk s (by omega) p av bn br w v;obtain⟨af,ak,al,am,an,ao,ap,ar⟩:=eI hS;obtain⟨H,i,j,I,J,K,L⟩:=bf A;generalize vI s p=bk at q;obtain⟨b3,b4,b5⟩:=bk;generalize dl s p=bh at r a3 q;obtain⟨c,bx⟩:=bh;simp only at r a3 q⊢;cases bx with
 |false=>
  simp only[Ar,if_false];go_in;go_upto_region 0 with fail
  go_quiet ((go_at_call 207;exact Calls.quiet_of_same (r _)))
  have g:=(hS.drewN nq).setP (c:Int);have h:=(A.drewN nq).other (a:=⟨b,3,X⟩) (dD f) (R S (c:Int));have n:=((ql.refl b t w).drewN nq).setB 3 (R S (c:Int));go_wp2;refine ba (jg rfl _ _ _) rfl ?_;exact⟨rfl,n.setB 5 _,g.setK _,h.other (dD f) _⟩
 |true=>
  simp only[jh];have a9:=q rfl;clear q;go_in;go_upto_region 0 with fail
  go_quiet ((go_at_call 207;exact Calls.quiet_of_same (r _)))
  have g:=(hS.drewN nq).setP (c:Int);have h:=(A.drewN nq).other (a:=⟨b,3,X⟩) (dD f) (R S (c:Int));have n:=((ql.refl b t w).drewN nq).setB 3 (R S (c:Int));have x:mI ((w.drewN nq).setCell ⟨b,3,X⟩ (R S (c:Int))):=by
   obtain⟨⟨i,bA,a4⟩,⟨j,p2,a5⟩⟩:=v;refine⟨⟨i,bA,?_⟩,⟨j,p2,?_⟩⟩
   ·unfold World.cell? at a4⊢;rw[aD _ _ _ _ (by simp;omega)];exact a4
   ·unfold World.cell? at a5⊢;rw[aD _ _ _ _ (by simp;omega)];exact a5
  go_upto_region 4 with fail
  generalize (w.drewN nq).setCell ⟨b,3,X⟩ (R S (c:Int))=a2 at g h n x⊢;clear af ak al am an ao ap ar H i j I J K L r;obtain⟨af,ak,al,am,an,ao,ap,ar⟩:=eI g;obtain⟨H,i,j,I,J,K,L⟩:=bf h;go_quiet (fail)
  have y:=g.drewN nq;have B:=h.drewN nq;have o:=n.drewN nq;have a6:mI (a2.drewN nq):=⟨x.syn,x.rng⟩;generalize a2.drewN nq=ad at y B o a6⊢;clear af ak al am an ao ap ar H i j I J K L g h n x v;have a7:b<ad.heap.size:=ah y;have a8:t<ad.heap.size:=ah B;have bw:(s.extract p c).size<=70000:=by rw[iu];omega
  have a0:=fun w=>DA (s.extract p c) (by omega) w;have G:=a9 ad a6;clear a9;generalize s.extract p c=b6 at a0 G bw⊢;go_wp2_with fail;refine G.mono ?_;rintro e bb ⟨(⟨rfl,rfl,rfl⟩|⟨rfl,⟨b8,rfl⟩,rfl,rfl⟩),d⟩
  ·have z:=y.below d a7;have k:=B.below d a8;have F:=o.below (d.mono o.size);clear d G a0;obtain⟨H,i,j,I,J,K,L⟩:=bf k;go_wp2;refine ba (jg rfl _ _ _) rfl ?_;exact⟨rfl,(F.setT 0 _).setT 4 _,(z.other f _).other f _,(k.setKind _).setNum _⟩
  ·have z:=y.below d a7;have k:=B.below d a8;have F:=o.below (d.mono o.size);have bs:b<bb.heap.size:=ah z;have bt:t<bb.heap.size:=ah k;clear d G;go_wp2_with (go_at_call 206;refine(a0 _).mono ?_;rintro e b7 ⟨rfl,E⟩;have bl:=z.below E bs;have C:=k.below E bt;have bo:=F.below (E.mono F.size);have tf4:=(bf C).2.2.2.2.2.2;have b9:=(bf C).1;have ca:=(bf C).2.2.2.2.2.1;clear E);go_end0
   exact⟨rfl,(bo.setT 0 _).setT 5 _,(bl.other f _).other f _,(C.setKind _).setText _⟩
