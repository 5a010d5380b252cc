import Derived.Test.YtnlhhmlcjbohbaaGreatDoorHNk10
import Derived.Test.YtnlhhmlcjbohbaaGreatDoorHNk04
import Derived.Test.YtnlhhmlcjbohbaaGreatDoorHNk15
import Derived.Test.YtnlhhmlcjbohbaaGreatDoorHNk08
import Derived.Shelf.Slices.Empties2
import Derived.Lib.Join
import Derived.Lib.Repeat
import Derived.Sort.LoopGhostIn
set_option linter.all false
set_option maxRecDepth 100000
set_option maxHeartbeats 12800000
open Go.Value renaming int->O,pointer->A2,string->A9,slice->B1,ownBlock->B6,string->B7,tuple->C6
open Go.IntKind renaming i64->Q
open Go.Proofs.Tryz renaming prog->U,sizeOf3->C4,isAgg3->C5
open Option renaming none->V,some->X
open Go.RowKit renaming Below->Y,Hid->Ck,intOf->Cr
open Go renaming Value->Z,World->Ax,TypeId->B3,Calls->B4,undef->C7
open Go.Ending renaming returned->A0
open Bool renaming true->A5,false->B0
open Go.Obj renaming cells->Br
open Go.Lib renaming repeatL->Ce
open Go.Shelf renaming Ren->C2
namespace Go.Proofs.YtnlhhmlcjbohbaaGreatDoor
open Go.RowKit
def bgC(c k:Int):Bool:=decide ((k=1/\ba c=A5)\/((k=2\/k=3)/\bc c=A5)\/(k=4/\c=34))
def bgT(x:ByteArray)(k:Int):Bool:=decide (x.size<=(pJ k).size)&&(((pJ k).extract 0 x.size).toList==x.toList)
def bgL(x:ByteArray):List Int->Bool
 |[]=>B0
 |k::r=>if bgC (aq x 0) k=A5 then A5 else if bgT x k=A5 then A5 else bgL x r
def tJ(ks:List Int)(x:ByteArray):Bool:=if x.size=1/\aq x 0=45 then A5 else bgL x ks
structure ano (x:ByteArray) (ks:List Int) (R:Bool):Prop where
 out:bgL x ks=R
theorem Ko(w:Ax)(v:Z)(ks:List Int)(x:ByteArray)(h:dm w v ks)(a2:ks.length<=1000)(av:0<x.size)(bf:x.size<=70000):
  B4 U 87 #[v,B7 x] w fun e w'=>e= A0 (.bool (tJ ks x))/\Y w.heap.size w w':=by
 have G:=fun w=>db av w;rw[show(((0:Nat):Int))=0 from rfl]at G;obtain⟨a6,a8,rfl⟩:=h.form;unfold tJ;by_cases l:x.size=1/\aq x 0=45
 ·rw[ab l];rw[l.2]at G;have bh:=l.1;clear h l;go_in;go_wp2_with fail;go_ret;exact⟨rfl,ah _ _⟩
 ·rw[aa l];obtain⟨y,z⟩:=aA (bgL x ks);rw[z];obtain⟨r,F⟩:=aA ks.length;rw[F]at h a2⊢;have t:=dC h F;have af:ano x (ks.drop 0) y:=⟨z⟩;obtain⟨d,B⟩:=aA (aq x 0);have am:=aw B;rw[B]at G l;have a0:((x.size:Int)=1/\(d==45)=B0)\/((x.size:Int)==1)=B0:=by
   rcases Classical.em (x.size=1) with g|g
   ·exact .inl ⟨by omega,by rw[bH];exact fun e=>l ⟨g,e⟩⟩
   ·exact .inr (by rw[bH];omega)
  clear h F z B l;rcases a0 with⟨p1,p2⟩|p1;all_goals
   go_in;go_wp2_with fail;clear p1;try clear p2
   go_loopw [18] (fun ad wr=>∃f:Nat,f<=r/\ad= O Q f/\ano x (ks.drop f) y/\Y w.heap.size w wr) (fun ad _=>r-(Cr ad).toNat)
   case atStart=>exact⟨0,aF _,rfl,af,ah _ _⟩
   case round=>
    obtain⟨f,bb,rfl,u,s⟩:=hrel;clear af;have c:=u.out;by_cases a1:f<r
    ·have be:(f:Int)<(r:Int):=by omega
     have bd:(0:Int)<=(f:Int):=by omega
     obtain⟨a,E⟩:=co t.2 a1;obtain⟨a7,rfl,a9⟩:=(t.1.below s).get E;have C:=List.getElem?_eq_some_iff.1 E;rw[iH C.1,C.2,bgL,am.out]at c;have j:=aw s;clear E C u s;by_cases q:bgC d a=A5
     ·rw[ab q]at c;have k:=aw c;have o:=aG q;clear c q;rcases o with⟨rfl,b⟩|⟨rfl|rfl,b⟩|⟨rfl,rfl⟩
      ·go_wp2_with (go_at_call 52;refine(jF b _).mono ?_;rintro e w' ⟨rfl,p⟩;subst w');go_ret;exact⟨by rw[<-k.out];rfl,j⟩
      ·go_wp2_with (go_at_call 54;refine(ed b _).mono ?_;rintro e w' ⟨rfl,p⟩;subst w');go_ret;exact⟨by rw[<-k.out];rfl,j⟩
      ·go_wp2_with (go_at_call 54;refine(ed b _).mono ?_;rintro e w' ⟨rfl,p⟩;subst w');go_ret;exact⟨by rw[<-k.out];rfl,j⟩
      ·go_wp2_with fail;go_ret;exact⟨by rw[<-k.out];rfl,j⟩
     ·rw[aa q]at c;have o:¬((a=1/\ba d=A5)\/((a=2\/a=3)/\bc d=A5)\/(a=4/\d=34)):=fun i=>q (bv i);have ag:(a=1/\ba d=B0)\/(a=2/\bc d=B0)\/(a=3/\bc d=B0)\/(a=4/\(d==34)=B0)\/((a==1)=B0/\(a==2)=B0/\(a==3)=B0/\(a==4)=B0):=by
       by_cases H:a=1
       ·refine .inl ⟨H,?_⟩;cases i:ba d with
        |false=>rfl
        |true=>exact absurd (.inl ⟨H,i⟩) o
       by_cases I:a=2
       ·refine .inr (.inl ⟨I,?_⟩);cases i:bc d with
        |false=>rfl
        |true=>exact absurd (.inr (.inl ⟨.inl I,i⟩)) o
       by_cases J:a=3
       ·refine .inr (.inr (.inl ⟨J,?_⟩));cases i:bc d with
        |false=>rfl
        |true=>exact absurd (.inr (.inl ⟨.inr J,i⟩)) o
       by_cases K:a=4
       ·exact .inr (.inr (.inr (.inl ⟨K,beq_eq_false_iff_ne.2 fun i=>o (.inr (.inr ⟨K,i⟩))⟩)))
       ·exact .inr (.inr (.inr (.inr ⟨beq_eq_false_iff_ne.2 H,beq_eq_false_iff_ne.2 I,beq_eq_false_iff_ne.2 J,beq_eq_false_iff_ne.2 K⟩)))
      have L:=fun w=>xo a w;unfold bgT at c;generalize pJ a=m at L c;clear o q;by_cases n:(decide (x.size<=m.size)&&((m.extract 0 x.size).toList==x.toList))=A5
      ·rw[ab n]at c;have k:=aw c;rw[cd]at n;obtain⟨ak,a4⟩:=n;have t3:(x.size:Int)<=(m.size:Int):=by have:=aG ak;omega
       clear c ak;rcases ag with⟨rfl,b⟩|⟨rfl,b⟩|⟨rfl,b⟩|⟨rfl,b⟩|⟨an,ao,ap,ar⟩;all_goals
        go_wp2_with (first|(go_at_call 52;refine(jF b _).mono ?_;rintro e w' ⟨rfl,p⟩;subst w')|(go_at_call 54;refine(ed b _).mono ?_;rintro e w' ⟨rfl,p⟩;subst w')|(go_at_call 66;refine(L _).mono ?_;rintro e a5 ⟨rfl,A⟩));go_ret;exact⟨by rw[<-k.out];rfl,j.out.trans (A.mono j.size)⟩
      ·rw[aa n]at c;have al:ano x (ks.drop (f+1)) y:=⟨c⟩;clear c;have a3:(x.size:Int)<=(m.size:Int)/\((m.extract 0 x.size).toList==x.toList)=B0\/¬(x.size:Int)<=(m.size:Int):=by
        rcases aH m.size x.size with g|g
        ·exact .inr (by omega)
        ·refine .inl ⟨by omega,?_⟩;rw[bv g,fI]at n;simpa using n
       clear n;rcases a3 with⟨t3,a4⟩|t3;all_goals
        rcases ag with⟨rfl,b⟩|⟨rfl,b⟩|⟨rfl,b⟩|⟨rfl,b⟩|⟨an,ao,ap,ar⟩;all_goals
         go_wp2_with (first|(go_at_call 52;refine(jF b _).mono ?_;rintro e w' ⟨rfl,p⟩;subst w')|(go_at_call 54;refine(ed b _).mono ?_;rintro e w' ⟨rfl,p⟩;subst w')|(go_at_call 66;refine(L _).mono ?_;rintro e a5 ⟨rfl,A⟩));exact⟨⟨f+1,by omega,by go_num,al,j.out.trans (A.mono j.size)⟩,by simp[Cr];omega⟩
    ·obtain rfl:f=r:=by omega
     rw[ju (by rw[t.out.2];exact ae _),bgL]at c;have k:=aw c;clear c u;go_wp2_with fail;go_ret;exact⟨by rw[<-k.out];rfl,s⟩
def uI(s:ByteArray)(p n:Nat):Bool:=ba (aq s p)&&(!(ba (lk s (p+n)))&&!(bc (lk s (p+n))))
def wrL(s:ByteArray)(p:Nat)(ks:List Int):Nat->Nat->Nat
 |0,n=>n
 |f+1,n=>if p+n<s.size/\tJ ks (s.extract p (p+n+1))=A5 then(if uI s p (n+1)=A5 then n+1 else wrL s p ks f (n+1)) else n
def wrongF(s:ByteArray)(p:Nat)(ks:List Int):Nat:=p+wrL s p ks (s.size+1) 0
structure agz (s:ByteArray) (p:Nat) (ks:List Int) (f n R:Nat):Prop where
 out:wrL s p ks f n=R
theorem Bj(w:Ax)(s:ByteArray)(p:Nat)(v:Z)(ks:List Int)(h:dm w v ks)(K:ks.length<=1000)(bd:s.size<=70000)(a4:p<s.size):
  B4 U 50 #[B7 s,O Q p,v] w fun e w'=>e= A0 (O Q (wrongF s p ks))/\Y w.heap.size w w':=by
 have a5:=fun w=>db a4 w;obtain⟨H,I,rfl⟩:=h.form;unfold wrongF;obtain⟨j,u⟩:=aA (wrL s p ks (s.size+1) 0);rw[u];obtain⟨af,B⟩:=aA ks.length;have E:Ck (dm w (B1 H af I) ks/\ks.length<=1000):=⟨by rw[<-B];exact h,K⟩;have F:agz s p ks (s.size+1) 0 j:=⟨u⟩;rw[B];obtain⟨ao,A⟩:=aA (aq s p);have ak:=aw A;rw[A]at a5;have be:(p:Int)<(s.size:Int):=by omega
 clear h K u A B;go_in;go_wp2_with fail;go_loopw [7] (fun C wr=>∃(a d:Nat),p+a<=s.size/\s.size<p+a+d/\C= O Q a/\agz s p ks d a j/\Y w.heap.size w wr) (fun C _=>s.size+1-(Cr C).toNat)
 case atStart=>exact⟨0,s.size+1,by omega,by omega,rfl,F,ah _ _⟩
 case round=>
  obtain⟨a,d,a9,a8,rfl,n,k⟩:=hrel;clear F;obtain⟨d,rfl⟩:∃a0,d=a0+1:=⟨d-1,by omega⟩;have b:=n.out;rw[wrL]at b;by_cases L:p+a<s.size
  ·have a3:(p:Int)+(a:Int)<(s.size:Int):=by omega
   have bb:(0:Int)<=(p:Int)+(a:Int):=by omega
   have ad:(s.extract p (p+a+1)).size=a+1:=by rw[ik];omega
   have l:=fun (G:Ax) (a1:Y w.heap.size w G)=>Ko G (B1 H af I) ks (s.extract p (p+a+1)) (E.1.below a1) E.2 (by omega) (by omega);have ap:(p:Int)+(a:Int)+1<=(s.size:Int):=by omega
   have ar:IntKind.i64.wrap ((p:Int)+(a:Int)+1)=(p:Int)+(a:Int)+1:=by rw[di];omega
   have av:((p:Int)+(a:Int)+1).toNat=p+a+1:=by omega
   have c:=aw k;obtain⟨ag,t⟩:=aA (tJ ks (s.extract p (p+a+1)));rw[t]at l b;have a2:=c.out;cases ag with
   |false=>
    rw[aa (fun h=>by cases h.2)]at b;have f:=aw b;clear b n k t ad;go_wp2_with fail;refine cJ (l _ c) fun a6 g=>?_;clear l;go_wp2_with fail;go_ret;exact⟨by first|(rw[<-f.out,yp];rfl)|(rw[<-f.out];rfl),c.out.trans (g.mono c.size)⟩
   |true=>
    rw[ab ⟨L,rfl⟩]at b;unfold uI at b;rw[ak.out]at b;have m:=fun w=>gK s (by omega) ((p:Int)+((a:Int)+1)) (p+(a+1)) (by omega) w;generalize lk s (p+(a+1))=J at m b;obtain⟨al,x⟩:=aA (ba ao);obtain⟨am,y⟩:=aA (ba J);obtain⟨an,z⟩:=aA (bc J);rw[x,y,z]at b;have q:=fun w=>jF x w;have r:=fun w=>jF y w;have o:=fun w=>ed z w;have a7:=aw k;clear x y z n k t ad a2;go_wp2_with fail;refine cJ (l _ c) fun a6 g=>?_;clear l ap ar av;cases al with
    |false=>
     have i:agz s p ks d (a+1) j:=⟨b⟩;clear b r o m;go_wp2_with (first|(go_at_call 52;with_reducible refine eH (q _) ?_));exact⟨⟨a+1,d,by omega,by omega,by go_num,i,c.out.trans (g.mono c.size)⟩,by simp[Cr];omega⟩
    |true=>
     cases am with
     |true=>
      have i:agz s p ks d (a+1) j:=⟨b⟩;clear b o;go_wp2_with (first|(go_at_call 52;with_reducible refine eH (q _) ?_)|(go_at_call 52;with_reducible refine eH (r _) ?_)|(go_at_call 51;refine eH (m _) ?_));exact⟨⟨a+1,d,by omega,by omega,by go_num,i,c.out.trans (g.mono c.size)⟩,by simp[Cr];omega⟩
     |false=>
      cases an with
      |true=>
       have i:agz s p ks d (a+1) j:=⟨b⟩;clear b;go_wp2_with (first|(go_at_call 52;with_reducible refine eH (q _) ?_)|(go_at_call 52;with_reducible refine eH (r _) ?_)|(go_at_call 54;refine eH (o _) ?_)|(go_at_call 51;refine eH (m _) ?_));exact⟨⟨a+1,d,by omega,by omega,by go_num,i,c.out.trans (g.mono c.size)⟩,by simp[Cr];omega⟩
      |false=>
       have f:=aw b;clear b;go_wp2_with (first|(go_at_call 52;with_reducible refine eH (q _) ?_)|(go_at_call 52;with_reducible refine eH (r _) ?_)|(go_at_call 54;refine eH (o _) ?_)|(go_at_call 51;refine eH (m _) ?_));go_ret;exact⟨by first|(rw[<-f.out,yp,yp];rfl)|(rw[<-f.out,yp];rfl)|(rw[<-f.out];rfl),c.out.trans (g.mono c.size)⟩
  ·rw[aa (fun h=>L h.1)]at b;have f:=aw b;have a3:¬(p:Int)+(a:Int)<(s.size:Int):=by omega
   clear b n;go_wp2_with fail;go_ret;exact⟨by first|(rw[<-f.out,yp];rfl)|(rw[<-f.out];rfl),k⟩
open Go.Maps Go.WideMaps
def uq(c:Int):Bool:=ba c||bc c
theorem ib(a b:ByteArray)(i:Nat):aq (a++b) i=if i<a.size then aq a i else aq b (i-a.size):=by
 have e:(a++b).data.toList=a.data.toList++b.data.toList:=by rw[oa,Cg]
 have f:a.data.toList.length=a.size:=eK;rw[qd,e];split<;>rename_i c
 all_goals
  by_cases d:i<a.size
  ·rw[ab d,qd];rw[ia (by omega)]at c;rw[c]
  ·rw[aa d,qd];rw[fy (by omega),f]at c;rw[c]
theorem Dt(s:ByteArray)(n i:Nat)(c:n<=s.size)(b:i<n):aq (s.extract 0 n) i=aq s i:=by
 rw[qd,qd];have a:(s.extract 0 n).data.toList=(s.data.toList.drop 0).take (n-0):=by rw[<-fC,Lib.extract_toList]
 rw[a,jy,pi,mu,ab b]
def opn(k:Int):Bool:=decide (k=46\/k=47\/k=40\/k=44\/k=10\/k=25\/60<k)
attribute [local go_sem] kH
theorem Tryz.info49:(Tryz.prog.info? 49).map (fun i=>(i.zero,i.size,i.bytes))=X (X (.agg #[O Q 0,O Q 0,O Q 0,O Q 0,O Q 0,B7 ⟨#[]⟩]),6,56):=by kernel_rfl
open Go.Shelf
attribute [local go_sem] kH
theorem agA{w:Ax}{base b e size:Nat}{v:Z}{n:Nat}{c:List Z}(h:w.ownsRow base e size v n c)(j:b<=base):w.ownsRow b e size v n c:=by
 obtain⟨i,a⟩:=h;refine⟨i,?_⟩;rcases a with a|⟨g,d,f,l,k,m⟩
 ·exact .inl a
 ·exact .inr ⟨g,d,f,l,bg j k,m⟩
end Go.Proofs.YtnlhhmlcjbohbaaGreatDoor
namespace Go.Proofs.YtnlhhmlcjbohbaaGreatDoor
open Go.RowKit Go.Maps Go.WideMaps
def Kr:Array Z:=#[O Q 26,O Q 1,O Q 2,O Q 10,O Q 2,O Q 3,O Q 73,O Q 3,O Q 4,O Q 74,O Q 3,O Q 4,O Q 75,O Q 3,O Q 4,O Q 76,O Q 3,O Q 4,O Q 77,O Q 3,O Q 4,O Q 78,O Q 3,O Q 4,
 O Q 72,O Q 4,O Q 4,O Q 68,O Q 5,O Q 6,O Q 69,O Q 6,O Q 7,O Q 67,O Q 7,O Q 8,O Q 70,O Q 8,O Q 9,O Q 71,O Q 8,O Q 9,O Q 61,O Q 9,O Q 10,O Q 62,O Q 9,O Q 10,
 O Q 63,O Q 10,O Q 11,O Q 64,O Q 10,O Q 11,O Q 65,O Q 10,O Q 11,O Q 66,O Q 10,O Q 11]
def uh:List Int:=[26,10,73,74,75,76,77,78,72,68,69,67,70,71,61,62,63,64,65,66]
def ui(k:Nat):Int:=match Kr.getD k (O Q 0) with| .int _ a=>a|_=>0
theorem amf(k:Nat)(a:k<20)(w:Ax):(Instr.index 197 (.agg Kr) (O Q (k:Int))).run U w= .ok (.agg #[O Q (uh.getD k 0),O Q (ui (3*k+1)),O Q (ui (3*k+2))]) w:=by
 rcases(show k=0\/k=1\/k=2\/k=3\/k=4\/k=5\/k=6\/k=7\/k=8\/k=9\/k=10\/k=11\/k=12\/k=13\/k=14\/k=15\/k=16\/k=17\/k=18\/k=19 by omega) with rfl|rfl|rfl|rfl|rfl|rfl|rfl|rfl|rfl|rfl|rfl|rfl|rfl|rfl|rfl|rfl|rfl|rfl|rfl|rfl;all_goals kernel_rfl
theorem Du{fn:Func}{p q:Tmp}{u:B3}(h:fn.results=#[.cell q u,.tmp p])(tmps:Array Z)(P:Program)(w:Ax)(a:Addr)(v b:Z)(d:tmps.getD p C7=v)(f:tmps.getD q C7= A2 (X a))
  (c:(loadVar u a).run P w= .ok b w):(results fn tmps).run P w= .ok (C6 #[b,v]) w:=by
 have e:tmps[p]?.getD C7=v:=by simpa using d
 have g:tmps[q]?.getD C7= A2 (X a):=by simpa using f
 simp only[results,h];simp[Result.andThen,e,g,asAddr,c]
def mI(b:Nat)(W:Ax)(x y z:Int):Prop:=W.heap[b]?=X (Br #[O Q x,O Q y,O Q z] 196 (0,0))
theorem acC(w:Ax)(b:Nat)(x y z:Int)(h:mI b w x y z):(loadVar 196 ⟨b,0,V⟩).run U w= .ok (.agg #[.int .i64 x,.int .i64 y,.int .i64 z]) w:=
 Gv w b 196 196 _ _ _ h Tryz.underlying196 rfl (by kernel_rfl)
theorem mI.put{b:Nat}{W:Ax}{x y z:Int}(h:mI b W x y z)(a c d:Int):mI b (((W.setCell ⟨b,0,V⟩ (O Q a)).setCell ⟨b,1,V⟩ (O Q c)).setCell ⟨b,2,V⟩ (O Q d)) a c d:=
 aL _ b 2 _ _ _ (aL _ b 1 _ _ _ (aL _ b 0 _ _ _ h))
theorem mI.cells{b:Nat}{W:Ax}{x y z:Int}(h:mI b W x y z):W.cell? ⟨b,0,V⟩=X (O Q x)/\W.cell? ⟨b,1,V⟩=X (O Q y)/\W.cell? ⟨b,2,V⟩=X (O Q z)/\∀j,W.frozen? ⟨b,j,V⟩=B0:=by
 unfold mI at h;exact⟨by rw[au _ _ _ _ _ _ h];rfl,by rw[au _ _ _ _ _ _ h];rfl,by rw[au _ _ _ _ _ _ h];rfl,fun j=>bI _ _ _ _ _ h⟩
theorem aaK(w:Ax)(y:B3)(fr:Nat×Nat)(t:w.heap[1]?=X (.cells Kr y fr))(j:Nat)(ad:j<20)(kind:Int)(h:uh.getD j 0=kind)(x:∀i,i<j->uh.getD i 0≠kind):
  B4 U 210 #[.int .i64 kind] w fun e w'=>e= .returned (.tuple #[.agg #[.int .i64 kind,.int .i64 (ui (3*j+1)),.int .i64 (ui (3*j+2))],.bool A5])/\Y w.heap.size w w':=by
 have E:=ai t;have u:∀a,Y w.heap.size w (w.alloc a):=fun a=>(ah _ w).alloc (ae _) a;have q:mI w.heap.size (w.alloc (.cells #[.int .i64 0,.int .i64 0,.int .i64 0] 196)) 0 0 0:=ay w _;have z:Ck (mI w.heap.size (w.alloc (.cells #[.int .i64 0,.int .i64 0,.int .i64 0] 196)) 0 0 0/\Y w.heap.size w (w.alloc (.cells #[.int .i64 0,.int .i64 0,.int .i64 0] 196))):=⟨q,u _⟩;have A:=aw x;have B:=aw h;clear x h q;go_in;go_wp2_with (refine vE rfl 197 _ rfl 1 rfl y _ fr _ (((u _).block _ E).trans t) Tryz.underlying197 rfl (by kernel_rfl) ?_);go_loopw [7] (fun p wr=>∃b:Nat,b<=j/\p= .int .i64 b/\Ck (mI w.heap.size wr 0 0 0/\Y w.heap.size w wr)) (fun p _=>20-(Cr p).toNat)
 case atStart=>exact⟨0,by omega,rfl,z⟩
 case round=>
  obtain⟨b,h,rfl,f⟩:=hrel;have F:b<20:=by omega
  have g:=fun w=>amf b F w;have H:=ai f.1;obtain⟨I,J,K,L⟩:=f.1.cells;have v:∀a,Y wr.heap.size wr (wr.alloc a):=fun a=>(ah _ wr).alloc (ae _) a;rcases jj h with rfl|hlt
  ·rw[B.out]at g;obtain⟨c,m⟩:=aA (ui (3*b+1));obtain⟨d,n⟩:=aA (ui (3*b+2));rw[m,n]at g;have s:=dC m n;clear m n;have o:=mI.put f.1 kind c d;have k:Y w.heap.size w (((wr.setCell ⟨w.heap.size,0,V⟩ (.int .i64 kind)).setCell ⟨w.heap.size,1,V⟩ (.int .i64 c)).setCell ⟨w.heap.size,2,V⟩ (.int .i64 d)):=((f.2.setCell (ae _) _).setCell (ae _) _).setCell (ae _) _;have l:∀a,Y (((wr.setCell ⟨w.heap.size,0,V⟩ (.int .i64 kind)).setCell ⟨w.heap.size,1,V⟩ (.int .i64 c)).setCell ⟨w.heap.size,2,V⟩ (.int .i64 d)).heap.size (((wr.setCell ⟨w.heap.size,0,V⟩ (.int .i64 kind)).setCell ⟨w.heap.size,1,V⟩ (.int .i64 c)).setCell ⟨w.heap.size,2,V⟩ (.int .i64 d)) ((((wr.setCell ⟨w.heap.size,0,V⟩ (.int .i64 kind)).setCell ⟨w.heap.size,1,V⟩ (.int .i64 c)).setCell ⟨w.heap.size,2,V⟩ (.int .i64 d)).alloc a):=fun a=>(ah _ _).alloc (ae _) a;have r:Ck ((∀a,mI w.heap.size ((((wr.setCell ⟨w.heap.size,0,V⟩ (.int .i64 kind)).setCell ⟨w.heap.size,1,V⟩ (.int .i64 c)).setCell ⟨w.heap.size,2,V⟩ (.int .i64 d)).alloc a) kind c d)/\(∀a,Y w.heap.size w ((((wr.setCell ⟨w.heap.size,0,V⟩ (.int .i64 kind)).setCell ⟨w.heap.size,1,V⟩ (.int .i64 c)).setCell ⟨w.heap.size,2,V⟩ (.int .i64 d)).alloc a))):=⟨fun a=>((l a).block _ (ai o)).trans o,fun a=>k.trans ((l a).mono k.size)⟩;clear o k l;go_wp21
   exact aI (Du rfl _ _ _ ⟨w.heap.size,0,V⟩ (.bool A5) _ rfl rfl (acC _ _ _ _ _ (r.1 _))) rfl ⟨by rw[s.out.1,s.out.2],r.2 _⟩
  ·have G:=A.out b hlt;generalize ui (3*b+1)=c at g;generalize ui (3*b+2)=d at g;generalize uh.getD b 0=af at g G;have C:Ck (∀a,mI w.heap.size (wr.alloc a) 0 0 0/\Y w.heap.size w (wr.alloc a)):=fun a=>⟨((v a).block _ H).trans f.1,f.2.trans ((v a).mono f.2.size)⟩;go_wp21
   exact⟨⟨b+1,by omega,by go_num,C _⟩,by simp[Cr];omega⟩
structure Pp (E:Pe) (w:Ax) (i:Nat):Prop where
 hn:E.n<=1048576
 tks:∃cs fr,w.heap[E.tb]?=X (.cells cs 49 fr)/\TkR cs E.tk E.n
 row:w.heap[E.pb]?=X (.cells #[.slice (X ⟨E.tb,0,V⟩) E.n E.cap,.int .i64 i] 69 (0,0))
 pg:1<E.pb
 pw:∃tt fr,w.heap[1]?=X (.cells Kr tt fr)
def Rv(w:Ax)(lo:Nat)(c:Option Nat)(t:B3)(v:Z)(b:List Z):Prop:=w.ownsRow lo t 1 v b.length b/\∀a,v.ownBlock=X a->c≠X a
def tK(w:Ax)(lo:Nat)(a:Option Nat):Fo->List Z->List Nat->Prop
 | .nil,vs,c=>vs=[]/\c=[]
 | .cons N k r,vs,c=>∃b g vn vk kv f d e,(vs=fl N.k b::f/\c=vn.ownBlock.toList++(d++e))/\(lo<=b/\a≠X b/\gy w b N vn g vk/\ny N (ez N.k)=N)/\Rv w lo a 9 vn (N.nm.map A9)/\Rv w lo a 72 vk kv/\tK w lo a k kv d/\tK w lo a r f e
def Bk(w:Ax)(lo:Nat)(c:Option Nat)(a:Fo)(d:List Z):Prop:=∃b,tK w lo c a d b
def mB(a:List (Z×List ByteArray)):List Nat:=a.flatMap fun b=>b.1.ownBlock.toList
theorem nd3{a b c:List Nat}{n:Nat}(h:(a++c).Nodup)(k:b.Nodup)(f:∀x∈a++c,x<n)(g:∀x∈b,n<=x):((a++b)++c).Nodup:=by
 rw[od]at h;obtain⟨j,l,m⟩:=h;have o:∀x∈a,∀d∈b,x≠d:=fun x hx d e i=>by have:=f x (List.mem_append_left _ hx);have:=g d e;omega
 have p:∀x∈b,∀d∈c,x≠d:=fun x hx d e i=>by have:=f d (Gu _ e);have:=g x hx;omega
 rw[od,od];refine⟨⟨j,k,o⟩,l,fun x hx d e=>?_⟩;rcases List.mem_append.1 hx with hx|hx
 ·exact m x hx d e
 ·exact p x hx d e
theorem Id(o:Option Nat):o.toList.Nodup:=by cases o<;>simp
section
variable {w w' : World} {lo lo' : Nat} {ex ex' : Option Nat}
theorem Rv.mono{t:B3}{v:Z}{e:List Z}(o:Rv w lo ex t v e)(h:∀k,lo<=k->ex≠X k->k<w.heap.size->w'.heap[k]?=w.heap[k]?/\lo'<=k/\ex'≠X k):Rv w' lo' ex' t v e:=
 ⟨lA o.1 (fun a b c d=>⟨(h a c (o.2 a b) d).1,(h a c (o.2 a b) d).2.1⟩),fun a b=>(h a (o.1.lt a b).1 (o.2 a b) (o.1.lt a b).2).2.2⟩
theorem tK.mono(h:∀k,lo<=k->ex≠X k->k<w.heap.size->w'.heap[k]?=w.heap[k]?/\lo'<=k/\ex'≠X k):∀(R:Fo)(vs:List Z)(a:List Nat),tK w lo ex R vs a->tK w' lo' ex' R vs a
 | .nil,vs,a,q=>q
 | .cons N k r,vs,a,⟨b,p,vn,vk,kv,i,f,g,e,⟨j,l,d,m⟩,o,n,s,t⟩=>by
  have c:=h b j l (ai d);exact⟨b,p,vn,vk,kv,i,f,g,e,⟨c.2.1,c.2.2,c.1.trans d,m⟩,o.mono h,n.mono h,tK.mono h k kv f s,tK.mono h r i g t⟩
theorem tK.app:∀(R:Fo)(vs:List Z)(a:List Nat){S:Fo}{us:List Z}{cs:List Nat},tK w lo ex R vs a->tK w lo ex S us cs->tK w lo ex (R.app S) (vs++us) (a++cs)
 | .nil,vs,a,S,us,cs,q,p=>by obtain⟨rfl,rfl⟩:=q;exact p
 | .cons t u o,vs,a,S,us,cs,⟨d,l,s,r,j,c,f,b,⟨g,h⟩,e,k,i,m,n⟩,p=>⟨d,l,s,r,j,c++us,f,b++cs,⟨by rw[g];rfl,by rw[h];simp only[cH]⟩,e,k,i,m,tK.app o c b n p⟩
theorem tK.lt:∀(R:Fo)(vs:List Z)(a:List Nat),tK w lo ex R vs a->∀g∈a,lo<=g/\g<w.heap.size
 | .nil,vs,a,q=>by obtain⟨rfl,rfl⟩:=q;intro g hg;cases hg
 | .cons m e k,vs,a,⟨n,s,u,t,f,l,b,c,⟨p,d⟩,o,h,r,i,j⟩=>by
  intro g hg;rw[d]at hg;rcases List.mem_append.1 hg with hg|hg
  ·exact h.1.lt g (by simpa using hg)
  rcases List.mem_append.1 hg with hg|hg
  ·exact tK.lt e f b i g hg
  ·exact tK.lt k l c j g hg
theorem Bk.len:∀(R:Fo)(vs:List Z),Bk w lo ex R vs->vs.length=R.len
 | .nil,vs,⟨b,q⟩=>by obtain⟨rfl,rfl⟩:=q;rfl
 | .cons g k e,vs,⟨b,h,o,s,r,m,f,j,a,c,i,n,l,p,d⟩=>by rw[c.1,bi,Bk.len e f ⟨a,d⟩];rfl
end
abbrev Bxs:=List (Nat×B3×Array Z)
abbrev tkB(b:Nat)(t:Tk):Nat×B3×Array Z:=(b,49,mj t.k t)
structure Sw (E:Pe) (W w:Ax) (i:Nat) (kv:Z) (kn:List Z) (D:Fo) (vs:List Z) (T:Bxs) (M:List (Z×List ByteArray)):Prop where
 pp:Pp E w i
 gr:W.grownBy w (X E.pb)
 lt:E.pb<W.heap.size
 ro:w.ownsRow W.heap.size 72 1 kv kn.length kn
 nb:∃bs,tK w W.heap.size kv.ownBlock D vs bs/\(bs++mB M).Nodup
 tb:∀p∈T,W.heap.size<=p.1/\(p.2.1≠72/\p.2.1≠9)/\w.heap[p.1]?=X (.cells p.2.2 p.2.1 (0,0))
 nm:∀p∈M,w.ownsRow W.heap.size 9 1 p.1 (p.2.map A9).length (p.2.map A9)
section
variable {E : Pe} {W w w' : World} {i j : Nat} {kv v : Value} {kn vs us ws : List Value} {D R : Fo} {T : Bxs} {M : List (Value × List ByteArray)}
theorem Sw.nn(h:Sw E W w i kv kn D vs T M):Bk w W.heap.size kv.ownBlock D vs:=h.nb.elim fun a b=>⟨a,b.1⟩
theorem agB(nm:∀p∈M,w.ownsRow W.heap.size 9 1 p.1 (p.2.map A9).length (p.2.map A9)):∀g∈mB M,g<w.heap.size:=fun g a=>by
 obtain⟨p,b,a⟩:=List.mem_flatMap.1 a;exact((nm p b).lt g (by simpa using a)).2
theorem Pp.lt(h:Pp E w i):E.pb<w.heap.size:=ai h.row
theorem Pp.keep(h:Pp E w i)(g:w.grownBy w' V):Pp E w' i:=by
 obtain⟨c,e,a,f⟩:=h.tks;obtain⟨j,d,b⟩:=h.pw;exact⟨h.hn,⟨c,e,(g.block _ (ai a) (by simp)).trans a,f⟩,(g.block _ h.lt (by simp)).trans h.row,h.pg,j,d,(g.block _ (ai b) (by simp)).trans b⟩
theorem Sw.start(h:Pp E w i):Ck (Sw E w w i s0 [] .nil [] [] []):=⟨h,uB _ _,h.lt,cE _ _ _ _,⟨[],⟨rfl,rfl⟩,Gx⟩,fun b a=>(by cases a),fun b a=>(by cases a)⟩
theorem Sw.step(h:Sw E W w i kv kn D vs T M)(g:w.grownBy w' (X E.pb))(p:Pp E w' j):Sw E W w' j kv kn D vs T M:=by
 have e:∀b,W.heap.size<=b->b<w.heap.size->w'.heap[b]?=w.heap[b]?:=fun b a c=>g.block b c (fun e=>by have:=h.lt;cases e;omega);obtain⟨f,l,m⟩:=h.nb;exact⟨p,h.gr.trans g,h.lt,lA h.ro (fun g _ a c=>⟨e g a c,a⟩),⟨f,tK.mono (fun b a c k=>⟨e b a k,a,c⟩) _ _ _ l,m⟩,fun p d=>⟨(h.tb p d).1,(h.tb p d).2.1,(e _ (h.tb p d).1 (ai (h.tb p d).2.2)).trans (h.tb p d).2.2⟩,fun p d=>lA (h.nm p d) (fun g _ a c=>⟨e g a c,a⟩)⟩
theorem rE(b:Y w.heap.size w w')(q:Option Nat):w.grownBy w' q:=⟨b.os,b.tape,b.output,b.size,fun c a _=>b.block c a⟩
theorem sX(h:Ck (Sw E W w i kv kn D vs T M))(q:Pp E w' j/\w.grownBy w' (X E.pb)):Ck (Sw E W w' j kv kn D vs T M):=h.step q.2 q.1
theorem sB(h:Ck (Sw E W w i kv kn D vs T M))(b:Y w.heap.size w w'):Ck (Sw E W w' i kv kn D vs T M):=h.step (rE b _) (h.pp.keep (rE b _))
theorem Sw.sub(h:Sw E W w i kv kn D vs T M)(s:Sw E w w' j v us R ws [] []):Sw E W w' j kv kn (D.app R) (vs++ws) T M:=by
 have b:=h.step s.gr s.pp;have x:=h.gr.size;obtain⟨u,y,z⟩:=b.nb;obtain⟨o,l,q⟩:=h.nb;obtain⟨p,m,t⟩:=s.nb;obtain⟨c,r,p2⟩:∃c,tK w' W.heap.size kv.ownBlock D vs c/\(c++mB M).Nodup/\∀a∈c,a<w.heap.size:=⟨o,tK.mono (w:=w) (fun e f g k=>⟨s.gr.block e k (fun d=>by have:=h.lt;cases d;omega),f,g⟩) _ _ _ l,q,fun a hx=>(l.lt _ _ _ a hx).2⟩;refine⟨b.pp,b.gr,b.lt,b.ro,⟨c++p,tK.app _ _ _ r (tK.mono (fun e f g k=>⟨rfl,by omega,fun d=>?_⟩) _ _ _ m),nd3 (n:=w.heap.size) p2.1 (by simpa [mB] using t) (fun a hx=>?_) (fun a hx=>(m.lt _ _ _ a hx).1)⟩,b.tb,b.nm⟩
 ·have:=(h.ro.lt e d).2;omega
 ·rcases List.mem_append.1 hx with hx|hx
  ·exact p2.2 a hx
  ·exact agB h.nm a hx
theorem Sw.subL(h:Sw E W w i s0 [] D vs T M)(s:Sw E w w' j v us R ws [] []):Sw E W w' j v us (D.app R) (vs++ws) T M:=by
 have a:=h.step s.gr s.pp;have p:=h.gr.size;obtain⟨m,k,q⟩:=h.nb;obtain⟨o,l,r⟩:=s.nb;refine⟨a.pp,a.gr,a.lt,mL s.ro p,⟨m++o,tK.app _ _ _ (tK.mono (w:=w) (fun d e f g=>⟨s.gr.block d g (fun c=>by have:=h.lt;cases c;omega),e,fun c=>?_⟩) _ _ _ k) (tK.mono (fun d e f g=>⟨rfl,by omega,f⟩) _ _ _ l),nd3 (n:=w.heap.size) q (by simpa [mB] using r) (fun b hx=>?_) (fun b hx=>(l.lt _ _ _ b hx).1)⟩,a.tb,a.nm⟩
 ·have:=(s.ro.lt d c).1;omega
 ·rcases List.mem_append.1 hx with hx|hx
  ·exact(k.lt _ _ _ b hx).2
  ·exact agB h.nm b hx
theorem Sw.box(h:Sw E W w i kv kn D vs T M)(t:Tk):Sw E W (w.alloc (Br (mj t.k t) 49)) i kv kn D vs (tkB w.heap.size t::T) M:=by
 have a:=sB (w:=w) h (bG w (Br (mj t.k t) 49));refine⟨a.pp,a.gr,a.out.lt,a.ro,a.nb,fun b hp=>?_,a.nm⟩;rcases List.mem_cons.1 hp with rfl|hp
 ·exact⟨h.gr.size,⟨show 49≠72 by decide,show 49≠9 by decide⟩,ay w _⟩
 ·exact a.tb b hp
theorem Sw.lit(h:Sw E W w i s0 [] D vs T M)(us:List Z)(m:us.length<=100):Sw E W (w.alloc (Br us.toArray 72)) i (B1 (X ⟨w.heap.size,0,V⟩) us.length us.length) us D vs T M:=by
 have a:=sB (w:=w) h (bG w (Br us.toArray 72));have k:=lC (base:=W.heap.size) (e:=72) (size:=1) w us.toArray us.length h.gr.size (by unfold maxLen;omega) (by simp);obtain⟨c,g,j⟩:=h.nb;refine⟨a.pp,a.gr,a.out.lt,by simpa using k,⟨c,tK.mono (w:=w) (fun b d l f=>⟨(bG w _).block b f,d,fun e=>?_⟩) _ _ _ g,j⟩,a.tb,a.nm⟩;have:w.heap.size=b:=by simpa [B6] using e
 omega
theorem Sw.put(h:Sw E W w i kv kn D vs T M)(o:w'.ownsRow W.heap.size 72 1 v us.length us)(g:w.grownBy w' kv.ownBlock)(C:v.ownBlock=kv.ownBlock\/v.ownBlock=X w.heap.size):Sw E W w' i v us D vs T M:=by
 have b:∀a,a<w.heap.size->kv.ownBlock≠X a->w'.heap[a]?=w.heap[a]?:=fun a p l=>g.block a p (fun b=>l b.symm);have t:∀a,kv.ownBlock=X a->W.heap.size<=a:=fun a c=>(h.ro.lt a c).1;have j:∀{a:Nat}{f:Array Z}{r:B3}{k:Nat×Nat},w.heap[a]?=X (Br f r k)->r≠72->w'.heap[a]?=X (Br f r k):=fun c H=>(b _ (ai c) (ll h.ro c H)).trans c;obtain⟨f,k,L,ad⟩:=h.pp.tks;obtain⟨x,J,K⟩:=h.nb;obtain⟨ak,A,u⟩:=h.pp.pw;have af:=(b _ (ai u) (fun b=>by have:=t _ b;have:=h.lt;have:=h.pp.pg;omega)).trans u;refine⟨⟨h.pp.hn,⟨f,k,j L (by decide),ad⟩,j h.pp.row (by decide),h.pp.pg,ak,A,af⟩,h.gr.andThen g (fun a c=> .inl (t a c)),h.lt,o,⟨x,tK.mono (w:=w) (fun a p l s=>⟨b a s l,p,fun m=>?_⟩) _ _ _ J,K⟩,fun e d=>⟨(h.tb e d).1,(h.tb e d).2.1,j (h.tb e d).2.2 (h.tb e d).2.1.1⟩,fun e d=>?_⟩
 ·rcases C with q|q
  ·exact l (q ▸ m)
  ·rw[q]at m;cases m;exact Gz _ s
 ·have q:=h.nm e d;obtain⟨B,n⟩:=q;refine⟨B,?_⟩;rcases n with n|⟨g,y,z,I,G,F,ag⟩
  ·exact .inl n
  ·exact .inr ⟨g,y,z,I,G,j F (by decide),ag⟩
theorem Sw.name(h:Sw E W w i kv kn D vs T M)(q:Pp E w' j/\w.grownBy w' (X E.pb)){ns:List ByteArray}(o:w'.ownsRow w.heap.size 9 1 v (ns.map A9).length (ns.map A9)):Sw E W w' j kv kn D vs T ((v,ns)::M):=by
 have a:=h.step q.2 q.1;obtain⟨c,d,m⟩:=h.nb;refine⟨a.pp,a.gr,a.lt,a.ro,⟨c,tK.mono (w:=w) (fun l f g k=>⟨q.2.block l k (fun e=>by have:=h.lt;cases e;omega),f,g⟩) _ _ _ d,?_⟩,a.tb,fun p hp=>?_⟩
 ·show(c++(v.ownBlock.toList++mB M)).Nodup;rw[<-cH];refine nd3 (n:=w.heap.size) m (Id _) (fun b hx=>?_) (fun b hx=>(o.lt b (by simpa using hx)).1);rcases List.mem_append.1 hx with hx|hx
  ·exact(d.lt _ _ _ b hx).2
  ·exact agB h.nm b hx
 rcases List.mem_cons.1 hp with rfl|hp
 ·exact mL o h.gr.size
 ·exact a.nm p hp
theorem Sw.fin0(h:Sw E W w i kv vs D vs T M)(N:Nd)(vn:Z)(j:ny N (ez N.k)=N)(o:w.ownsRow W.heap.size 9 1 vn (N.nm.map A9).length (N.nm.map A9))(cs:Array Z)(m:cs=([O Q N.k,O Q N.f,O Q N.t,O Q N.l,O Q 0,kv]++exT N vn (ez N.k)).toArray)(st:B3)(r:st=wu (ez N.k)){M':List (Z×List ByteArray)}(g:∀p∈M',p∈M)(n:∀b,(b++mB M).Nodup->((vn.ownBlock.toList++(b++[]))++mB M').Nodup):Sw E W (w.alloc (Br cs st)) i s0 [] (one N D) [fl N.k w.heap.size] T M':=by
 subst m r;have a:=sB (w:=w) h (bG w (Br ([O Q N.k,O Q N.f,O Q N.t,O Q N.l,O Q 0,kv]++exT N vn (ez N.k)).toArray (wu (ez N.k))));have c:=bG w (Br ([O Q N.k,O Q N.f,O Q N.t,O Q N.l,O Q 0,kv]++exT N vn (ez N.k)).toArray (wu (ez N.k)));obtain⟨b,s,u⟩:=a.nb;exact⟨a.pp,a.gr,a.out.lt,cE _ _ _ _,⟨_,⟨w.heap.size,0,vn,kv,vs,[],b,[],⟨rfl,rfl⟩,⟨h.gr.size,by simp[B6],ay w _,j⟩,⟨bJ o c,fun d _=>by simp[B6]⟩,⟨a.ro,fun d _=>by simp[B6]⟩,tK.mono (fun k e v x=>⟨rfl,e,by simp[B6]⟩) _ _ _ s,rfl,rfl⟩,n b u⟩,a.tb,fun p q=>a.nm p (g p q)⟩
theorem Sw.drop(h:Sw E W w i kv kn D vs T M){b:Bxs}{M':List (Z×List ByteArray)}(d:∀p∈b,p∈T)(g:M'=M\/M'=[]):Sw E W w i kv kn D vs b M':=by
 obtain⟨c,e,f⟩:=h.nb;rcases g with rfl|rfl
 ·exact⟨h.pp,h.gr,h.lt,h.ro,⟨c,e,f⟩,fun p a=>h.tb p (d p a),h.nm⟩
 ·exact⟨h.pp,h.gr,h.lt,h.ro,⟨c,e,by rw[show mB []=[] from rfl,eo];exact(List.nodup_append.1 f).1⟩,fun p a=>h.tb p (d p a),fun p a=>(by cases a)⟩
theorem Sw.boxg(h:Sw E W w i kv kn D vs T M)(cs:Array Z)(t:B3)(b:t≠72)(c:t≠9):Sw E W (w.alloc (Br cs t)) i kv kn D vs ((w.heap.size,t,cs)::T) M:=by
 have a:=sB (w:=w) h (bG w (Br cs t));refine⟨a.pp,a.gr,a.out.lt,a.ro,a.nb,fun d hp=>?_,a.nm⟩;rcases List.mem_cons.1 hp with rfl|hp
 ·exact⟨h.gr.size,⟨b,c⟩,ay w _⟩
 ·exact a.tb d hp
end
def CN(a:Pe)(f:FuncId)(args:Array Z)(i:Nat)(b:Fo)(j:Nat):Prop:=
 ∀w,Pp a w i->b.sz<=50000000->B4 U f args w fun c w'=>∃v,c= A0 v/\Ck (Sw a w w' j s0 [] b [v] [] [])
def CR(a:Pe)(f:FuncId)(args:Array Z)(i:Nat)(b:Fo)(j:Nat):Prop:=
 ∀w,Pp a w i->b.sz<=50000000->B4 U f args w fun c w'=>∃v vs,c= A0 v/\Ck (Sw a w w' j v vs b vs [] [])
theorem aaL(w:Ax)(n:B3)(fr:Nat×Nat)(g:w.heap[1]?=X (.cells Kr n fr))(kind:Int)(k:∀i,i<20->uh.getD i 0≠kind):
  B4 U 210 #[.int .i64 kind] w fun e w'=>e= .returned (.tuple #[.agg #[.int .i64 0,.int .i64 0,.int .i64 0],.bool B0])/\Y w.heap.size w w':=by
 have r:=ai g;have h:∀a,Y w.heap.size w (w.alloc a):=fun a=>(ah _ w).alloc (ae _) a;have o:Ck (mI w.heap.size (w.alloc (.cells #[.int .i64 0,.int .i64 0,.int .i64 0] 196)) 0 0 0/\Y w.heap.size w (w.alloc (.cells #[.int .i64 0,.int .i64 0,.int .i64 0] 196))):=⟨ay w _,h _⟩;have p:=aw k;clear k;go_in;go_wp2_with (refine vE rfl 197 _ rfl 1 rfl n _ fr _ (((h _).block _ r).trans g) Tryz.underlying197 rfl (by kernel_rfl) ?_);go_loopw [7] (fun f wr=>∃b:Nat,b<=20/\f= .int .i64 b/\Ck (mI w.heap.size wr 0 0 0/\Y w.heap.size w wr)) (fun f _=>20-(Cr f).toNat)
 case atStart=>exact⟨0,by omega,rfl,o⟩
 case round=>
  obtain⟨b,z,rfl,c⟩:=hrel;by_cases l:b<20
  ·have d:=fun w=>amf b l w;have t:=ai c.1;have j:∀a,Y wr.heap.size wr (wr.alloc a):=fun a=>(ah _ wr).alloc (ae _) a;have s:=p.out b l;generalize ui (3*b+1)=B at d;generalize ui (3*b+2)=C at d;generalize uh.getD b 0=A at d s;have q:Ck (∀a,mI w.heap.size (wr.alloc a) 0 0 0/\Y w.heap.size w (wr.alloc a)):=fun a=>⟨((j a).block _ t).trans c.1,c.2.trans ((j a).mono c.2.size)⟩;go_wp21
   exact⟨⟨b+1,by omega,by go_num,q _⟩,by simp[Cr];omega⟩
  ·obtain rfl:b=20:=by omega
   obtain⟨u,v,x,y⟩:=c.1.cells;have m:Ck (mI w.heap.size (((wr.setCell ⟨w.heap.size,0,V⟩ (.int .i64 0)).setCell ⟨w.heap.size,1,V⟩ (.int .i64 0)).setCell ⟨w.heap.size,2,V⟩ (.int .i64 0)) 0 0 0/\Y w.heap.size w (((wr.setCell ⟨w.heap.size,0,V⟩ (.int .i64 0)).setCell ⟨w.heap.size,1,V⟩ (.int .i64 0)).setCell ⟨w.heap.size,2,V⟩ (.int .i64 0))):=⟨mI.put c.1 0 0 0,((c.2.setCell (ae _) _).setCell (ae _) _).setCell (ae _) _⟩;go_wp21
   exact aI (Du rfl _ _ _ ⟨w.heap.size,0,V⟩ (.bool B0) _ rfl rfl (acC _ _ _ _ _ m.1)) rfl ⟨rfl,m.2⟩
theorem acD:∀j,j<20->ui (3*j+1)=lpw (uh.getD j 0)/\ui (3*j+2)=rpw (uh.getD j 0)/\jr (uh.getD j 0)=A5/\∀i,i<j->uh.getD i 0≠uh.getD j 0:=by decide
theorem anp{k:Int}(b:jr k=A5)(d:k<=78):∃j,j<20/\uh.getD j 0=k:=by
 have c:=aG b;have a:k=10\/k=26\/k=61\/k=62\/k=63\/k=64\/k=65\/k=66\/k=67\/k=68\/k=69\/k=70\/k=71\/k=72\/k=73\/k=74\/k=75\/k=76\/k=77\/k=78:=by omega
 rcases a with rfl|rfl|rfl|rfl|rfl|rfl|rfl|rfl|rfl|rfl|rfl|rfl|rfl|rfl|rfl|rfl|rfl|rfl|rfl|rfl
 ·exact⟨1,by decide,rfl⟩
 ·exact⟨0,by decide,rfl⟩
 ·exact⟨14,by decide,rfl⟩
 ·exact⟨15,by decide,rfl⟩
 ·exact⟨16,by decide,rfl⟩
 ·exact⟨17,by decide,rfl⟩
 ·exact⟨18,by decide,rfl⟩
 ·exact⟨19,by decide,rfl⟩
 ·exact⟨11,by decide,rfl⟩
 ·exact⟨9,by decide,rfl⟩
 ·exact⟨10,by decide,rfl⟩
 ·exact⟨12,by decide,rfl⟩
 ·exact⟨13,by decide,rfl⟩
 ·exact⟨8,by decide,rfl⟩
 ·exact⟨2,by decide,rfl⟩
 ·exact⟨3,by decide,rfl⟩
 ·exact⟨4,by decide,rfl⟩
 ·exact⟨5,by decide,rfl⟩
 ·exact⟨6,by decide,rfl⟩
 ·exact⟨7,by decide,rfl⟩
end Go.Proofs.YtnlhhmlcjbohbaaGreatDoor
namespace Go.Proofs
open Go.Shelf
def Tryz.lays170_ren:C2:=⟨fun|170=>217|n=>n,fun|70=>253|3=>3|0=>0|72=>255|37=>22|5=>5|n=>n,fun|n=>n⟩
theorem Tryz.lays170:Go.Proofs.Lays.n170 U Tryz.lays170_ren:={
 mixed:=by kernel_rfl
 f170:=Tryz.func217.trans (congrArg X (by kernel_rfl))
 t0:=Tryz.underlying0
 a0:=Tryz.isAgg0
 z0:=Tryz.sizeOf0
 v0:=Tryz.zeroValue0
 t3:=Tryz.underlying3
 a3:=C5
 z3:=C4
 v3:=Tryz.zeroValue3
 t37:=Tryz.underlying22
 a37:=Tryz.isAgg22
 z37:=Tryz.sizeOf22
 v37:=Tryz.zeroValue22
 t70:=Tryz.underlying253
 a70:=Tryz.isAgg253
 z70:=Tryz.sizeOf253
 v70:=Tryz.zeroValue253
 t72:=Tryz.underlying255
 a72:=Tryz.isAgg255
 z72:=Tryz.sizeOf255
 v72:=Tryz.zeroValue255}
def Tryz.lays169_ren:C2:=⟨fun|169=>218|n=>n,fun|70=>253|9=>9|0=>0|72=>255|37=>22|127=>260|3=>3|5=>5|n=>n,fun|n=>n⟩
theorem Tryz.lays169:Go.Proofs.Lays.n169 U Tryz.lays169_ren:={
 mixed:=by kernel_rfl
 f169:=Tryz.func218.trans (congrArg X (by kernel_rfl))
 t0:=Tryz.underlying0
 a0:=Tryz.isAgg0
 z0:=Tryz.sizeOf0
 v0:=Tryz.zeroValue0
 t3:=Tryz.underlying3
 a3:=C5
 z3:=C4
 v3:=Tryz.zeroValue3
 t9:=Tryz.underlying9
 a9:=Tryz.isAgg9
 z9:=Tryz.sizeOf9
 v9:=Tryz.zeroValue9
 t37:=Tryz.underlying22
 a37:=Tryz.isAgg22
 z37:=Tryz.sizeOf22
 v37:=Tryz.zeroValue22
 t70:=Tryz.underlying253
 a70:=Tryz.isAgg253
 z70:=Tryz.sizeOf253
 v70:=Tryz.zeroValue253
 t72:=Tryz.underlying255
 a72:=Tryz.isAgg255
 z72:=Tryz.sizeOf255
 v72:=Tryz.zeroValue255
 t127:=Tryz.underlying260
 a127:=Tryz.isAgg260
 z127:=Tryz.sizeOf260
 v127:=Tryz.zeroValue260}
theorem Tryz.Builder_Extra_169:Builder.Extra U Tryz.lays169_ren:={
 sizeBuilder:=by kernel_rfl
 liesBuilder:=by kernel_rfl
 t5:=Tryz.underlying5
 a5:=Tryz.isAgg5
 z5:=Tryz.sizeOf5
 v5:=Tryz.zeroValue5
 infoByte:=by kernel_rfl
 cellsByte:=by kernel_rfl
 sizeByte:=by kernel_rfl
 neB5:=by decide}
def Tryz.lays241_ren:C2:=⟨fun|241=>235|277=>249|n=>n,fun|70=>253|3=>3|0=>0|72=>255|37=>22|5=>5|n=>n,fun|n=>n⟩
theorem Tryz.lays241:Go.Proofs.Lays.n241 U Tryz.lays241_ren:={
 mixed:=by kernel_rfl
 f241:=Tryz.func235.trans (congrArg X (by kernel_rfl))
 f277:=Tryz.func249.trans (congrArg X (by kernel_rfl))
 t0:=Tryz.underlying0
 a0:=Tryz.isAgg0
 z0:=Tryz.sizeOf0
 v0:=Tryz.zeroValue0
 t3:=Tryz.underlying3
 a3:=C5
 z3:=C4
 v3:=Tryz.zeroValue3
 t37:=Tryz.underlying22
 a37:=Tryz.isAgg22
 z37:=Tryz.sizeOf22
 v37:=Tryz.zeroValue22
 t70:=Tryz.underlying253
 a70:=Tryz.isAgg253
 z70:=Tryz.sizeOf253
 v70:=Tryz.zeroValue253
 t72:=Tryz.underlying255
 a72:=Tryz.isAgg255
 z72:=Tryz.sizeOf255
 v72:=Tryz.zeroValue255}
theorem Tryz.Builder_Extra_241:Builder.Extra U Tryz.lays241_ren:={
 sizeBuilder:=by kernel_rfl
 liesBuilder:=by kernel_rfl
 t5:=Tryz.underlying5
 a5:=Tryz.isAgg5
 z5:=Tryz.sizeOf5
 v5:=Tryz.zeroValue5
 infoByte:=by kernel_rfl
 cellsByte:=by kernel_rfl
 sizeByte:=by kernel_rfl
 neB5:=by decide}
open Go.RowKit in
theorem Tryz.Builder_grow_fresh(B b n:Nat)(w:Ax)(a:B<=b)(d:w.heap[b]?=X (Br #[A2 (X ⟨b,0,V⟩),B1 V 0 0] 255 (0,0)))(c:B<=w.heap.size)(f:n<=281474976710656):
  B4 U 235 #[A2 (X ⟨b,0,V⟩),O Q n] w fun e w'=>e= A0 (C6 #[])/\(Lib.BuilderAt 255 5 B b (A2 (X ⟨b,0,V⟩)) [] w'/\Y B w w'):=Any.Builder_grow_fresh Tryz.lays241 Tryz.Builder_Extra_241 B b n w a d c f
open Go.RowKit in
theorem Tryz.Builder_Len_f(B b:Nat)(a:List Z)(w:Ax)(h:Lib.IsBuilderF 255 5 B b a w):
  B4 U 217 #[A2 (X ⟨b,0,V⟩)] w fun e w'=>e= A0 (O Q a.length)/\w'=w:=Any.Builder_Len_f Tryz.lays170 B b a w h
open Go.RowKit in
theorem Tryz.Builder_String_any_k(B b:Nat)(l:List UInt8)(w:Ax)(h:Lib.IsBuilderF 255 5 B b (Lib.byteCells l) w)(a:B<=w.heap.size):
  B4 U 218 #[A2 (X ⟨b,0,V⟩)] w fun e w'=>e= A0 (B7 ⟨l.toArray⟩)/\(Lib.IsBuilderF 255 5 B b (Lib.byteCells l) w'/\Y B w w'/\Lib.OthersKept 5 (X b) w w'):=Any.Builder_String_any_k Tryz.lays169 Tryz.Builder_Extra_169 B b l w h a
end Go.Proofs
namespace Go.Proofs.YtnlhhmlcjbohbaaGreatDoor
open Go.RowKit Go.Maps Go.WideMaps
theorem agC(B b n:Nat)(w:Ax)(g:B<=b)(d:w.heap[b]?=X (Br #[A2 V,B1 V 0 0] 255 (0,0)))(r:B<=w.heap.size)(l:n<=281474976710656)(q:0<n):
  B4 U 215 #[A2 (X ⟨b,0,V⟩),O Q n] w fun e w'=>e= A0 (C6 #[])/\BuA B b [] w'/\Y B w w':=by
 have f:(w.setCell ⟨b,0,V⟩ (A2 (X ⟨b,0,V⟩))).heap[b]?=X (Br #[A2 (X ⟨b,0,V⟩),B1 V 0 0] 255 (0,0)):=aL _ b 0 _ _ _ d;have a:Y B w (w.setCell ⟨b,0,V⟩ (A2 (X ⟨b,0,V⟩))):=(ah B w).setCell (p:=⟨b,0,V⟩) g _;have h:=ug b w (by rw[Lib.cell_of_heap d];rfl) (by simp[World.shape?,d]) (Lib.frozen_of_heap d 0);go_in;go_wp2_with (go_at_call 234;refine h.mono ?_;rintro e w1 ⟨rfl,rfl⟩);generalize w.setCell ⟨b,0,V⟩ (A2 (X ⟨b,0,V⟩))=c at f a⊢;have i:c.cell? ⟨b,1,V⟩=X (B1 V 0 0):=by rw[Lib.cell_of_heap f];rfl
 have s:=a.size;clear h;go_region_held3 (fun w'=>w'.cell? ⟨b,1,V⟩=X (B1 V 0 0)) (first|go_keep|exact i) (fail)
 have o:=Tryz.Builder_grow_fresh B b n c.drew g f (by simpa using(show B<=c.heap.size by omega)) l;go_wp2_with (go_at_call 235;refine o.mono ?_;rintro e t ⟨rfl,j,k⟩);all_goals first
  |(rename_i m;rw[di]at m;omega)
  |skip
 go_end0
 exact⟨rfl,Lib.BuilderAtF.of j,(⟨a.os,a.tape,a.output,a.size,a.block⟩:Y B w c.drew).trans k⟩
def Bu(B b:Nat)(T:ByteArray)(w:Ax):Prop:=BuF B b (Lib.strCells T) w
theorem EK(a b:ByteArray):Lib.strCells (a++b)=Lib.strCells a++Lib.strCells b:=by
 unfold Lib.strCells;rw[oa,Cg,eB]
theorem FJ(B b:Nat)(T s:ByteArray)(w:Ax)(h:Bu B b T w)(f:T.size+s.size<=140737488355328)(d:B<=w.heap.size):
  B4 U 216 #[A2 (X ⟨b,0,V⟩),B7 s] w fun e w'=>e= A0 (C6 #[O Q s.size,.nilIface])/\Bu B b (T++s) w'/\Y B w w':=by
 refine(BB B b _ s w h (by rw[Lib.strCells_length];exact f) d).mono ?_;rintro e w' ⟨rfl,a,c⟩;exact⟨rfl,.inr (by rw[EK];exact a),c⟩
theorem aa0(B b:Nat)(T:ByteArray)(w:Ax)(h:Bu B b T w)(d:B<=w.heap.size):
  B4 U 218 #[A2 (X ⟨b,0,V⟩)] w fun e w'=>e= A0 (B7 T)/\Bu B b T w'/\Y B w w':=by
 refine(Tryz.Builder_String_any_k B b T.data.toList w h d).mono ?_;rintro e w' ⟨rfl,a,c,_⟩;exact⟨rfl,a,c⟩
end Go.Proofs.YtnlhhmlcjbohbaaGreatDoor
namespace Go.Proofs
open Go.Shelf
def Tryz.lays212_ren:C2:=⟨fun|212=>214|263=>232|264=>233|n=>n,fun|46=>138|51=>264|146=>265|53=>41|148=>267|n=>n,fun|n=>n⟩
theorem Tryz.lays212:Go.Proofs.Lays.n212 U Tryz.lays212_ren:={
 mixed:=by kernel_rfl
 f212:=Tryz.func214.trans (congrArg X (by kernel_rfl))
 f263:=Tryz.func232.trans (congrArg X (by kernel_rfl))
 f264:=Tryz.func233.trans (congrArg X (by kernel_rfl))
 t46:=Tryz.underlying138
 a46:=Tryz.isAgg138
 z46:=Tryz.sizeOf138
 v46:=Tryz.zeroValue138
 t51:=Tryz.underlying264
 a51:=Tryz.isAgg264
 z51:=Tryz.sizeOf264
 v51:=Tryz.zeroValue264
 t53:=Tryz.underlying41
 a53:=Tryz.isAgg41
 z53:=Tryz.sizeOf41
 v53:=Tryz.zeroValue41
 t146:=Tryz.underlying265
 a146:=Tryz.isAgg265
 z146:=Tryz.sizeOf265
 v146:=Tryz.zeroValue265
 t148:=Tryz.underlying267
 a148:=Tryz.isAgg267
 z148:=Tryz.sizeOf267
 v148:=Tryz.zeroValue267}
open Go.RowKit Go.Lib in
theorem Tryz.bits_Mul(x y:Nat)(a:x<18446744073709551616)(b:y<18446744073709551616)(w:Ax):
  B4 U 214 #[O .u64 x,O .u64 y] w fun e w'=>e= A0 (C6 #[O .u64 ((x*y / 18446744073709551616:Nat):Int),O .u64 ((x*y%18446744073709551616:Nat):Int)])/\w'=w:=Any.bits_Mul Tryz.lays212 x y a b w
end Go.Proofs
namespace Go.Proofs.YtnlhhmlcjbohbaaGreatDoor
open Go.RowKit Go.Maps Go.WideMaps
def ap4:ByteArray:=⟨#[116,97,114,103,101,116,32]⟩
def uJ(q:Nat):ByteArray:=⟨(Ce [116,97,114,103,101,116,32] q).toArray⟩
theorem wv(q:Nat):(uJ q).size=7*q:=by
 have a:(uJ q).size=(Ce [116,97,114,103,101,116,32] q).length:=by simp[uJ,ByteArray.size]
 rw[a,Lib.repeatL_length];simp;omega
theorem Ks(a b:Nat):uJ (a+b)=uJ a++uJ b:=by
 apply oc;rw[oa];show(Ce _ (a+b)).toArray=(Ce _ a).toArray++(Ce _ b).toArray;rw[Lib.repeatL_add];simp
theorem aeg(q d:Nat)(h:d<=q):(uJ q).extract 0 (7*d)=uJ d:=by
 obtain⟨b,rfl⟩:=Nat.exists_eq_add_of_le h;rw[Ks];apply oc;rw[ByteArray.data_extract,oa];have a:(uJ d).data.size=7*d:=wv d;rw[<-a];apply Array.ext';simp;apply dj;rw[eK];exact ae _
theorem arw(ts:Array B3)(t:B3)(x y z c:Int)(W:Ax)(h:(if z<(if y<x then y else x) then z else(if y<x then y else x))=c):
  (Builtin.min_ ts t #[O Q x,O Q y,O Q z]).run U W= .ok (O Q c) W:=by
 rw[<-h];simp[Builtin.min_,Builtin.min2]
theorem Kt(m:Nat)(w:Ax)(a9:m+2<=200):
  B4 U 190 #[B7 ⟨#[116,97,114,103,101,116,32]⟩,O Q ((m+2:Nat):Int)] w fun e w'=>e= A0 (B7 (uJ (m+2)))/\Y w.heap.size w w':=by
 have l:=Tryz.bits_Mul 7 (m+2) (by omega) (by omega) w;rw[Nat.div_eq_of_lt (by omega:7*(m+2)<18446744073709551616),Nat.mod_eq_of_lt (by omega:7*(m+2)<18446744073709551616)]at l;obtain⟨d,y⟩:=aA (7*(m+2));rw[y]at l;have p:=aw y;have be:(d:Int)<=1400:=by omega
 have bf:14<=d:=by omega
 clear y;go_in;go_wp2_with (go_at_call 214;refine l.mono ?_;rintro e w' ⟨rfl,rfl⟩);obtain⟨a,rfl⟩:∃a,a=w':=⟨_,rfl⟩;have ag:=agC a.heap.size a.heap.size d (a.alloc (Br #[A2 V,B1 V 0 0] 255)) (ae _) (ay a _) (by simp) (by omega) (by omega);refine ag.mono ?_;rintro e ak ⟨rfl,J,K⟩;have af:Y a.heap.size a (a.alloc (Br #[A2 V,B1 V 0 0] 255)):=(ah _ a).alloc (ae _) _;have t:=af.trans K;have F:Bu a.heap.size a.heap.size ⟨#[]⟩ ak:= .inr J;have A:=FJ a.heap.size a.heap.size ⟨#[]⟩ ap4 ak F (by decide) t.size;rw[show(⟨#[]⟩:ByteArray)++ap4=uJ 1 from rfl]at A;have av:=aw t;clear ag J K af F t l;go_wp21
 refine A.mono ?_;rintro e al ⟨rfl,G,L⟩;have ap:Ck (Bu a.heap.size a.heap.size (uJ 1) al/\Y a.heap.size a al):=⟨G,av.out.trans L⟩;clear A G L;go_wp21
 go_loopg [] (m+1) (fun I ao=>∃b:Nat,1<=b/\b+I=m+2/\Ck (Bu a.heap.size a.heap.size (uJ b) ao/\Y a.heap.size a ao))
 case atStart=>exact⟨1,ae _,by omega,ap⟩
 case round=>
  obtain⟨b,bb,bd,g⟩:=hrel;have k:=Tryz.Builder_Len_f a.heap.size a.heap.size _ wr g.1;rw[Lib.strCells_length,wv]at k;have v:=aa0 a.heap.size a.heap.size _ wr g.1 g.2.size;obtain⟨f,n⟩:=aA (7*b);have i:=aw n;rw[n]at k;obtain⟨r,hS⟩:=aA (uJ b);have q:=aw hS;have a1:r.size=f:=by rw[<-hS,wv,n]
  rw[hS]at v;clear n hS;cases gk with
  |zero=>
   obtain rfl:b=m+2:=by omega
   have a0:¬((f:Int)<(d:Int)):=by have:=p.out;have:=i.out;omega
   go_wp2_with (first|(go_at_call 217;refine k.mono ?_;rintro e a4 ⟨rfl,z⟩;rw[z])|(go_at_call 218;refine v.mono ?_;rintro e am ⟨rfl,s,o⟩));go_ret;exact⟨by rw[q.out];rfl,g.2.trans o⟩
  |succ I=>
   obtain⟨c,a2⟩:=aA (min (m+2-b) b);have a6:1<=c:=by omega
   have a3:c<=b:=by omega
   have a7:b+c<=m+2:=by omega
   obtain⟨h,x⟩:=aA (7*c);have a0:(f:Int)<(d:Int):=by have:=p.out;have:=i.out;omega
   have a5:h<=f:=by have:=i.out;omega
   have a8:∀(C:Array B3)(B:B3)(j:Ax),(Builtin.min_ C B #[O Q ((d:Int)-(f:Int)),O Q (f:Int),O Q (d:Int)]).run U j= .ok (O Q (h:Int)) j:=fun C B j=>arw C B _ _ _ _ j (by
    have:=p.out;have:=i.out;split<;>split<;>omega)
   have E:Ck (7*c=h/\r.extract 0 h=uJ c):=⟨x,by rw[<-x,<-q.out];exact aeg b c a3⟩;clear a2 x;go_wp2_with (first|(go_at_call 217;refine k.mono ?_;rintro e a4 ⟨rfl,z⟩;rw[z])|(go_at_call 218;refine v.mono ?_;rintro e am ⟨rfl,s,o⟩));rw[E.out.2];have u:=g.2.trans o;refine(FJ a.heap.size a.heap.size r (uJ c) am s (by rw[a1,wv,E.out.1];omega) u.size).mono ?_;rintro e an ⟨rfl,H,ad⟩;have ar:Ck (Bu a.heap.size a.heap.size (uJ (b+c)) an/\Y a.heap.size a an):=⟨by rw[Ks,q.out];exact H,u.trans ad⟩;clear s o H ad u;go_wp21
   go_roundg (m+2-(b+c))
   case measure=>omega
   case rel=>exact⟨b+c,by omega,by omega,ar⟩
theorem aa1(n:Nat)(w:Ax)(a:n<=200):
  B4 U 190 #[B7 ⟨#[116,97,114,103,101,116,32]⟩,O Q (n:Int)] w fun e w'=>e= A0 (B7 ⟨(Ce [116,97,114,103,101,116,32] n).toArray⟩)/\Y w.heap.size w w':=by
 match n,a with
 |0,_=>
  go_in;go_wp2_with fail;go_ret;exact⟨rfl,ah _ _⟩
 |1,_=>
  go_in;go_wp2_with fail;go_ret;exact⟨rfl,ah _ _⟩
 |m+2,a=>exact Kt m w a
theorem Ku{s t:ByteArray}(h:s≠t):(s.toList==t.toList)=B0:=by
 rw[bH];intro a;apply h;rw[fC,fC]at a;cases s;cases t;simp only at a
 congr 1
 exact Array.toList_inj.1 a
theorem agD{s t:ByteArray}(h:s=t):(s.toList==t.toList)=A5:=by subst h;simp
theorem aa2(w:Ax)(B C:Z)(c d:List ByteArray)(n:dA w B c)(o:dA w C d)(x:c.length<=1048576)(y:d.length<=1048576):
  B4 U 186 #[B,C] w fun e w'=>e= A0 (.bool (decide (c=d)))/\Y w.heap.size w w':=by
 obtain⟨H,J,rfl⟩:=n.form;obtain⟨I,K,rfl⟩:=o.form;by_cases q:c.length=d.length
 ·obtain⟨m,r⟩:=aA (decide (c=d));rw[r];obtain⟨f,k⟩:=aA c.length;have p:d.length=f:=by rw[<-q];exact k
  have h:=iF k p r;have u:Ck (dA w (B1 H f J) c/\dA w (B1 I f K) d):=⟨by rw[<-k];exact n,by rw[<-p];exact o⟩;rw[k]at x⊢;rw[p];clear n o k p r q y;go_in;go_wp21
  go_loopw [13] (fun t wr=>∃b:Nat,b<=f/\t= O Q b/\Ck (∀a,a<b->c[a]?=d[a]?)/\Y w.heap.size w wr) (fun t _=>f-(Cr t).toNat)
  case atStart=>exact⟨0,by omega,rfl,fun a L=>by omega,ah _ _⟩
  case round=>
   obtain⟨b,ao,rfl,v,j⟩:=hrel;by_cases z:b<f
   ·obtain⟨ad,i⟩:=co h.1 z;obtain⟨af,l⟩:=co h.2.1 z;obtain⟨ag,rfl,al⟩:=(u.1.below j).get i;obtain⟨ak,rfl,am⟩:=(u.2.below j).get l;by_cases s:ad=af
    ·subst s;have E:Ck (∀a,a<b+1->c[a]?=d[a]?):=fun a L=>by
      rcases aH a b with g|g
      ·exact v a g
      ·obtain rfl:a=b:=by omega
       rw[i,l]
     clear i l;go_wp21
     go_quiet (fail)
     go_wp21
     exact⟨⟨b+1,by omega,by go_num,E,mE j _⟩,by simp[Cr];omega⟩
    ·have F:Ck (m=B0):=by
      show m=B0;rw[<-h.out.2.2];refine aD fun e=>s ?_;rw[e,l]at i;exact(bu i).symm
     have an:=Ku s;clear i l;go_wp21
     go_quiet (fail)
     go_wp21
     go_ret;exact⟨by rw[F.out];rfl,mE j _⟩
   ·obtain rfl:b=f:=by omega
    have G:Ck (m=A5):=by
     show m=A5;rw[<-h.out.2.2];refine bv (List.ext_getElem? fun a=>?_);rcases aH a b with g|g
     ·exact v a g
     ·rw[gE (by rw[h.out.1];exact g),gE (by rw[h.out.2.1];exact g)]
    go_wp21
    go_ret;exact⟨by rw[G.out];rfl,j⟩
 ·rw[aD (fun e=>q (by rw[e]))];have A:¬(c.length:Int)=(d.length:Int):=by omega
  generalize c.length=ap at A x⊢;generalize d.length=ar at A y⊢;clear n o q;go_in;go_wp2;go_ret;exact⟨rfl,ah _ _⟩
def Bl(a N:Nd):Bool:=decide (a.op=N.op/\a.n=N.n/\a.x=N.x/\a.nm=N.nm)
theorem Dv(w:Ax)(b N:Nd)(ad af vn vk:Z)(l:dA w ad b.nm)(m:dA w vn N.nm)(al:∃a n c,af= B1 a n c)(ak:∃a n c,vk= B1 a n c)(am:b.nm.length<=1048576)(an:N.nm.length<=1048576):
  B4 U 147 #[jo b ad af,jo N vn vk] w fun e w'=>e= A0 (.bool (Bl b N))/\Y w.heap.size w w':=by
 have k:∀g h,Y w.heap.size w ((w.alloc g).alloc h):=fun g h=>((ah _ w).alloc (ae _) g).alloc (by simp) h;have f:=fun g h=>aa2 ((w.alloc g).alloc h) ad vn b.nm N.nm (l.below (k g h)) (m.below (k g h)) am an;obtain⟨av,a7,rfl⟩:=l.form;obtain⟨a0,a8,rfl⟩:=m.form;obtain⟨a5,bd,a9,rfl⟩:=al;obtain⟨a6,be,bb,rfl⟩:=ak;unfold jo Bl;generalize b.nm.length=ao at f⊢;generalize N.nm.length=ap at f⊢;by_cases i:b.op=N.op
 ·by_cases o:b.n=N.n
  ·by_cases j:b.x=N.x
   ·have e:decide (b.op=N.op/\b.n=N.n/\b.x=N.x/\b.nm=N.nm)=decide (b.nm=N.nm):=by
     by_cases p:b.nm=N.nm
     ·rw[bv p,bv ⟨i,o,j,p⟩]
     ·rw[aD p,aD (fun d=>p d.2.2.2)]
    rw[e];have L:=agD j;generalize decide (b.nm=N.nm)=ar at f⊢;clear e j l m;obtain⟨r,q,z,t,y,u,A,v,s⟩:=b;obtain⟨C,B,J,F,I,G,K,H,E⟩:=N;simp only at i o L⊢;go_in;go_wp2_with (go_at_call 186;refine(f _ _).mono ?_;rintro e bf ⟨rfl,ag⟩);go_ret;exact⟨rfl,(k _ _).trans (ag.mono (by simp;omega))⟩
   ·rw[aD (fun d=>j d.2.2.1)];have L:=Ku j;clear j l m f;obtain⟨r,q,z,t,y,u,A,v,s⟩:=b;obtain⟨C,B,J,F,I,G,K,H,E⟩:=N;simp only at i o L⊢;go_in;go_wp2;go_ret;exact⟨rfl,k _ _⟩
  ·rw[aD (fun d=>o d.2.1)];clear l m f;obtain⟨r,q,z,t,y,u,A,v,s⟩:=b;obtain⟨C,B,J,F,I,G,K,H,E⟩:=N;simp only at i o⊢;go_in;go_wp2;go_ret;exact⟨rfl,k _ _⟩
 ·rw[aD (fun d=>i d.1)];clear l m f;obtain⟨r,q,z,t,y,u,A,v,s⟩:=b;obtain⟨C,B,J,F,I,G,K,H,E⟩:=N;simp only at i⊢;go_in;go_wp2;go_ret;exact⟨rfl,k _ _⟩
def nA(q:Nat)(c:Int):Nat:=
 if q=4 then(if c=10 then 12 else if 32<=c/\c<=126 then 2 else 14)
 else if c=92 then 2 else if c=10 then 12 else if c=32 then 2 else if c=9 then(if q=3 then 0 else 2) else if c=13 then 4
 else if bc c=A5 then(if q=1 then 2 else if q=2 then 8 else 18)
 else if ba c=A5 then(if q=1\/q=2 then 2 else if c=97\/c=110 then 12 else 8)
 else if c=34 then 8 else if 32<=c/\c<=126 then 12 else 14
def nC(q:Nat)(c:Int):Nat:=
 if q=4 then(if c=10 then 3 else if uq c=A5 then 1 else 0)
 else if c=92 then 4 else if c=10 then 3 else if c=9 then(if q=3 then 3 else 0)
 else if bc c=A5 then(if q=1 then 1 else if c=48 then 2 else 1)
 else if ba c=A5 then(if q=1\/q=2 then 1 else 0)
 else 0
def uK:Nat->List Int->Nat
 |_,[]=>0
 |q,c::l=>nA q c+uK (nC q c) l
def wD:Nat->List Int->Nat
 |q,[]=>q
 |q,c::l=>wD (nC q c) l
theorem zj:∀(q:Nat)(a b:List Int),uK q (a++b)=uK q a+uK (wD q a) b
 |q,[],b=>by simp[uK,wD]
 |q,c::a,b=>by simp only[eC,uK,wD,zj (nC q c) a b];omega
theorem ww:∀(q:Nat)(a b:List Int),wD q (a++b)=wD (wD q a) b
 |q,[],b=>rfl
 |q,c::a,b=>by simp only[eC,wD,ww (nC q c) a b]
structure Cs (x:ByteArray) (n:Nat):Prop where
 out:∀q,q<4->uK q (dF x)<=n/\wD q (dF x)<4
theorem xH(a b:ByteArray):dF (a++b)=dF a++dF b:=by unfold dF;rw[oa,Cg,eB]
section
variable {x y : ByteArray} {m n : Nat}
theorem Cs.app(h:Cs x m)(g:Cs y n):Cs (x++y) (m+n):=⟨fun d c=>by
 obtain⟨f,b⟩:=h.out d c;obtain⟨e,a⟩:=g.out _ b;rw[xH,zj,ww];exact⟨by omega,a⟩⟩
theorem Cs.le(h:Cs x m)(c:m<=n):Cs x n:=⟨fun b a=>by have:=h.out b a;omega⟩
end
theorem qm{x:ByteArray}{n:Nat}(h:∀q:Fin 4,uK q.val (dF x)<=n/\wD q.val (dF x)<4:=by decide):Cs x n:=⟨fun q a=>h ⟨q,a⟩⟩
theorem Dw:Cs ⟨#[]⟩ 0:=qm
theorem aa3:∀(l:List Int),(∀c∈l,uq c=A5)->uK 1 l=2*l.length/\wD 1 l=1
 |[],_=>⟨rfl,rfl⟩
 |c::l,h=>by
  have a:=h c bB;obtain⟨g,i⟩:=aa3 l (fun j f=>h j (cL _ f));have k:(97<=c/\c<=122)\/(65<=c/\c<=90)\/c=95\/(48<=c/\c<=57):=by
   unfold uq ba bc at a;simp at a;omega
  have e:nA 1 c=2:=by
   unfold nA;rw[aa (by decide),aa (by omega),aa (by omega),aa (by omega),aa (by omega),aa (by omega)];split
   ·rfl
   ·rename_i b;rw[ab (by unfold uq at a;simpa [b] using a)];rfl
  have d:nC 1 c=1:=by
   unfold nC;rw[aa (by decide),aa (by omega),aa (by omega),aa (by omega)];split
   ·rfl
   ·rename_i b;rw[ab (by unfold uq at a;simpa [b] using a)];rfl
  exact⟨by rw[uK,e,d,g,bi];omega,by rw[wD,d,i]⟩
theorem agE{c:Int}{l:List Int}(h:49<=c/\c<=57)(d:∀c∈l,uq c=A5):∀q,q<4->uK q (c::l)<=18+2*l.length/\wD q (c::l)<4:=by
 intro q i;obtain⟨e,f⟩:=aa3 l d;have a:bc c=A5:=by simp[bc];omega
 have g:nA q c<=18:=by
  unfold nA;rw[aa (by omega),aa (by omega),aa (by omega),aa (by omega),aa (by omega),aa (by omega),ab a];split
  ·decide
  ·split<;>decide
 have b:nC q c=1:=by
  unfold nC;rw[aa (by omega),aa (by omega),aa (by omega),aa (by omega),ab a];split
  ·rfl
  ·rw[aa (by omega)]
 rw[uK,wD,b,e,f];omega
theorem FK{d:Int}{l:List Int}(e:uq d=A5)(n:d≠48)(o:∀c∈l,uq c=A5):∀q,q<4->uK q (48::d::l)<=26+2*l.length/\wD q (48::d::l)<4:=by
 intro q u;obtain⟨p,r⟩:=aa3 l o;have v:(97<=d/\d<=122)\/(65<=d/\d<=90)\/d=95\/(49<=d/\d<=57):=by
  unfold uq ba bc at e;simp at e;omega
 have i:nA q 48<=18/\(nC q 48=1\/nC q 48=2):=by
  rcases(show q=0\/q=1\/q=2\/q=3 by omega) with rfl|rfl|rfl|rfl<;>decide
 have j:∀a,(a=1\/a=2)->nA a d<=8/\nC a d=1:=by
  intro a g;have f:¬a=4:=by omega
  by_cases b:bc d=A5
  ·refine⟨?_,?_⟩
   ·unfold nA;rw[aa f,aa (by omega),aa (by omega),aa (by omega),aa (by omega),aa (by omega),ab b];rcases g with rfl|rfl<;>decide
   ·unfold nC;rw[aa f,aa (by omega),aa (by omega),aa (by omega),ab b];split
    ·rfl
    ·first|rfl|rw[aa n]
  ·have h:ba d=A5:=by unfold uq at e;simpa [b] using e
   refine⟨?_,?_⟩
   ·unfold nA;rw[aa f,aa (by omega),aa (by omega),aa (by omega),aa (by omega),aa (by omega),aa b,ab h,ab g];decide
   ·unfold nC;rw[aa f,aa (by omega),aa (by omega),aa (by omega),aa b,ab h,ab g]
 obtain⟨s,k⟩:=i;obtain⟨t,m⟩:=j _ k;rw[uK,uK,wD,wD,m,p,r];omega
theorem anq:∀(c:Fin 256)(q:Fin 4),uK q.val (esc (c.val:Int))<=18/\wD q.val (esc (c.val:Int))<4:=by decide+kernel
theorem acE:∀(l:List UInt8)(q:Nat),q<4->uK q (l.flatMap fun b=>esc (b.toNat:Int))<=18*l.length/\wD q (l.flatMap fun b=>esc (b.toNat:Int))<4
 |[],q,a=>⟨aF _,a⟩
 |b::l,q,a=>by
  obtain⟨c,d⟩:=anq ⟨b.toNat,b.toNat_lt⟩ ⟨q,a⟩;obtain⟨e,f⟩:=acE l _ d;rw[qH,zj,ww,bi];exact⟨by simp only at c e;omega,f⟩
theorem FL(s:ByteArray):dF (ey (cD s))=cD s:=by
 unfold dF;rw[Ae,List.map_map];have:∀a∈cD s,((fun b:UInt8=>(b.toNat:Int)) ∘ fun d:Int=>UInt8.ofNat d.toNat) a=a:=fun a c=>by
  have:=so s a c;simp only[Function.comp];rw[UInt8.toNat_ofNat_of_lt' (by show a.toNat<256;omega)];omega
 rw[List.map_congr_left this,List.map_id']
theorem q34:∀q:Fin 4,nA q.val 34=8/\nC q.val 34=0:=by decide
theorem anr(s:ByteArray):Cs (ey (cD s)) (16+18*s.size):=⟨fun g f=>by
 rw[FL];unfold cD qt;obtain⟨a,b⟩:=q34 ⟨g,f⟩;simp only at a b;obtain⟨h,e⟩:=acE (s.data.toList.take s.size) 0 (by decide);have i:(s.data.toList.take s.size).length<=s.size:=List.length_take_le _ _;obtain⟨c,d⟩:=q34 ⟨_,e⟩;simp only at c d;rw[eC,uK,wD,zj,ww,a,b];simp only[uK,wD,c,d];omega⟩
theorem ans(s:ByteArray)(G:2<=s.size)(y:∀i,i<s.size->bc (aq s i)=A5)(t:aq s 0=48)(u:aq s 1=49):Cs (ey (cD s)) (42+2*s.size):=⟨fun C A=>by
 rw[FL];obtain⟨m,n⟩:=q34 ⟨C,A⟩;simp only at m n;have v:∀l:List UInt8,(∀b∈l,bc (b.toNat:Int)=A5)->(l.flatMap fun b=>esc (b.toNat:Int))=l.map fun b=>(b.toNat:Int):=by
  intro l p
  induction l with
  |nil=>rfl
  |cons b l B=>
   have e:=fe (p b bB);rw[qH,kJ,B (fun k j=>p k (cL _ j))];have:esc (b.toNat:Int)=[(b.toNat:Int)]:=by unfold esc;rw[aa (by omega),aa (by omega),aa (by omega),aa (by omega)]
   rw[this];rfl
 have f:∀b∈s.data.toList,bc (b.toNat:Int)=A5:=fun b e=>by
  obtain⟨i,z,rfl⟩:=il e;have:=(fL s i s.data.toList[i]).1 (aE z);rw[<-this.2];exact y i this.1
 have w:s.data.toList.take s.size=s.data.toList:=dj (by rw[eK];exact ae _);unfold cD qt;rw[w,v _ f];have c:s.data.toList.length=s.size:=eK
 match hs:s.data.toList,c,f with
 |[],c,_=>simp at c;omega
 |[_],c,_=>simp at c;omega
 |a::b::r,c,f=>
  have o:=((fL s 0 a).1 (by rw[hs];rfl)).2;have e:=((fL s 1 b).1 (by rw[hs];rfl)).2;rw[t]at o;rw[u]at e;obtain⟨q,p2⟩:=FK (d:=49) (l:=r.map fun b=>(b.toNat:Int)) (by decide) (by decide) (fun F x=>by
   obtain⟨k,j,rfl⟩:=List.mem_map.1 x;unfold uq;rw[f k (cL _ (cL _ j))];simp) 0 (by decide)
  rw[cA]at q;obtain⟨g,h⟩:=q34 ⟨_,p2⟩;simp only at g h;simp only[kJ];rw[<-o,<-e];generalize (48::49::List.map (fun b:UInt8=>(b.toNat:Int)) r)=E at q p2 g h⊢;rw[eC,uK,wD,zj,ww,m,n];simp only[bi]at c;simp only[uK,wD,g,h];omega⟩
