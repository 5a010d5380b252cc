import Derived.Test.YthjpdjibdnecoaaGreatDoorHQk11
import Derived.Test.YthjpdjibdnecoaaGreatDoorHQk28
import Derived.Test.YthjpdjibdnecoaaGreatDoorHQk13
import Derived.Test.YthjpdjibdnecoaaGreatDoorHQk29
set_option linter.all false
set_option maxRecDepth 100000
set_option maxHeartbeats 12800000
open Option renaming none->O,some->V
open Go.Value renaming int->Q,string->Z,ownBlock->A1,slice->A6
open Go.IntKind renaming i64->U
open Go renaming Value->X,World->A0,TypeId->A5,Calls->A9,undef->Bs
open Go.RowKit renaming Below->Y,intOf->A7,Hid->A8
open Go.Obj renaming cells->Ax
open Bool renaming false->A2,true->A4
open Go.Proofs.Tryz renaming prog->A3
namespace Go.Proofs.YthjpdjibdnecoaaGreatDoor
open Go.RowKit Go.Maps Go.WideMaps
def Ie:Array X:=#[Q U 26,Q U 1,Q U 2,Q U 10,Q U 2,Q U 3,Q U 73,Q U 3,Q U 4,Q U 74,Q U 3,Q U 4,Q U 75,Q U 3,Q U 4,Q U 76,Q U 3,Q U 4,Q U 77,Q U 3,Q U 4,Q U 78,Q U 3,Q U 4,
 Q U 72,Q U 4,Q U 4,Q U 68,Q U 5,Q U 6,Q U 69,Q U 6,Q U 7,Q U 67,Q U 7,Q U 8,Q U 70,Q U 8,Q U 9,Q U 71,Q U 8,Q U 9,Q U 61,Q U 9,Q U 10,Q U 62,Q U 9,Q U 10,
 Q U 63,Q U 10,Q U 11,Q U 64,Q U 10,Q U 11,Q U 65,Q U 10,Q U 11,Q U 66,Q U 10,Q U 11]
def rJ:List Int:=[26,10,73,74,75,76,77,78,72,68,69,67,70,71,61,62,63,64,65,66]
def rK(k:Nat):Int:=match Ie.getD k (Q U 0) with| .int _ a=>a|_=>0
theorem aia(k:Nat)(a:k<20)(w:A0):(Instr.index 246 (.agg Ie) (Q U (k:Int))).run A3 w= .ok (.agg #[Q U (rJ.getD k 0),Q U (rK (3*k+1)),Q U (rK (3*k+2))]) w:=by
 rcases(show k=0\/k=1\/k=2\/k=3\/k=4\/k=5\/k=6\/k=7\/k=8\/k=9\/k=10\/k=11\/k=12\/k=13\/k=14\/k=15\/k=16\/k=17\/k=18\/k=19 by omega) with rfl|rfl|rfl|rfl|rfl|rfl|rfl|rfl|rfl|rfl|rfl|rfl|rfl|rfl|rfl|rfl|rfl|rfl|rfl|rfl;all_goals kernel_rfl
theorem oH{fn:Func}{p q:Tmp}{u:A5}(h:fn.results=#[.cell q u,.tmp p])(tmps:Array X)(P:Program)(w:A0)(a:Addr)(v b:X)(d:tmps.getD p Bs=v)(f:tmps.getD q Bs= .pointer (V a))
  (c:(loadVar u a).run P w= .ok b w):(results fn tmps).run P w= .ok (.tuple #[b,v]) w:=by
 have e:tmps[p]?.getD Bs=v:=by simpa using d
 have g:tmps[q]?.getD Bs= .pointer (V a):=by simpa using f
 simp only[results,h];simp[Result.andThen,e,g,asAddr,c]
def li(b:Nat)(W:A0)(x a z:Int):Prop:=W.heap[b]?=V (Ax #[Q U x,Q U a,Q U z] 245 (0,0))
theorem aan(w:A0)(b:Nat)(x a z:Int)(h:li b w x a z):(loadVar 245 ⟨b,0,O⟩).run A3 w= .ok (.agg #[.int .i64 x,.int .i64 a,.int .i64 z]) w:=
 AD w b 245 245 _ _ _ h Tryz.underlying245 rfl (by kernel_rfl)
theorem li.put{b:Nat}{W:A0}{x e z:Int}(h:li b W x e z)(a c d:Int):li b (((W.setCell ⟨b,0,O⟩ (Q U a)).setCell ⟨b,1,O⟩ (Q U c)).setCell ⟨b,2,O⟩ (Q U d)) a c d:=
 bi _ b 2 _ _ _ (bi _ b 1 _ _ _ (bi _ b 0 _ _ _ h))
theorem li.cells{b:Nat}{W:A0}{x a z:Int}(h:li b W x a z):W.cell? ⟨b,0,O⟩=V (Q U x)/\W.cell? ⟨b,1,O⟩=V (Q U a)/\W.cell? ⟨b,2,O⟩=V (Q U z)/\∀j,W.frozen? ⟨b,j,O⟩=A2:=by
 unfold li at h;exact⟨by rw[aq _ _ _ _ _ _ h];rfl,by rw[aq _ _ _ _ _ _ h];rfl,by rw[aq _ _ _ _ _ _ h];rfl,fun j=>cC _ _ _ _ _ h⟩
theorem Ke(w:A0)(z:A5)(fr:Nat×Nat)(s:w.heap[4]?=V (.cells Ie z fr))(j:Nat)(ak:j<20)(kind:Int)(h:rJ.getD j 0=kind)(x:∀i,i<j->rJ.getD i 0≠kind):
  A9 A3 239 #[.int .i64 kind] w fun e w'=>e= .returned (.tuple #[.agg #[.int .i64 kind,.int .i64 (rK (3*j+1)),.int .i64 (rK (3*j+2))],.bool A4])/\Y w.heap.size w w':=by
 have G:=ah s;have t:∀a,Y w.heap.size w (w.alloc a):=fun a=>(ag _ w).alloc (ae _) a;have p:li w.heap.size (w.alloc (.cells #[.int .i64 0,.int .i64 0,.int .i64 0] 245)) 0 0 0:=aj w _;have A:A8 (li w.heap.size (w.alloc (.cells #[.int .i64 0,.int .i64 0,.int .i64 0] 245)) 0 0 0/\Y w.heap.size w (w.alloc (.cells #[.int .i64 0,.int .i64 0,.int .i64 0] 245))):=⟨p,t _⟩;have B:=aw x;have C:=aw h;clear x h p;go_in;go_wp2_with (refine tL rfl 246 _ rfl 4 rfl z _ fr _ (((t _).block _ G).trans s) Tryz.underlying246 rfl (by kernel_rfl) ?_);go_loopw [7] (fun v wr=>∃b:Nat,b<=j/\v= .int .i64 b/\A8 (li w.heap.size wr 0 0 0/\Y w.heap.size w wr)) (fun v _=>20-(A7 v).toNat)
 case atStart=>exact⟨0,by omega,rfl,A.out⟩
 case round=>
  obtain⟨b,h,rfl,f⟩:=hrel;have al:(b:Int)<20:=by omega
  have H:b<20:=by omega
  have g:=fun w=>aia b H w;have I:=ah f.out.1;obtain⟨K,L,ad,af⟩:=f.out.1.cells;have u:∀a,Y wr.heap.size wr (wr.alloc a):=fun a=>(ag _ wr).alloc (ae _) a;rcases mi h with rfl|hlt
  ·rw[C.out]at g;obtain⟨c,m⟩:=ay (rK (3*b+1));obtain⟨d,n⟩:=ay (rK (3*b+2));rw[m,n]at g;have r:=gK m n;clear m n;have o:li w.heap.size (((wr.setCell ⟨w.heap.size,0,O⟩ (.int .i64 kind)).setCell ⟨w.heap.size,1,O⟩ (.int .i64 c)).setCell ⟨w.heap.size,2,O⟩ (.int .i64 d)) kind c d:=li.put f.out.1 kind c d;have k:Y w.heap.size w (((wr.setCell ⟨w.heap.size,0,O⟩ (.int .i64 kind)).setCell ⟨w.heap.size,1,O⟩ (.int .i64 c)).setCell ⟨w.heap.size,2,O⟩ (.int .i64 d)):=((f.out.2.setCell (ae _) _).setCell (ae _) _).setCell (ae _) _;have l:∀a,Y (((wr.setCell ⟨w.heap.size,0,O⟩ (.int .i64 kind)).setCell ⟨w.heap.size,1,O⟩ (.int .i64 c)).setCell ⟨w.heap.size,2,O⟩ (.int .i64 d)).heap.size (((wr.setCell ⟨w.heap.size,0,O⟩ (.int .i64 kind)).setCell ⟨w.heap.size,1,O⟩ (.int .i64 c)).setCell ⟨w.heap.size,2,O⟩ (.int .i64 d)) ((((wr.setCell ⟨w.heap.size,0,O⟩ (.int .i64 kind)).setCell ⟨w.heap.size,1,O⟩ (.int .i64 c)).setCell ⟨w.heap.size,2,O⟩ (.int .i64 d)).alloc a):=fun a=>(ag _ _).alloc (ae _) a;have q:A8 ((∀a,li w.heap.size ((((wr.setCell ⟨w.heap.size,0,O⟩ (.int .i64 kind)).setCell ⟨w.heap.size,1,O⟩ (.int .i64 c)).setCell ⟨w.heap.size,2,O⟩ (.int .i64 d)).alloc a) kind c d)/\(∀a,Y w.heap.size w ((((wr.setCell ⟨w.heap.size,0,O⟩ (.int .i64 kind)).setCell ⟨w.heap.size,1,O⟩ (.int .i64 c)).setCell ⟨w.heap.size,2,O⟩ (.int .i64 d)).alloc a))):=⟨fun a=>((l a).block _ (ah o)).trans o,fun a=>k.trans ((l a).mono k.size)⟩;have am:(kind==kind)=A4:=by simp
   clear o k l;go_wp2_with fail;exact ba (oH rfl _ _ _ ⟨w.heap.size,0,O⟩ (.bool A4) _ rfl rfl (aan _ _ _ _ _ (q.out.1 _))) rfl ⟨by rw[r.out.1,r.out.2],q.out.2 _⟩
  ·have y:=B.out b hlt;generalize rK (3*b+1)=c at g;generalize rK (3*b+2)=d at g;generalize rJ.getD b 0=J at g y;have an:(J==kind)=A2:=by simpa using y
   have F:A8 (∀a,li w.heap.size (wr.alloc a) 0 0 0/\Y w.heap.size w (wr.alloc a)):=fun a=>⟨((u a).block _ I).trans f.out.1,f.out.2.trans ((u a).mono f.out.2.size)⟩;go_wp2_with fail;exact⟨⟨b+1,by omega,by go_num,F.out _⟩,by simp[A7];omega⟩
def bgC(c k:Int):Bool:=decide ((k=1/\cd c=A4)\/((k=2\/k=3)/\cu c=A4)\/(k=4/\c=34))
def bgT(x:ByteArray)(k:Int):Bool:=decide (x.size<=(vC k).size)&&(((vC k).extract 0 x.size).toList==x.toList)
def bgL(x:ByteArray):List Int->Bool
 |[]=>A2
 |k::r=>if bgC (az x 0) k=A4 then A4 else if bgT x k=A4 then A4 else bgL x r
def th(ks:List Int)(x:ByteArray):Bool:=if x.size=1/\az x 0=45 then A4 else bgL x ks
structure ajd (x:ByteArray) (ks:List Int) (R:Bool):Prop where
 out:bgL x ks=R
theorem If(w:A0)(v:X)(ks:List Int)(x:ByteArray)(h:eo w v ks)(a3:ks.length<=1000)(a0:0<x.size)(bl:x.size<=70000):
  A9 A3 95 #[v,.string x] w fun e w'=>e= .returned (.bool (th ks x))/\Y w.heap.size w w':=by
 have G:=fun w=>cD a0 w;rw[show(((0:Nat):Int))=0 from rfl]at G;obtain⟨a7,a9,rfl⟩:=h.form;unfold th;by_cases m:x.size=1/\az x 0=45
 ·rw[ab m];rw[m.2]at G;have bn:=m.1;clear h m;go_in;go_wp2_with fail;go_ret;exact⟨rfl,ag _ _⟩
 ·rw[aa m];obtain⟨R,y⟩:=ay (bgL x ks);rw[y];obtain⟨r,F⟩:=ay ks.length;rw[F]at h a3⊢;have t:=gK h F;have af:ajd x (ks.drop 0) R:=⟨y⟩;obtain⟨d,A⟩:=ay (az x 0);have an:=aw A;rw[A]at G m;have a1:((x.size:Int)=1/\(d==45)=A2)\/((x.size:Int)==1)=A2:=by
   rcases Classical.em (x.size=1) with g|g
   ·exact .inl ⟨by omega,by rw[aK];exact fun e=>m ⟨g,e⟩⟩
   ·exact .inr (by rw[aK];omega)
  clear h F y A m;rcases a1 with⟨p1,p2⟩|p1;all_goals
   go_in;go_wp2_with fail;clear p1;try clear p2
   go_loopw [18] (fun ad wr=>∃j:Nat,j<=r/\ad= Q U j/\ajd x (ks.drop j) R/\Y w.heap.size w wr) (fun ad _=>r-(A7 ad).toNat)
   case atStart=>exact⟨0,aL _,rfl,af,ag _ _⟩
   case round=>
    obtain⟨j,bd,rfl,u,s⟩:=hrel;clear af;have c:=u.out;by_cases a2:j<r
    ·have bk:(j:Int)<(r:Int):=by omega
     have bh:(0:Int)<=(j:Int):=by omega
     obtain⟨a,C⟩:=bL t.out.2 a2;obtain⟨a8,rfl,bb⟩:=(t.out.1.below s).get C;have B:=List.getElem?_eq_some_iff.1 C;rw[je B.1,B.2,bgL,an.out]at c;have k:=aw s;clear C B u s;by_cases q:bgC d a=A4
     ·rw[ab q]at c;have l:=aw c;have o:=aC q;clear c q;rcases o with⟨rfl,b⟩|⟨rfl|rfl,b⟩|⟨rfl,rfl⟩
      ·go_wp2_with (go_at_call 88;refine(iL b _).mono ?_;rintro e w' ⟨rfl,p⟩;subst w');go_ret;exact⟨by rw[<-l.out];rfl,k.out⟩
      ·go_wp2_with (go_at_call 90;refine(dw b _).mono ?_;rintro e w' ⟨rfl,p⟩;subst w');go_ret;exact⟨by rw[<-l.out];rfl,k.out⟩
      ·go_wp2_with (go_at_call 90;refine(dw b _).mono ?_;rintro e w' ⟨rfl,p⟩;subst w');go_ret;exact⟨by rw[<-l.out];rfl,k.out⟩
      ·go_wp2_with fail;go_ret;exact⟨by rw[<-l.out];rfl,k.out⟩
     ·rw[aa q]at c;have o:¬((a=1/\cd d=A4)\/((a=2\/a=3)/\cu d=A4)\/(a=4/\d=34)):=fun f=>q (bC f);have ak:(a=1/\cd d=A2)\/(a=2/\cu d=A2)\/(a=3/\cu d=A2)\/(a=4/\(d==34)=A2)\/((a==1)=A2/\(a==2)=A2/\(a==3)=A2/\(a==4)=A2):=by
       by_cases H:a=1
       ·refine .inl ⟨H,?_⟩;cases f:cd d with
        |false=>rfl
        |true=>exact absurd (.inl ⟨H,f⟩) o
       by_cases I:a=2
       ·refine .inr (.inl ⟨I,?_⟩);cases f:cu d with
        |false=>rfl
        |true=>exact absurd (.inr (.inl ⟨.inl I,f⟩)) o
       by_cases J:a=3
       ·refine .inr (.inr (.inl ⟨J,?_⟩));cases f:cu d with
        |false=>rfl
        |true=>exact absurd (.inr (.inl ⟨.inr J,f⟩)) o
       by_cases K:a=4
       ·exact .inr (.inr (.inr (.inl ⟨K,beq_eq_false_iff_ne.2 fun f=>o (.inr (.inr ⟨K,f⟩))⟩)))
       ·exact .inr (.inr (.inr (.inr ⟨beq_eq_false_iff_ne.2 H,beq_eq_false_iff_ne.2 I,beq_eq_false_iff_ne.2 J,beq_eq_false_iff_ne.2 K⟩)))
      have L:=fun w=>Jq a w;unfold bgT at c;generalize vC a=T at L c;clear o q;by_cases n:(decide (x.size<=T.size)&&((T.extract 0 x.size).toList==x.toList))=A4
      ·rw[ab n]at c;have l:=aw c;rw[be]at n;obtain⟨al,a5⟩:=n;have t3:(x.size:Int)<=(T.size:Int):=by have:=aC al;omega
       clear c al;rcases ak with⟨rfl,b⟩|⟨rfl,b⟩|⟨rfl,b⟩|⟨rfl,b⟩|⟨ao,ap,ar,av⟩;all_goals
        go_wp2_with (first|(go_at_call 88;refine(iL b _).mono ?_;rintro e w' ⟨rfl,p⟩;subst w')|(go_at_call 90;refine(dw b _).mono ?_;rintro e w' ⟨rfl,p⟩;subst w')|(go_at_call 154;refine(L _).mono ?_;rintro e a6 ⟨rfl,z⟩));go_ret;exact⟨by rw[<-l.out];rfl,k.out.trans (z.mono k.out.size)⟩
      ·rw[aa n]at c;have am:ajd x (ks.drop (j+1)) R:=⟨c⟩;clear c;have a4:(x.size:Int)<=(T.size:Int)/\((T.extract 0 x.size).toList==x.toList)=A2\/¬(x.size:Int)<=(T.size:Int):=by
        rcases co T.size x.size with g|g
        ·exact .inr (by omega)
        ·refine .inl ⟨by omega,?_⟩;rw[bC g,eG]at n;simpa using n
       clear n;rcases a4 with⟨t3,a5⟩|t3;all_goals
        rcases ak with⟨rfl,b⟩|⟨rfl,b⟩|⟨rfl,b⟩|⟨rfl,b⟩|⟨ao,ap,ar,av⟩;all_goals
         go_wp2_with (first|(go_at_call 88;refine(iL b _).mono ?_;rintro e w' ⟨rfl,p⟩;subst w')|(go_at_call 90;refine(dw b _).mono ?_;rintro e w' ⟨rfl,p⟩;subst w')|(go_at_call 154;refine(L _).mono ?_;rintro e a6 ⟨rfl,z⟩));exact⟨⟨j+1,by omega,by go_num,am,k.out.trans (z.mono k.out.size)⟩,by simp[A7];omega⟩
    ·obtain rfl:j=r:=by omega
     rw[ju (by rw[t.out.2];exact ae _),bgL]at c;have l:=aw c;clear c u;go_wp2_with fail;go_ret;exact⟨by rw[<-l.out];rfl,s⟩
def wi(s:ByteArray)(p n:Nat):Bool:=cd (az s p)&&(!(cd (lk s (p+n)))&&!(cu (lk s (p+n))))
def wrL(s:ByteArray)(p:Nat)(ks:List Int):Nat->Nat->Nat
 |0,n=>n
 |f+1,n=>if p+n<s.size/\th ks (s.extract p (p+n+1))=A4 then(if wi s p (n+1)=A4 then n+1 else wrL s p ks f (n+1)) else n
def wrongF(s:ByteArray)(p:Nat)(ks:List Int):Nat:=p+wrL s p ks (s.size+1) 0
structure aeb (s:ByteArray) (p:Nat) (ks:List Int) (f n R:Nat):Prop where
 out:wrL s p ks f n=R
theorem zr(w:A0)(s:ByteArray)(p:Nat)(v:X)(ks:List Int)(h:eo w v ks)(L:ks.length<=1000)(bk:s.size<=70000)(a6:p<s.size):
  A9 A3 58 #[.string s,Q U p,v] w fun e w'=>e= .returned (Q U (wrongF s p ks))/\Y w.heap.size w w':=by
 have a7:=fun w=>cD a6 w;obtain⟨I,J,rfl⟩:=h.form;unfold wrongF;obtain⟨R,x⟩:=ay (wrL s p ks (s.size+1) 0);rw[x];obtain⟨ak,C⟩:=ay ks.length;have G:A8 (eo w (A6 I ak J) ks/\ks.length<=1000):=⟨by rw[<-C];exact h,L⟩;have H:aeb s p ks (s.size+1) 0 R:=⟨x⟩;rw[C];obtain⟨ar,B⟩:=ay (az s p);have am:=aw B;rw[B]at a7;have bl:(p:Int)<(s.size:Int):=by omega
 clear h L x B C;go_in;go_wp2_with fail;go_loopw [7] (fun F wr=>∃(a d:Nat),p+a<=s.size/\s.size<p+a+d/\F= Q U a/\aeb s p ks d a R/\Y w.heap.size w wr) (fun F _=>s.size+1-(A7 F).toNat)
 case atStart=>exact⟨0,s.size+1,by omega,by omega,rfl,H,ag _ _⟩
 case round=>
  obtain⟨a,d,bd,bb,rfl,o,l⟩:=hrel;clear H;obtain⟨d,rfl⟩:∃a2,d=a2+1:=⟨d-1,by omega⟩;have b:=o.out;rw[wrL]at b;by_cases ad:p+a<s.size
  ·have a5:(p:Int)+(a:Int)<(s.size:Int):=by omega
   have bh:(0:Int)<=(p:Int)+(a:Int):=by omega
   have af:(s.extract p (p+a+1)).size=a+1:=by rw[iu];omega
   have m:=fun (W:A0) (a3:Y w.heap.size w W)=>If W (A6 I ak J) ks (s.extract p (p+a+1)) (G.out.1.below a3) G.out.2 (by omega) (by omega);have av:(p:Int)+(a:Int)+1<=(s.size:Int):=by omega
   have a0:IntKind.i64.wrap ((p:Int)+(a:Int)+1)=(p:Int)+(a:Int)+1:=by rw[di];omega
   have a1:((p:Int)+(a:Int)+1).toNat=p+a+1:=by omega
   have c:=aw l;obtain⟨al,u⟩:=ay (th ks (s.extract p (p+a+1)));rw[u]at m b;have a4:=c.out;cases al with
   |false=>
    rw[aa (fun h=>by cases h.2)]at b;have f:=aw b;clear b o l u af;go_wp2_with fail;refine aJ (m _ c.out) fun a8 g=>?_;clear m;go_wp2_with fail;go_ret;exact⟨by first|(rw[<-f.out,xe];rfl)|(rw[<-f.out];rfl),c.out.trans (g.mono c.out.size)⟩
   |true=>
    rw[ab ⟨ad,rfl⟩]at b;unfold wi at b;rw[am.out]at b;have n:=fun w=>gg s (by omega) ((p:Int)+((a:Int)+1)) (p+(a+1)) (by omega) w;generalize lk s (p+(a+1))=K at n b;obtain⟨an,y⟩:=ay (cd ar);obtain⟨ao,z⟩:=ay (cd K);obtain⟨ap,A⟩:=ay (cu K);rw[y,z,A]at b;have r:=fun w=>iL y w;have t:=fun w=>iL z w;have q:=fun w=>dw A w;have a9:=aw l;clear y z A o l u af a4;go_wp2_with fail;refine aJ (m _ c.out) fun a8 g=>?_;clear m av a0 a1;cases an with
    |false=>
     have k:aeb s p ks d (a+1) R:=⟨b⟩;clear b t q n;go_wp2_with (first|(go_at_call 88;with_reducible refine dK (r _) ?_));exact⟨⟨a+1,d,by omega,by omega,by go_num,k,c.out.trans (g.mono c.out.size)⟩,by simp[A7];omega⟩
    |true=>
     cases ao with
     |true=>
      have k:aeb s p ks d (a+1) R:=⟨b⟩;clear b q;go_wp2_with (first|(go_at_call 88;with_reducible refine dK (r _) ?_)|(go_at_call 88;with_reducible refine dK (t _) ?_)|(go_at_call 87;refine dK (n _) ?_));exact⟨⟨a+1,d,by omega,by omega,by go_num,k,c.out.trans (g.mono c.out.size)⟩,by simp[A7];omega⟩
     |false=>
      cases ap with
      |true=>
       have k:aeb s p ks d (a+1) R:=⟨b⟩;clear b;go_wp2_with (first|(go_at_call 88;with_reducible refine dK (r _) ?_)|(go_at_call 88;with_reducible refine dK (t _) ?_)|(go_at_call 90;refine dK (q _) ?_)|(go_at_call 87;refine dK (n _) ?_));exact⟨⟨a+1,d,by omega,by omega,by go_num,k,c.out.trans (g.mono c.out.size)⟩,by simp[A7];omega⟩
      |false=>
       have f:=aw b;clear b;go_wp2_with (first|(go_at_call 88;with_reducible refine dK (r _) ?_)|(go_at_call 88;with_reducible refine dK (t _) ?_)|(go_at_call 90;refine dK (q _) ?_)|(go_at_call 87;refine dK (n _) ?_));go_ret;exact⟨by first|(rw[<-f.out,xe,xe];rfl)|(rw[<-f.out,xe];rfl)|(rw[<-f.out];rfl),c.out.trans (g.mono c.out.size)⟩
  ·rw[aa (fun h=>ad h.1)]at b;have f:=aw b;have a5:¬(p:Int)+(a:Int)<(s.size:Int):=by omega
   clear b o;go_wp2_with fail;go_ret;exact⟨by first|(rw[<-f.out,xe];rfl)|(rw[<-f.out];rfl),l⟩
theorem Sp.nds{E:Pe}{W:A0}{i:Nat}{a:List Mb}{B:List (Nat×Array X)}(h:Sp E W i a B){v:X}(e:W.ownsRow E.base 53 9 v a.length (lH a)):fx W v (a.map Mb.N):=by
 rcases bp e with⟨t,rfl⟩|⟨s,r,rfl⟩
 ·exact .inl ⟨by rw[jK t];rfl,_,_,rfl⟩
 ·refine .inr ⟨⟨s,0,O⟩,r,by rw[dc],fun i N b=>?_⟩;rw[cA]at b;cases hx:a[i]? with
  |none=>rw[hx]at b;cases b
  |some c=>
   rw[hx]at b;obtain rfl:=bu b;rw[yu];obtain⟨f,g,k,l,m,n,o,p,q⟩:=um e hx;have d:=h.each c (cJ hx);exact⟨c.vn,c.vk,f,g,k,l,m,n,o,p,q,yv d.1,qy d.2⟩
theorem Sp.otherT{E:Pe}{W d:A0}{i:Nat}{r:List Mb}{B:List (Nat×Array X)}(h:Sp E W i r B){b:Nat}{cs:Array X}{fr:Nat×Nat}(m:W.heap[b]?=V (Ax cs 26 fr))(af:E.tb≠b)(t:W.grownBy d (V b)):Sp E d i r B:=by
 obtain⟨G,H,J,K⟩:=h.tks;obtain⟨v,k,I,l⟩:=h.row;have p:∀c f q g,W.heap[c]?=V (Ax f q g)->c≠b->d.heap[c]?=V (Ax f q g):=fun c f q g u ad=>(t.block c (ah u) (fun a=>ad (by cases a;rfl))).trans u;have o:∀{s a A y:Nat}{v:X}{F:List X},W.ownsRow s a A v y F->26≠a->d.ownsRow s a A v y F:=fun z L=>z.kept t (by
  cases hv:A1 _ with
  |none=>exact .inl rfl
  |some ak=>exact .inr (fun a=>gA z m L (by rw[hv,a])))
 refine⟨h.lo,h.hn,⟨G,H,p _ _ _ _ J af,K⟩,⟨v,p _ _ _ _ k (fun a=>by rw[a,m]at k;cases k),o I (by decide),fun e n=>⟨p _ _ _ _ (l e n).1 (fun a=>?_),(l e n).2⟩⟩,fun C x=>⟨o (h.each C x).1 (by decide),o (h.each C x).2 (by decide)⟩,h.nb⟩;have:=(l e n).1;rw[a,m]at this;simp only[dr,gE]at this;exact absurd this.2.1 (by decide)
theorem Sp.new{W:A0}{a cap n:Nat}{tk:Nat->Tk}{b:Array X}{fr:Nat×Nat}(d:W.heap[a]?=V (Ax b 96 fr))(e:TkR b tk n)(g:n<=1048576)(o:Obj):Sp ⟨W.heap.size,W.heap.size+1,a,cap,n,tk⟩ ((W.alloc o).alloc (Ax #[A6 (V ⟨a,0,O⟩) n cap,Q U 0,A6 O 0 0] 85)) 0 [] []:=by
 have c:=(bg W o).trans ((bg (W.alloc o) (Ax #[A6 (V ⟨a,0,O⟩) n cap,Q U 0,A6 O 0 0] 85)).mono (by simp));refine⟨by show W.heap.size<=W.heap.size+1;omega,g,⟨b,fr,(c.block _ (ah d)).trans d,e⟩,⟨A6 O 0 0,?_,bc _ _ _ _,fun c f=>by cases f⟩,fun k h=>(by cases h),AF⟩;have:=aj (W.alloc o) (Ax #[A6 (V ⟨a,0,O⟩) n cap,Q U 0,A6 O 0 0] 85);rw[aF]at this;exact this
theorem ahl(s:ByteArray)(W:A0)(o cap n j:Nat)(tk:Nat->Tk)(bt:Array X)(fr:Nat×Nat)(b5:W.heap[o]?=V (.cells bt 96 fr))(bA:TkR bt tk n)(cy:n<=1048576)(eb:s.size<=1048576){R:Fo}(hS:CL ⟨W.heap.size,W.heap.size+1,o,cap,n,tk⟩ 31 #[pV ⟨W.heap.size,W.heap.size+1,o,cap,n,tk⟩,.int .i64 6] 0 R j)(d7:R.sz<=40000000):
  A9 A3 14 #[.string s,.slice (V ⟨o,0,O⟩) n cap] W fun e w'=>∃v bo,e= .returned (.agg #[v])/\Lw w' W.heap.size v bo/\bo.map Mb.N=(one ⟨1,0,(s.size:Nat),1,0,0,⟨#[]⟩,[],[]⟩ R).flat 0/\Y W.heap.size W w':=by
 obtain⟨E,a4⟩:∃E:Pe,(⟨W.heap.size,W.heap.size+1,o,cap,n,tk⟩:Pe)=E:=⟨_,rfl⟩;have K:=Sp.new (cap:=cap) b5 bA cy (.cells #[.slice O 0 0] 26);rw[a4]at K hS;have bw:E.base=W.heap.size:=by rw[<-a4]
 have F:E.pb=W.heap.size+1:=by rw[<-a4]
 have a0:=(bg W (.cells #[.slice O 0 0] 26)).trans ((bg (W.alloc (.cells #[.slice O 0 0] 26)) (.cells #[.slice (V ⟨o,0,O⟩) n cap,.int .i64 0,.slice O 0 0] 85)).mono (by simp));have a8:((W.alloc (.cells #[.slice O 0 0] 26)).alloc (.cells #[.slice (V ⟨o,0,O⟩) n cap,.int .i64 0,.slice O 0 0] 85)).heap[W.heap.size]?=V (.cells #[.slice O 0 0] 26 (0,0)):=(bm _ _ _ (by simp)).trans (aj W _);obtain⟨L,bD⟩:=ay ((W.alloc (.cells #[.slice O 0 0] 26)).alloc (.cells #[.slice (V ⟨o,0,O⟩) n cap,.int .i64 0,.slice O 0 0] 85));rw[bD]at K a0 a8;have cg:=gl.start K;have an:=nA cg (dy ⟨1,0,(s.size:Nat),1,0,0,⟨#[]⟩,[],[]⟩ s0 s0);have b4:pV E= .pointer (V ⟨W.heap.size+1,0,O⟩):=by show Value.pointer (V ⟨E.pb,0,O⟩)=_;rw[F]
 have c0:L.heap.size=W.heap.size+1+1:=by rw[<-bD];simp
 have bn:=gK a8 a0;unfold CL at hS;rw[b4]at hS;clear K b5 bA a8 a0 b4;go_in;go_wp2_with fail;rw[c0]at an;refine(hS _ _ _ an.out.sp (by simp;omega)).mono ?_;rintro e ds ⟨v,u,rfl,⟨cm,_⟩,bd,bk⟩;have ch:=aw bd;obtain⟨b,c,rfl⟩:=bz bd;have ao:=nP an bk;have ac:=aw bk.ac;have cz:E.base<=W.heap.size+1+1:=by omega
 obtain⟨eh,ei,ek,el,em,en,ep,eq,er,es⟩:=nC ao;obtain⟨br,b7⟩:=nK ao cz (.slice b R.len c);have p:=aw br;have bs:=oK ch b7 (.inl rfl);clear bd bk b7 cm br ao;obtain⟨f,cs⟩:=ay (ds.setCell ⟨W.heap.size+1+1,8,O⟩ (.slice b R.len c));rw[cs]at p bs;obtain⟨v,B,a2,d6⟩:=p.out.sp.row;obtain⟨z,A,rfl⟩:=bz a2;rw[F]at B;have a1:f.cell? ⟨W.heap.size+1,2,O⟩=V (.slice z u.length A):=by rw[aq _ _ _ _ _ _ B];rfl
 obtain⟨a,a7⟩:=ay u.length;rw[a7]at a1 B a2;have a6:f.heap[W.heap.size+1+1]?=V (.cells (dy ⟨1,0,(s.size:Nat),1,0,0,⟨#[]⟩,[],R.tops 0⟩ s0 (.slice b R.len c)) 53 (0,0)):=p.out.sp.box (bK ..);go_wp2_with fail;refine wp_region_held_drew (S:=fun ap=>ap.heap[W.heap.size+1+1]?=V (.cells (dy ⟨1,0,(s.size:Nat),1,0,0,⟨#[]⟩,[],R.tops 0⟩ s0 (.slice b R.len c)) 53 (0,0))) (by kernel_rfl) a6 (fun t=>?_);simp only[gi,bv,dd,Nat.reduceAdd,gh,gC,gD,de,ej];refine bq 0 (.pointer (V ⟨W.heap.size+1,0,O⟩)) rfl rfl (by kernel_rfl) (fun _ _ _=>id) t (fun w' x=>by go_simp) ?_;simp only[List.set];refine bq 1 (.pointer (V ⟨W.heap.size+1,0,O⟩)) rfl rfl (by kernel_rfl) (fun _ _ _=>id) t (fun w' x=>by go_simp) ?_;simp only[List.set];refine bq 2 (.pointer (V ⟨W.heap.size+1,0,O⟩)) rfl rfl (by kernel_rfl) (fun _ _ _=>id) t (fun w' x=>by go_simp) ?_;simp only[List.set];refine bq 3 (.pointer (V ⟨W.heap.size+1,2,O⟩)) rfl rfl (by kernel_rfl) (fun _ _ _=>id) t (fun w' x=>by go_simp) ?_;simp only[List.set];refine J3 5 21 (.agg #[.int .i64 1,.int .i64 0,.int .i64 (s.size:Nat),.int .i64 1,.int .i64 0,.int .i64 0,.string ⟨#[]⟩,.slice O 0 0,.slice b R.len c]) rfl rfl (by kernel_rfl) (by kernel_rfl) (by kernel_rfl) (fun _ _ _ a3=>a3) (by rfl) t (fun w' x=>by obtain⟨z0,et,ev,e0,e1,e2,e3,am,ce,e4⟩:=ax (N:=⟨1,0,(s.size:Nat),1,0,0,⟨#[]⟩,[],R.tops 0⟩) (vn:=s0) (vk:= .slice b R.len c) x;go_simp) ?_;simp only[Act.put,bG,bH,bI];have cr:=a1;refine qz (S:=fun ap=>ap.cell? ⟨W.heap.size+1,2,O⟩=V (.slice z a A)) (C:=fun j=>!(j==7||j==8||j==9||j==10)) (i:=4) (v:= .slice z a A) rfl (wJ (by kernel_rfl)) (fun _ _ _ a3=>a3) ?hC _ _ _ _ (wL rfl (by kernel_rfl)) (List.contains_iff_mem.1 (by kernel_rfl)) (Or.inl ⟨by rfl,fun w' x=>by go_simp⟩) t cr ?_
 case hC=>
  intro j ed b2 k;simp only[Bool.not_eq_false',xd,ix]at k;rcases k with((rfl|rfl)|rfl)|rfl
  ·obtain rfl:=bu b2;exact⟨{on:=4,ground:=Ground.data},by simp,rfl,rfl⟩
  all_goals
   obtain rfl:=bu b2;exact⟨{on:=4,ground:=Ground.phase},by simp,rfl,rfl⟩
 simp only[Act.put,bG,bH,bI];refine du (i:=6) (by kernel_rfl) rfl (fun l d=>?_);go_simp;have a5:Y f.heap.size f (f.drew.alloc (.cells (dy ⟨1,0,(s.size:Nat),1,0,0,⟨#[]⟩,[],R.tops 0⟩ s0 (.slice b R.len c)) 53)):=(cj (ag _ _)).alloc (by simp) _;refine d.out _ _ ((a5.block _ (ah a6)).trans a6) (fun _=>ai a5 a1) ?_;clear d l;try simp only[bG,bH,bI]
 obtain⟨ad,G⟩:=ay ((f.alloc (.cells (dy ⟨1,0,(s.size:Nat),1,0,0,⟨#[]⟩,[],R.tops 0⟩ s0 (.slice b R.len c)) 53)).drew);have r:Y f.heap.size f ad:=by rw[<-G];exact cj (bg f _)
 have c1:ad.heap[f.heap.size]?=V (.cells (dy ⟨1,0,(s.size:Nat),1,0,0,⟨#[]⟩,[],R.tops 0⟩ s0 (.slice b R.len c)) 53 (0,0)):=by rw[<-G];exact aj f _
 simp only[dy]at G;rw[G];clear G a5 t;have dn:=p.out.sp.below r;have c9:=(r.block _ (ah B)).trans B;have cn:=aE a2 r;have b3:=p.out.sp.lt;have cx:=ac.out.len;have ea:a<=50000000:=by rw[<-a7,cx];simp;omega
 obtain⟨c2,c3,c4,c5,c6⟩:=dt Ff;refine du (i:=7) (by kernel_rfl) rfl (fun l d=>?_);refine step_append_lies _ (by rfl) _ _ 24 (by rfl) E.base 53 c2 _ 9 112 Tryz.underlying24 c3 c4 c5 c6 rfl (by decide) (.slice z a A) a _ (by rfl) cn ⟨f.heap.size,0,O⟩ 1 1 (dy ⟨1,0,(s.size:Nat),1,0,0,⟨#[]⟩,[],R.tops 0⟩ s0 (.slice b R.len c)).toList (by rfl) rfl (World.news_of_block c1) (by intro eg b6;simp at b6;rcases b6 with rfl|rfl|rfl|rfl|rfl|rfl|rfl|rfl|rfl<;>rfl) (by decide) (by unfold maxLen;omega) (by omega) (bF b3.2 r.size) ad.heap.size rfl ?_;intro h g m bh b1 b0 d9;have ex:lH u++(dy ⟨1,0,(s.size:Nat),1,0,0,⟨#[]⟩,[],R.tops 0⟩ s0 (.slice b R.len c)).toList=lH (u++[⟨⟨1,0,(s.size:Nat),1,0,0,⟨#[]⟩,[],R.tops 0⟩,s0,.slice b R.len c⟩]):=by rw[BH];show _=lH u++(cMb _++[]);rw[da];rfl
 rw[ex]at bh;have b9:ad.ownsRow E.base 3 1 (.slice b R.len c) (R.tops 0).length ((R.tops 0).map (Value.int .i64)):=by rw[Fo.tops_len];exact aE bs.out r
 obtain⟨J,a9,ar,af⟩:=dn.push (by rw[F];exact c9) (by rw[a7]) ⟨⟨1,0,(s.size:Nat),1,0,0,⟨#[]⟩,[],R.tops 0⟩,s0,.slice b R.len c⟩ bh b1 b0 (bc _ _ _ _) b9;rw[F]at J a9 ar af;have am:m.heap[W.heap.size+1+1]?=V (.cells (dy ⟨1,0,(s.size:Nat),1,0,0,⟨#[]⟩,[],R.tops 0⟩ s0 (.slice b R.len c)) 53 (0,0)):=by
  have I:=J.box (bK ..);rw[aD _ _ _ _ (by show W.heap.size+1+1≠W.heap.size+1;omega)]at I;exact I
 have ce:=J.box (bK ..);have dz:m.cell? ⟨W.heap.size+1,2,O⟩=V (.slice z a A):=by rw[aq _ _ _ _ _ _ af];rfl
 have d4:m.frozen? ⟨W.heap.size+1,2,O⟩=A2:=cC _ _ _ _ _ af;have al:(m.setCell ⟨W.heap.size+1,2,O⟩ (.slice (V ⟨h,0,O⟩) (a+1) g)).heap[W.heap.size+1]?=V (.cells #[.slice (V ⟨E.tb,0,O⟩) E.n E.cap,.int .i64 j,.slice (V ⟨h,0,O⟩) (a+1) g] 85 (0,0)):=bi _ _ 2 _ _ _ af;have y:A8 (Sp E (m.setCell ⟨W.heap.size+1,2,O⟩ (.slice (V ⟨h,0,O⟩) (a+1) g)) j (u++[⟨⟨1,0,(s.size:Nat),1,0,0,⟨#[]⟩,[],R.tops 0⟩,s0,.slice b R.len c⟩]) ((W.heap.size+1+1,dy ⟨1,0,(s.size:Nat),1,0,0,⟨#[]⟩,[],R.tops 0⟩ s0 (.slice b R.len c))::[])/\Kt L (m.setCell ⟨W.heap.size+1,2,O⟩ (.slice (V ⟨h,0,O⟩) (a+1) g))/\Y E.base L (m.setCell ⟨W.heap.size+1,2,O⟩ (.slice (V ⟨h,0,O⟩) (a+1) g))):=
  ⟨J,(p.out.kt.trans (Kt.of_below r)).trans a9,(p.out.bl.trans (r.mono b3.2)).trans ar⟩
 clear J a9 ar b9 ex bh b1 b0;refine d.out _ _ am (fun k=>by cases k) ?_;clear d l;simp only[Act.put,bG,bH,bI];refine du (i:=8) (by kernel_rfl) rfl (fun l d=>?_);go_simp;refine d.out _ _ am (fun k=>by cases k) ?_;clear d l;try simp only[bG,bH,bI]
 refine du (i:=9) (by kernel_rfl) rfl (fun l d=>?_);go_simp;refine d.out _ _ am (fun k=>by cases k) ?_;clear d l;try simp only[bG,bH,bI]
 refine du (i:=10) (by kernel_rfl) rfl (fun l d=>?_);go_simp;refine d.out _ _ ce (fun k=>by cases k) ?_;clear d l;refine sH (by kernel_rfl) ?_ _;have cl:(m.setCell ⟨W.heap.size+1,2,O⟩ (.slice (V ⟨h,0,O⟩) (a+1) g)).cell? ⟨W.heap.size+1,2,O⟩=V (.slice (V ⟨h,0,O⟩) (a+1) g):=by rw[aq _ _ _ _ _ _ al];rfl
 obtain⟨q,bE⟩:=ay (m.setCell ⟨W.heap.size+1,2,O⟩ (.slice (V ⟨h,0,O⟩) (a+1) g));rw[bE]at y cl al⊢;have H:q.heap[W.heap.size]?=V (.cells #[.slice O 0 0] 26 (0,0)):=y.out.2.1.blk bn.out.1 (by decide) (by decide);have d2:q.cell? ⟨W.heap.size,0,O⟩=V (.slice O 0 0):=by rw[aq _ _ _ _ _ _ H];rfl
 have d3:q.frozen? ⟨W.heap.size,0,O⟩=A2:=cC _ _ _ _ _ H;have cf:=aw al;clear bE al;go_wp2_with fail;have cw:q.grownBy (q.setCell ⟨W.heap.size,0,O⟩ (.slice (V ⟨h,0,O⟩) (a+1) g)) (V W.heap.size):=⟨rfl,rfl,rfl,by simp[World.setCell],fun ec d8 cB=>aD _ _ _ _ (fun e=>cB (by rw[e]))⟩;obtain⟨d1,d5,cc,_⟩:=y.out.1.tks;have cF:E.tb≠W.heap.size:=fun e=>by rw[e,H]at cc;cases cc
 have cb:=y.out.1.otherT H cF cw;have cI:(q.setCell ⟨W.heap.size,0,O⟩ (.slice (V ⟨h,0,O⟩) (a+1) g)).heap[E.pb]?=V (.cells #[.slice (V ⟨E.tb,0,O⟩) E.n E.cap,.int .i64 j,.slice (V ⟨h,0,O⟩) (a+1) g] 85 (0,0)):=by rw[F,aD _ _ _ _ (by show W.heap.size+1≠W.heap.size;omega)];exact cf.out
 obtain⟨dq,I,dk,ef⟩:=cb.row;obtain rfl:dq= .slice (V ⟨h,0,O⟩) (a+1) g:=by rw[cI]at I;cases I;rfl
 have ca:Lw _ E.base _ _:=⟨dk,cb.each⟩;rw[bw]at ca;obtain⟨M,bx,cq,_⟩:=ac.out;rw[de]at bx;exact ba (eu rfl _ _ W.heap.size _ _ _ _ rfl (bi _ _ 0 _ _ _ H) Tryz.underlying26 rfl (by kernel_rfl)) rfl ⟨_,_,rfl,ca,by rw[bx,ee,cq];rfl,bn.out.2.trans ((by have:=y.out.2.2;rw[bw]at this;exact this:Y W.heap.size L q).setCell (ae _) _)⟩
structure Pp (E:Pe) (w:A0) (i:Nat):Prop where
 hn:E.n<=1048576
 tks:∃cs fr,w.heap[E.tb]?=V (.cells cs 96 fr)/\TkR cs E.tk E.n
 row:w.heap[E.pb]?=V (.cells #[.slice (V ⟨E.tb,0,O⟩) E.n E.cap,.int .i64 i] 99 (0,0))
 pg:4<E.pb
 pw:∃tt fr,w.heap[4]?=V (.cells Ie tt fr)
def Rv(w:A0)(lo:Nat)(ex:Option Nat)(t:A5)(v:X)(b:List X):Prop:=w.ownsRow lo t 1 v b.length b/\∀a,v.ownBlock=V a->ex≠V a
def rC(w:A0)(lo:Nat)(ex:Option Nat):Fo->List X->List Nat->Prop
 | .nil,vs,a=>vs=[]/\a=[]
 | .cons N k r,vs,a=>∃b f vn vk kv e c d,(vs=ey N.k b::e/\a=vn.ownBlock.toList++(c++d))/\(lo<=b/\ex≠V b/\fy w b N vn f vk/\lE N (dF N.k)=N)/\Rv w lo ex 9 vn (N.nm.map Z)/\Rv w lo ex 102 vk kv/\rC w lo ex k kv c/\rC w lo ex r e d
def zt(w:A0)(lo:Nat)(ex:Option Nat)(R:Fo)(vs:List X):Prop:=∃a,rC w lo ex R vs a
def mB(M:List (X×List ByteArray)):List Nat:=M.flatMap fun a=>a.1.ownBlock.toList
theorem nd3{a b c:List Nat}{n:Nat}(h:(a++c).Nodup)(m:b.Nodup)(f:∀x∈a++c,x<n)(g:∀x∈b,n<=x):((a++b)++c).Nodup:=by
 rw[tI]at h;obtain⟨l,o,p⟩:=h;have q:∀x∈a,∀d∈b,x≠d:=fun x hx d e k=>by have:=f x (List.mem_append_left _ hx);have:=g d e;omega
 have r:∀x∈b,∀d∈c,x≠d:=fun x hx d e k=>by have:=f d (Ei _ e);have:=g x hx;omega
 rw[tI,tI];refine⟨⟨l,m,q⟩,o,fun x hx d e=>?_⟩;rcases List.mem_append.1 hx with hx|hx
 ·exact p x hx d e
 ·exact r x hx d e
theorem Fq(o:Option Nat):o.toList.Nodup:=by cases o<;>simp
section
variable {w w' : World} {lo lo' : Nat} {ex ex' : Option Nat}
theorem Rv.mono{t:A5}{v:X}{e:List X}(o:Rv w lo ex t v e)(h:∀k,lo<=k->ex≠V k->k<w.heap.size->w'.heap[k]?=w.heap[k]?/\lo'<=k/\ex'≠V k):Rv w' lo' ex' t v e:=
 ⟨mE o.1 (fun a b c d=>⟨(h a c (o.2 a b) d).1,(h a c (o.2 a b) d).2.1⟩),fun a b=>(h a (o.1.lt a b).1 (o.2 a b) (o.1.lt a b).2).2.2⟩
theorem rC.mono(h:∀k,lo<=k->ex≠V k->k<w.heap.size->w'.heap[k]?=w.heap[k]?/\lo'<=k/\ex'≠V k):∀(R:Fo)(vs:List X)(a:List Nat),rC w lo ex R vs a->rC w' lo' ex' R vs a
 | .nil,vs,a,q=>q
 | .cons N k r,vs,a,⟨b,t,vn,vk,kv,l,f,g,e,⟨m,n,d,o⟩,s,p,u,x⟩=>by
  have c:=h b m n (ah d);exact⟨b,t,vn,vk,kv,l,f,g,e,⟨c.2.1,c.2.2,c.1.trans d,o⟩,s.mono h,p.mono h,rC.mono h k kv f u,rC.mono h r l g x⟩
theorem rC.app:∀(R:Fo)(vs:List X)(a:List Nat){S:Fo}{us:List X}{cs:List Nat},rC w lo ex R vs a->rC w lo ex S us cs->rC w lo ex (R.app S) (vs++us) (a++cs)
 | .nil,vs,a,S,us,cs,q,p=>by obtain⟨rfl,rfl⟩:=q;exact p
 | .cons u x r,vs,a,S,us,cs,⟨d,m,t,s,kv,c,f,b,⟨g,h⟩,e,l,k,n,o⟩,p=>⟨d,m,t,s,kv,c++us,f,b++cs,⟨by rw[g];rfl,by rw[h];simp only[dh]⟩,e,l,k,n,rC.app r c b o p⟩
theorem rC.lt:∀(R:Fo)(vs:List X)(a:List Nat),rC w lo ex R vs a->∀g∈a,lo<=g/\g<w.heap.size
 | .nil,vs,a,q=>by obtain⟨rfl,rfl⟩:=q;intro g hg;cases hg
 | .cons n e l,vs,a,⟨o,t,x,u,kv,m,b,c,⟨r,d⟩,p,f,s,h,k⟩=>by
  intro g hg;rw[d]at hg;rcases List.mem_append.1 hg with hg|hg
  ·exact f.1.lt g (by simpa using hg)
  rcases List.mem_append.1 hg with hg|hg
  ·exact rC.lt e kv b h g hg
  ·exact rC.lt l m c k g hg
theorem zt.len:∀(R:Fo)(vs:List X),zt w lo ex R vs->vs.length=R.len
 | .nil,vs,⟨b,q⟩=>by obtain⟨rfl,rfl⟩:=q;rfl
 | .cons g m e,vs,⟨b,h,p,t,s,kv,f,l,a,c,k,o,n,r,d⟩=>by rw[c.1,bv,zt.len e f ⟨a,d⟩];rfl
end
abbrev Bxs:=List (Nat×A5×Array X)
abbrev tkB(b:Nat)(t:Tk):Nat×A5×Array X:=(b,96,ew t.k t)
structure Sw (E:Pe) (W w:A0) (i:Nat) (kv:X) (kn:List X) (D:Fo) (vs:List X) (T:Bxs) (M:List (X×List ByteArray)):Prop where
 pp:Pp E w i
 gr:W.grownBy w (V E.pb)
 lt:E.pb<W.heap.size
 ro:w.ownsRow W.heap.size 102 1 kv kn.length kn
 nb:∃bs,rC w W.heap.size kv.ownBlock D vs bs/\(bs++mB M).Nodup
 tb:∀p∈T,W.heap.size<=p.1/\(p.2.1≠102/\p.2.1≠9)/\w.heap[p.1]?=V (.cells p.2.2 p.2.1 (0,0))
 nm:∀p∈M,w.ownsRow W.heap.size 9 1 p.1 (p.2.map Z).length (p.2.map Z)
section
variable {E : Pe} {W w w' : World} {i j : Nat} {kv v : Value} {kn vs us ws : List Value} {D R : Fo} {T : Bxs} {M : List (Value × List ByteArray)}
theorem Sw.nn(h:Sw E W w i kv kn D vs T M):zt w W.heap.size kv.ownBlock D vs:=h.nb.elim fun a b=>⟨a,b.1⟩
theorem aec(nm:∀p∈M,w.ownsRow W.heap.size 9 1 p.1 (p.2.map Z).length (p.2.map Z)):∀g∈mB M,g<w.heap.size:=fun g a=>by
 obtain⟨p,b,a⟩:=List.mem_flatMap.1 a;exact((nm p b).lt g (by simpa using a)).2
theorem Pp.lt(h:Pp E w i):E.pb<w.heap.size:=ah h.row
theorem Pp.keep(h:Pp E w i)(g:w.grownBy w' O):Pp E w' i:=by
 obtain⟨c,e,a,f⟩:=h.tks;obtain⟨k,d,b⟩:=h.pw;exact⟨h.hn,⟨c,e,(g.block _ (ah a) (by simp)).trans a,f⟩,(g.block _ h.lt (by simp)).trans h.row,h.pg,k,d,(g.block _ (ah b) (by simp)).trans b⟩
theorem Sw.start(h:Pp E w i):A8 (Sw E w w i s0 [] .nil [] [] []):=⟨h,sA _ _,h.lt,bc _ _ _ _,⟨[],⟨rfl,rfl⟩,AF⟩,fun b a=>(by cases a),fun b a=>(by cases a)⟩
theorem Sw.step(h:Sw E W w i kv kn D vs T M)(g:w.grownBy w' (V E.pb))(p:Pp E w' j):Sw E W w' j kv kn D vs T M:=by
 have e:∀b,W.heap.size<=b->b<w.heap.size->w'.heap[b]?=w.heap[b]?:=fun b a c=>g.block b c (fun e=>by have:=h.lt;cases e;omega);obtain⟨f,l,m⟩:=h.nb;exact⟨p,h.gr.trans g,h.lt,mE h.ro (fun g _ a c=>⟨e g a c,a⟩),⟨f,rC.mono (fun b a c k=>⟨e b a k,a,c⟩) _ _ _ l,m⟩,fun p d=>⟨(h.tb p d).1,(h.tb p d).2.1,(e _ (h.tb p d).1 (ah (h.tb p d).2.2)).trans (h.tb p d).2.2⟩,fun p d=>mE (h.nm p d) (fun g _ a c=>⟨e g a c,a⟩)⟩
theorem qg(b:Y w.heap.size w w')(q:Option Nat):w.grownBy w' q:=⟨b.os,b.tape,b.output,b.size,fun c a _=>b.block c a⟩
theorem sX(h:A8 (Sw E W w i kv kn D vs T M))(q:Pp E w' j/\w.grownBy w' (V E.pb)):A8 (Sw E W w' j kv kn D vs T M):=h.out.step q.2 q.1
theorem sB(h:A8 (Sw E W w i kv kn D vs T M))(b:Y w.heap.size w w'):A8 (Sw E W w' i kv kn D vs T M):=h.out.step (qg b _) (h.out.pp.keep (qg b _))
theorem Sw.sub(h:Sw E W w i kv kn D vs T M)(s:Sw E w w' j v us R ws [] []):Sw E W w' j kv kn (D.app R) (vs++ws) T M:=by
 have b:=h.step s.gr s.pp;have x:=h.gr.size;obtain⟨u,y,z⟩:=b.nb;obtain⟨o,l,q⟩:=h.nb;obtain⟨p,m,t⟩:=s.nb;obtain⟨c,r,p2⟩:∃c,rC w' W.heap.size kv.ownBlock D vs c/\(c++mB M).Nodup/\∀a∈c,a<w.heap.size:=⟨o,rC.mono (w:=w) (fun e f g k=>⟨s.gr.block e k (fun d=>by have:=h.lt;cases d;omega),f,g⟩) _ _ _ l,q,fun a hx=>(l.lt _ _ _ a hx).2⟩;refine⟨b.pp,b.gr,b.lt,b.ro,⟨c++p,rC.app _ _ _ r (rC.mono (fun e f g k=>⟨rfl,by omega,fun d=>?_⟩) _ _ _ m),nd3 (n:=w.heap.size) p2.1 (by simpa [mB] using t) (fun a hx=>?_) (fun a hx=>(m.lt _ _ _ a hx).1)⟩,b.tb,b.nm⟩
 ·have:=(h.ro.lt e d).2;omega
 ·rcases List.mem_append.1 hx with hx|hx
  ·exact p2.2 a hx
  ·exact aec h.nm a hx
theorem Sw.subL(h:Sw E W w i s0 [] D vs T M)(s:Sw E w w' j v us R ws [] []):Sw E W w' j v us (D.app R) (vs++ws) T M:=by
 have a:=h.step s.gr s.pp;have p:=h.gr.size;obtain⟨m,k,q⟩:=h.nb;obtain⟨o,l,r⟩:=s.nb;refine⟨a.pp,a.gr,a.lt,iE s.ro p,⟨m++o,rC.app _ _ _ (rC.mono (w:=w) (fun d e f g=>⟨s.gr.block d g (fun c=>by have:=h.lt;cases c;omega),e,fun c=>?_⟩) _ _ _ k) (rC.mono (fun d e f g=>⟨rfl,by omega,f⟩) _ _ _ l),nd3 (n:=w.heap.size) q (by simpa [mB] using r) (fun b hx=>?_) (fun b hx=>(l.lt _ _ _ b hx).1)⟩,a.tb,a.nm⟩
 ·have:=(s.ro.lt d c).1;omega
 ·rcases List.mem_append.1 hx with hx|hx
  ·exact(k.lt _ _ _ b hx).2
  ·exact aec h.nm b hx
theorem Sw.box(h:Sw E W w i kv kn D vs T M)(t:Tk):Sw E W (w.alloc (Ax (ew t.k t) 96)) i kv kn D vs (tkB w.heap.size t::T) M:=by
 have a:=sB (w:=w) h (bg w (Ax (ew t.k t) 96));refine⟨a.out.pp,a.out.gr,a.out.lt,a.out.ro,a.out.nb,fun b hp=>?_,a.out.nm⟩;rcases List.mem_cons.1 hp with rfl|hp
 ·exact⟨h.gr.size,⟨show 96≠102 by decide,show 96≠9 by decide⟩,aj w _⟩
 ·exact a.out.tb b hp
theorem Sw.lit(h:Sw E W w i s0 [] D vs T M)(us:List X)(n:us.length<=100):Sw E W (w.alloc (Ax us.toArray 102)) i (A6 (V ⟨w.heap.size,0,O⟩) us.length us.length) us D vs T M:=by
 have a:=sB (w:=w) h (bg w (Ax us.toArray 102));have l:=kC (base:=W.heap.size) (e:=102) (size:=1) w us.toArray us.length h.gr.size (by unfold maxLen;omega) (by simp);obtain⟨c,g,k⟩:=h.nb;refine⟨a.out.pp,a.out.gr,a.out.lt,by simpa using l,⟨c,rC.mono (w:=w) (fun b d m f=>⟨(bg w _).block b f,d,fun e=>?_⟩) _ _ _ g,k⟩,a.out.tb,a.out.nm⟩;have:w.heap.size=b:=by simpa [A1] using e
 omega
theorem Sw.put(h:Sw E W w i kv kn D vs T M)(o:w'.ownsRow W.heap.size 102 1 v us.length us)(g:w.grownBy w' kv.ownBlock)(C:v.ownBlock=kv.ownBlock\/v.ownBlock=V w.heap.size):Sw E W w' i v us D vs T M:=by
 have b:∀a,a<w.heap.size->kv.ownBlock≠V a->w'.heap[a]?=w.heap[a]?:=fun a r m=>g.block a r (fun b=>m b.symm);have lo:∀a,kv.ownBlock=V a->W.heap.size<=a:=fun a c=>(h.ro.lt a c).1;have k:∀{a:Nat}{f:Array X}{s:A5}{l:Nat×Nat},w.heap[a]?=V (Ax f s l)->s≠102->w'.heap[a]?=V (Ax f s l):=fun c H=>(b _ (ah c) (gA h.ro c H)).trans c;obtain⟨f,l,L,ad⟩:=h.pp.tks;obtain⟨x,J,K⟩:=h.nb;obtain⟨al,A,u⟩:=h.pp.pw;have af:=(b _ (ah u) (fun b=>by have:=lo _ b;have:=h.lt;have:=h.pp.pg;omega)).trans u;refine⟨⟨h.pp.hn,⟨f,l,k L (by decide),ad⟩,k h.pp.row (by decide),h.pp.pg,al,A,af⟩,h.gr.andThen g (fun a c=> .inl (lo a c)),h.lt,o,⟨x,rC.mono (w:=w) (fun a r m t=>⟨b a t m,r,fun n=>?_⟩) _ _ _ J,K⟩,fun e d=>⟨(h.tb e d).1,(h.tb e d).2.1,k (h.tb e d).2.2 (h.tb e d).2.1.1⟩,fun e d=>?_⟩
 ·rcases C with q|q
  ·exact m (q ▸ n)
  ·rw[q]at n;cases n;exact AI _ t
 ·have q:=h.nm e d;obtain⟨B,p⟩:=q;refine⟨B,?_⟩;rcases p with p|⟨g,y,z,I,G,F,ak⟩
  ·exact .inl p
  ·exact .inr ⟨g,y,z,I,G,k F (by decide),ak⟩
theorem Sw.name(h:Sw E W w i kv kn D vs T M)(q:Pp E w' j/\w.grownBy w' (V E.pb)){ns:List ByteArray}(o:w'.ownsRow w.heap.size 9 1 v (ns.map Z).length (ns.map Z)):Sw E W w' j kv kn D vs T ((v,ns)::M):=by
 have a:=h.step q.2 q.1;obtain⟨c,d,m⟩:=h.nb;refine⟨a.pp,a.gr,a.lt,a.ro,⟨c,rC.mono (w:=w) (fun l f g k=>⟨q.2.block l k (fun e=>by have:=h.lt;cases e;omega),f,g⟩) _ _ _ d,?_⟩,a.tb,fun p hp=>?_⟩
 ·show(c++(v.ownBlock.toList++mB M)).Nodup;rw[<-dh];refine nd3 (n:=w.heap.size) m (Fq _) (fun b hx=>?_) (fun b hx=>(o.lt b (by simpa using hx)).1);rcases List.mem_append.1 hx with hx|hx
  ·exact(d.lt _ _ _ b hx).2
  ·exact aec h.nm b hx
 rcases List.mem_cons.1 hp with rfl|hp
 ·exact iE o h.gr.size
 ·exact a.nm p hp
theorem Sw.fin0(h:Sw E W w i kv vs D vs T M)(N:Nd)(vn:X)(m:lE N (dF N.k)=N)(q:w.ownsRow W.heap.size 9 1 vn (N.nm.map Z).length (N.nm.map Z))(cs:Array X)(n:cs=([Q U N.k,Q U N.f,Q U N.t,Q U N.l,Q U 0,kv]++LB N vn (dF N.k)).toArray)(st:A5)(s:st=uj (dF N.k)){M':List (X×List ByteArray)}(g:∀p∈M',p∈M)(o:∀b,(b++mB M).Nodup->((vn.ownBlock.toList++(b++[]))++mB M').Nodup):Sw E W (w.alloc (Ax cs st)) i s0 [] (one N D) [ey N.k w.heap.size] T M':=by
 subst n s;have a:=sB (w:=w) h (bg w (Ax ([Q U N.k,Q U N.f,Q U N.t,Q U N.l,Q U 0,kv]++LB N vn (dF N.k)).toArray (uj (dF N.k))));have c:=bg w (Ax ([Q U N.k,Q U N.f,Q U N.t,Q U N.l,Q U 0,kv]++LB N vn (dF N.k)).toArray (uj (dF N.k)));obtain⟨b,u,x⟩:=a.out.nb;exact⟨a.out.pp,a.out.gr,a.out.lt,bc _ _ _ _,⟨_,⟨w.heap.size,0,vn,kv,vs,[],b,[],⟨rfl,rfl⟩,⟨h.gr.size,by simp[A1],aj w _,m⟩,⟨aE q c,fun d _=>by simp[A1]⟩,⟨a.out.ro,fun d _=>by simp[A1]⟩,rC.mono (fun k e y z=>⟨rfl,e,by simp[A1]⟩) _ _ _ u,rfl,rfl⟩,o b x⟩,a.out.tb,fun p r=>a.out.nm p (g p r)⟩
theorem Sw.drop(h:Sw E W w i kv kn D vs T M){b:Bxs}{M':List (X×List ByteArray)}(d:∀p∈b,p∈T)(g:M'=M\/M'=[]):Sw E W w i kv kn D vs b M':=by
 obtain⟨c,e,f⟩:=h.nb;rcases g with rfl|rfl
 ·exact⟨h.pp,h.gr,h.lt,h.ro,⟨c,e,f⟩,fun p a=>h.tb p (d p a),h.nm⟩
 ·exact⟨h.pp,h.gr,h.lt,h.ro,⟨c,e,by rw[show mB []=[] from rfl,da];exact(List.nodup_append.1 f).1⟩,fun p a=>h.tb p (d p a),fun p a=>(by cases a)⟩
theorem Sw.boxg(h:Sw E W w i kv kn D vs T M)(cs:Array X)(t:A5)(b:t≠102)(c:t≠9):Sw E W (w.alloc (Ax cs t)) i kv kn D vs ((w.heap.size,t,cs)::T) M:=by
 have a:=sB (w:=w) h (bg w (Ax cs t));refine⟨a.out.pp,a.out.gr,a.out.lt,a.out.ro,a.out.nb,fun d hp=>?_,a.out.nm⟩;rcases List.mem_cons.1 hp with rfl|hp
 ·exact⟨h.gr.size,⟨b,c⟩,aj w _⟩
 ·exact a.out.tb d hp
end
def CN(E:Pe)(f:FuncId)(args:Array X)(i:Nat)(R:Fo)(j:Nat):Prop:=
 ∀w,Pp E w i->R.sz<=50000000->A9 A3 f args w fun a w'=>∃v,a= .returned v/\A8 (Sw E w w' j s0 [] R [v] [] [])
def CR(E:Pe)(f:FuncId)(args:Array X)(i:Nat)(R:Fo)(j:Nat):Prop:=
 ∀w,Pp E w i->R.sz<=50000000->A9 A3 f args w fun a w'=>∃v vs,a= .returned v/\A8 (Sw E w w' j v vs R vs [] [])
theorem Kf(w:A0)(o:A5)(fr:Nat×Nat)(f:w.heap[4]?=V (.cells Ie o fr))(kind:Int)(k:∀i,i<20->rJ.getD i 0≠kind):
  A9 A3 239 #[.int .i64 kind] w fun e w'=>e= .returned (.tuple #[.agg #[.int .i64 0,.int .i64 0,.int .i64 0],.bool A2])/\Y w.heap.size w w':=by
 have s:=ah f;have g:∀a,Y w.heap.size w (w.alloc a):=fun a=>(ag _ w).alloc (ae _) a;have p:A8 (li w.heap.size (w.alloc (.cells #[.int .i64 0,.int .i64 0,.int .i64 0] 245)) 0 0 0/\Y w.heap.size w (w.alloc (.cells #[.int .i64 0,.int .i64 0,.int .i64 0] 245))):=⟨aj w _,g _⟩;have q:=aw k;clear k;go_in;go_wp2_with (refine tL rfl 246 _ rfl 4 rfl o _ fr _ (((g _).block _ s).trans f) Tryz.underlying246 rfl (by kernel_rfl) ?_);go_loopw [7] (fun v wr=>∃b:Nat,b<=20/\v= .int .i64 b/\A8 (li w.heap.size wr 0 0 0/\Y w.heap.size w wr)) (fun v _=>20-(A7 v).toNat)
 case atStart=>exact⟨0,by omega,rfl,p.out⟩
 case round=>
  obtain⟨b,B,rfl,c⟩:=hrel;by_cases l:b<20
  ·have C:(b:Int)<20:=by omega
   have d:=fun w=>aia b l w;have t:=ah c.out.1;have h:∀a,Y wr.heap.size wr (wr.alloc a):=fun a=>(ag _ wr).alloc (ae _) a;have m:=q.out b l;generalize rK (3*b+1)=G at d;generalize rK (3*b+2)=H at d;generalize rJ.getD b 0=u at d m;have F:(u==kind)=A2:=by simpa using m
   have r:A8 (∀a,li w.heap.size (wr.alloc a) 0 0 0/\Y w.heap.size w (wr.alloc a)):=fun a=>⟨((h a).block _ t).trans c.out.1,c.out.2.trans ((h a).mono c.out.2.size)⟩;go_wp2_with fail;exact⟨⟨b+1,by omega,by go_num,r.out _⟩,by simp[A7];omega⟩
  ·obtain rfl:b=20:=by omega
   obtain⟨x,y,z,A⟩:=c.out.1.cells;have n:A8 (li w.heap.size (((wr.setCell ⟨w.heap.size,0,O⟩ (.int .i64 0)).setCell ⟨w.heap.size,1,O⟩ (.int .i64 0)).setCell ⟨w.heap.size,2,O⟩ (.int .i64 0)) 0 0 0/\Y w.heap.size w (((wr.setCell ⟨w.heap.size,0,O⟩ (.int .i64 0)).setCell ⟨w.heap.size,1,O⟩ (.int .i64 0)).setCell ⟨w.heap.size,2,O⟩ (.int .i64 0))):=⟨li.put c.out.1 0 0 0,((c.out.2.setCell (ae _) _).setCell (ae _) _).setCell (ae _) _⟩;go_wp2_with fail;exact ba (oH rfl _ _ _ ⟨w.heap.size,0,O⟩ (.bool A2) _ rfl rfl (aan _ _ _ _ _ n.out.1)) rfl ⟨rfl,n.out.2⟩
theorem aao:∀j,j<20->rK (3*j+1)=Gn (rJ.getD j 0)/\rK (3*j+2)=rpw (rJ.getD j 0)/\ia (rJ.getD j 0)=A4/\∀i,i<j->rJ.getD i 0≠rJ.getD j 0:=by decide
theorem aje{k:Int}(b:ia k=A4)(d:k<=78):∃j,j<20/\rJ.getD j 0=k:=by
 have c:k=10\/k=26\/60<k:=aC b;have a:k=10\/k=26\/k=61\/k=62\/k=63\/k=64\/k=65\/k=66\/k=67\/k=68\/k=69\/k=70\/k=71\/k=72\/k=73\/k=74\/k=75\/k=76\/k=77\/k=78:=by omega
 rcases a with rfl|rfl|rfl|rfl|rfl|rfl|rfl|rfl|rfl|rfl|rfl|rfl|rfl|rfl|rfl|rfl|rfl|rfl|rfl|rfl
 ·exact⟨1,by decide,rfl⟩
 ·exact⟨0,by decide,rfl⟩
 ·exact⟨14,by decide,rfl⟩
 ·exact⟨15,by decide,rfl⟩
 ·exact⟨16,by decide,rfl⟩
 ·exact⟨17,by decide,rfl⟩
 ·exact⟨18,by decide,rfl⟩
 ·exact⟨19,by decide,rfl⟩
 ·exact⟨11,by decide,rfl⟩
 ·exact⟨9,by decide,rfl⟩
 ·exact⟨10,by decide,rfl⟩
 ·exact⟨12,by decide,rfl⟩
 ·exact⟨13,by decide,rfl⟩
 ·exact⟨8,by decide,rfl⟩
 ·exact⟨2,by decide,rfl⟩
 ·exact⟨3,by decide,rfl⟩
 ·exact⟨4,by decide,rfl⟩
 ·exact⟨5,by decide,rfl⟩
 ·exact⟨6,by decide,rfl⟩
 ·exact⟨7,by decide,rfl⟩
