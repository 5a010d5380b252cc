import Derived.Test.YtnlhhmlcjbohbaaGreatDoorHNk04
import Derived.Test.YtnlhhmlcjbohbaaGreatDoorHNk11
import Derived.Test.YtnlhhmlcjbohbaaGreatDoorHNk15
import Derived.Deep.Strs
import Derived.OpenShut
import Derived.Lib.ItoaLen
import Derived.Lib.Join
set_option linter.all false
set_option maxRecDepth 100000
set_option maxHeartbeats 6400000
open Go.IntKind renaming i64->M
open Go.Value renaming int->O,string->V,bool->Y,agg->A5,slice->A9,int->Br,tuple->B1
open Go.Ending renaming returned->T
open Go.Proofs.Tryz renaming prog->U
open Go renaming Calls->X,World->Z,Value->B4
open Bool renaming false->Ax,true->B6
open Option renaming some->A0,none->B7
open Go.RowKit renaming Below->A2,intOf->B0,Hid->Cr
open List renaming replicate->B3
open Go.Obj renaming cells->Ce
open ByteArray renaming empty->Ck
namespace Go.Proofs.YtnlhhmlcjbohbaaGreatDoor
open Go.RowKit Go.Maps Go.WideMaps
variable{N:Nd}{R:Bool×Nat×List Int}{W W' w:World}{ks:List Int}{ns:List Nd}{vk vn vt:Value}
structure Kv (s:ByteArray) (f p:Nat) (a:List Int) (R:Bool×Nat×List Int):Prop where
 out:dI s f p a=R
def F3(p:Nat)(a:Bool×Nat×List Int):B4:=if a.1=B6 then A5 #[O M 4,O M p,O M (a.2.1:Int),O M 0,O M 0,V (ey a.2.2)] else A5 #[O M 4,O M p,O M 0,O M 0,O M 0,V ⟨#[]⟩]
def Kw(a:Bool×Nat×List Int):Int:=if a.1=B6 then -1 else(a.2.1:Int)
theorem F4{p a:Nat}{c:List Int}(h:(B6,a,c)=R):(Ending.returned (B1 #[A5 #[O M 4,O M p,O M (a:Int),O M 0,O M 0,V (ey c)],O M (-1)]))= T (B1 #[F3 p R,O M (Kw R)]):=by
 subst h;rfl
theorem uL{p a:Nat}{c:List Int}(h:(Ax,a,c)=R):(Ending.returned (B1 #[A5 #[O M 4,O M p,O M 0,O M 0,O M 0,V ⟨#[]⟩],O M (a:Int)]))= T (B1 #[F3 p R,O M (Kw R)]):=by
 subst h;rfl
theorem Ie(s:ByteArray)(cF:s.size<=70000)(p:Nat)(c0:p<s.size)(w:Z):X U 56 #[V s,A5 #[O M 0,O M p,O M 0,O M 0,O M 0,V ⟨#[]⟩]] w fun e bA=>
  e= T (B1 #[F3 p (dI s (s.size+1) (p+1) []),O M (Kw (dI s (s.size+1) (p+1) []))])/\A2 w.heap.size w bA:=by
 obtain⟨C,bl⟩:=aA (dI s (s.size+1) (p+1) []);rw[bl];have b0:Kv s (s.size+1) (p+1) [] C:=⟨bl⟩;go_in;go_wp2_with fail;go_loopw [6,7,8,9] (fun be ck dn dq wr=>∃(b j i:Nat) (g:List Int),be= O M b/\dE w.heap.size wr 4 p 0 0 0 ⟨#[]⟩/\dE (w.heap.size+1) wr 0 0 0 0 0 ⟨#[]⟩/\wr.ownsRow (w.heap.size+2) 5 1 ck j (B8 g)/\s.size<b+i/\b<=s.size/\j<=b/\Kv s i b g C/\A2 w.heap.size w wr/\w.heap.size+2<=wr.heap.size) (fun be _ _ _ _=>s.size-(B0 be).toNat)
 case atStart=>
  generalize b9:(w.alloc _).alloc _=cp;obtain⟨x,y,b7,c6⟩:=GI b9;exact⟨p+1,0,s.size+1,[],by go_num,x,y,cE _ _ _ _,by omega,by omega,by omega,b0,b7,by omega⟩
 case round=>
  obtain⟨b,j,i,g,rfl,x,y,z,cB,c4,cI,b1,l,m⟩:=hrel;obtain⟨cq,cr,cs,ct,cu,cv,cw⟩:=aJ x;obtain⟨z0,L,ad,ag,ak,al,ds⟩:=aJ y;obtain⟨i,rfl⟩:∃H,i=H+1:=⟨i-1,by omega⟩;have c:=b1.out;unfold dI at c;by_cases bn:b<s.size
  ·have ch:=jl bn;have cf:=fun w=>db bn w;have c1:(b:Int)<(s.size:Int):=by omega
   rw[aa (by omega)]at c;obtain⟨t,cb⟩:=aA (aq s b);rw[cb]at ch cf c;by_cases ar:t=34
   ·subst ar;rw[ab rfl]at c;have f:=aw c;rcases z.2 with⟨rfl,cc⟩|⟨H,am,cx,rfl,da⟩
    ·have ca:g=[]:=by have:=yw z;rw[cc]at this;exact nK this
     have bD:=aw ca;have cg:=yy;go_wp2_with fail;refine aI (v:= B1 #[A5 #[O M 4,O M p,O M ((b:Int)+1),O M 0,O M 0,V Ck],O M (-1)]) (by simp[results,Tryz.results56,go_sem,z0,L,ad,ag,ak,al]) rfl ⟨by have h:=f.out;rw[bD.out]at h;exact F4 h,?_⟩
     iterate 8 refine fJ ?_ (by simp) _
     exact l
    ·have cg:=oA (kI (a:=⟨w.heap.size,2,B7⟩) z (by simp) (O M ((b:Int)+1)));go_wp2_with fail;refine aI (v:= B1 #[A5 #[O M 4,O M p,O M ((b:Int)+1),O M 0,O M 0,V (ey g)],O M (-1)]) (by simp[results,Tryz.results56,go_sem,z0,L,ad,ag,ak,al]) rfl ⟨F4 f,?_⟩
     iterate 8 refine fJ ?_ (by simp) _
     exact l
   rw[aa ar]at c;have c7:(t==34)=Ax:=by simp[ar]
   by_cases av:t=10
   ·subst av;rw[ab rfl]at c;have f:=aw c;go_wp2_with fail;refine aI (v:= B1 #[A5 #[O M 4,O M p,O M 0,O M 0,O M 0,V ⟨#[]⟩],O M (b:Int)]) (by simp[results,Tryz.results56,go_sem,z0,L,ad,ag,ak,al]) rfl ⟨uL f,?_⟩
    iterate 6 refine fJ ?_ (by simp) _
    exact l
   rw[aa av]at c;have c8:(t==10)=Ax:=by simp[av]
   by_cases a6:t=92
   ·subst a6;rw[ab rfl]at c;have k:=fun w=>gK s (by omega) ((b:Int)+1) (b+1) (by omega) w;by_cases u:aq s (b+1)=110
    ·have q:=bz u;rw[show gJ s (b+1)=(10,b+1+1,B6) by unfold gJ;rw[ab u],ab rfl]at c;rw[tH q,u]at k;have f:Kv s i (b+1+1) (g++[10]) C:=⟨c⟩;go_wp2_with (first|(go_at_call 51;refine eH (k _) ?_)|(at_builtin;refine mz rfl (.tmp 51) (.tmp 52) rfl (w.heap.size+2) _ j g rfl z m (by omega) [10] 1 rfl (by decide) (by decide) _ rfl rfl ?_;intro H am w1 o d));go_roundw
     case rel=>exact⟨b+1+1,j+1,i,g++[10],by go_num,x.below d (by omega),y.below d (by omega),o,by omega,by omega,by omega,f,l.trans (d.mono (by omega)),bg m d.size⟩
     case measure=>simp[B0];omega
    by_cases E:aq s (b+1)=116
    ·have q:=bz E;rw[show gJ s (b+1)=(9,b+1+1,B6) by unfold gJ;rw[aa u,ab E],ab rfl]at c;rw[tH q,E]at k;have f:Kv s i (b+1+1) (g++[9]) C:=⟨c⟩;go_wp2_with (first|(go_at_call 51;refine eH (k _) ?_)|(at_builtin;refine mz rfl (.tmp 56) (.tmp 57) rfl (w.heap.size+2) _ j g rfl z m (by omega) [9] 1 rfl (by decide) (by decide) _ rfl rfl ?_;intro H am w1 o d));go_roundw
     case rel=>exact⟨b+1+1,j+1,i,g++[9],by go_num,x.below d (by omega),y.below d (by omega),o,by omega,by omega,by omega,f,l.trans (d.mono (by omega)),bg m d.size⟩
     case measure=>simp[B0];omega
    by_cases F:aq s (b+1)=34
    ·have q:=bz F;rw[show gJ s (b+1)=(34,b+1+1,B6) by unfold gJ;rw[aa u,aa E,ab (Or.inl F),F],ab rfl]at c;rw[tH q,F]at k;have a9:=fun w=>yz q w;rw[F]at a9;have f:Kv s i (b+1+1) (g++[34]) C:=⟨c⟩;go_wp2_with (first|(go_at_call 51;refine eH (k _) ?_)|(at_builtin;refine mz rfl (.tmp 62) (.tmp 66) rfl (w.heap.size+2) _ j g rfl z m (by omega) [34] 1 rfl (by decide) (by decide) _ rfl rfl ?_;intro H am w1 o d));go_roundw
     case rel=>exact⟨b+1+1,j+1,i,g++[34],by go_num,x.below d (by omega),y.below d (by omega),o,by omega,by omega,by omega,f,l.trans (d.mono (by omega)),bg m d.size⟩
     case measure=>simp[B0];omega
    by_cases G:aq s (b+1)=92
    ·have q:=bz G;rw[show gJ s (b+1)=(92,b+1+1,B6) by unfold gJ;rw[aa u,aa E,ab (Or.inr G),G],ab rfl]at c;rw[tH q,G]at k;have a9:=fun w=>yz q w;rw[G]at a9;have f:Kv s i (b+1+1) (g++[92]) C:=⟨c⟩;go_wp2_with (first|(go_at_call 51;refine eH (k _) ?_)|(at_builtin;refine mz rfl (.tmp 62) (.tmp 66) rfl (w.heap.size+2) _ j g rfl z m (by omega) [92] 1 rfl (by decide) (by decide) _ rfl rfl ?_;intro H am w1 o d));go_roundw
     case rel=>exact⟨b+1+1,j+1,i,g++[92],by go_num,x.below d (by omega),y.below d (by omega),o,by omega,by omega,by omega,f,l.trans (d.mono (by omega)),bg m d.size⟩
     case measure=>simp[B0];omega
    by_cases ao:aq s (b+1)=120
    ·have q:=bz ao;rw[tH q,ao]at k;have b8:gJ s (b+1)=hexI s (b+1+1):=by unfold gJ;rw[aa u,aa E,aa (fun h=>h.elim F G),ab ao]
     rw[b8]at c;unfold hexI at c;have K:=fun w=>gK s (by omega) ((b:Int)+1+1) (b+1+1) (by omega) w;have ap:=fun w=>gK s (by omega) ((b:Int)+1+2) (b+1+1+1) (by omega) w;have bh:=acd s (b+1+1);have bj:=acd s (b+1+1+1);have n:=fun w=>Ad (lk s (b+1+1)) bh.1 bh.2 w;have A:=fun w=>Ad (lk s (b+1+1+1)) bj.1 bj.2 w;rw[ach]at n A;have cl:=oh (aq s (b+1+1));have cm:=oh (aq s (b+1+1+1));by_cases J:gg (aq s (b+1+1))<0
     ·rw[ab J,aa (by simp)]at c;have f:=aw c;generalize lk s (b+1+1)=bf at K n;generalize gg (aq s (b+1+1))=r at n J;go_wp2_with (go_at_call 51;refine eH (k _) ?_);refine qE 3 ?_;rw[jh];go_wp2_with (first|(go_at_call 51;refine eH (K _) ?_)|(go_at_call 89;refine eH (n _) ?_));refine aI (v:= B1 #[A5 #[O M 4,O M p,O M 0,O M 0,O M 0,V ⟨#[]⟩],O M ((b:Int)+1+1)]) (by simp[results,Tryz.results56,go_sem,z0,L,ad,ag,ak,al]) rfl ⟨uL f,?_⟩
      iterate 6 refine fJ ?_ (by simp) _
      exact l
     rw[aa J]at c;have bo:0<=gg (aq s (b+1+1)):=by omega
     by_cases an:gg (aq s (b+1+1+1))<0
     ·rw[ab an,aa (by simp)]at c;have f:=aw c;generalize lk s (b+1+1)=bf at K n;generalize gg (aq s (b+1+1))=r at n J bo;generalize lk s (b+1+1+1)=b4 at ap A;generalize gg (aq s (b+1+1+1))=I at A an;go_wp2_with (go_at_call 51;refine eH (k _) ?_);refine qE 3 ?_;rw[jh];go_wp2_with (first|(go_at_call 51;refine eH (K _) ?_)|(go_at_call 89;refine eH (n _) ?_));rw[jh];go_wp2_with (first|(go_at_call 51;refine eH (ap _) ?_)|(go_at_call 89;refine eH (A _) ?_));refine aI (v:= B1 #[A5 #[O M 4,O M p,O M 0,O M 0,O M 0,V ⟨#[]⟩],O M ((b:Int)+1+2)]) (by simp[results,Tryz.results56,go_sem,z0,L,ad,ag,ak,al]) rfl ⟨by have h:=uL (p:=p) f.out;rw[show((b+1+1+1:Nat):Int)=(b:Int)+1+2 by omega]at h;exact h,?_⟩
      iterate 6 refine fJ ?_ (by simp) _
      exact l
     have a7:b+1+1<s.size:=by
      rcases aH (b+1+1) s.size with h|h
      ·exact h
      ·rw[dl]at J;exact absurd (by decide) J
     have a8:b+1+1+1<s.size:=by
      rcases aH (b+1+1+1) s.size with h|h
      ·exact h
      ·rw[dl]at an;exact absurd (by decide) an
     have bb:=fun w=>db a7 w;have bd:=fun w=>db a8 w;rw[show((b+1+1:Nat):Int)=(b:Int)+1+1 by omega]at bb;rw[show((b+1+1+1:Nat):Int)=(b:Int)+1+2 by omega]at bd;rw[aa an,ab rfl]at c;rw[tH a7]at K n;rw[tH a8]at ap A;have ce:0<=gg (aq s (b+1+1+1)):=by omega
     have f:Kv s i (b+1+1+1+1) (g++[gg (aq s (b+1+1))*16+gg (aq s (b+1+1+1))]) C:=⟨c⟩;have b5:=jl a7;have b6:=jl a8;generalize gg (aq s (b+1+1))=r at n J bo cl f;generalize gg (aq s (b+1+1+1))=I at A an ce cm f;generalize aq s (b+1+1)=bf at K n bb b5;generalize aq s (b+1+1+1)=b4 at ap A bd b6;rw[show r*16+I=16*r+I by omega]at f;go_wp2_with (go_at_call 51;refine eH (k _) ?_);refine qE 3 ?_;rw[jh];go_wp2_with (first|(go_at_call 51;refine eH (K _) ?_)|(go_at_call 89;refine eH (n _) ?_));rw[jh];go_wp2_with (first|(go_at_call 51;refine eH (ap _) ?_)|(go_at_call 89;refine eH (A _) ?_));rw[jh];go_wp2_with fail;obtain⟨B,bk⟩:∃B:Int,(b:Int)+1=B:=⟨_,rfl⟩;rw[bk]at bb bd⊢;have bE:=aw bk;have dc:IntKind.i64.wrap (B+1)=B+1:=Ch _ (by omega);have dd:IntKind.i64.wrap (B+2)=B+2:=Ch _ (by omega);have df:IntKind.i64.wrap (16*r)=16*r:=Ch _ (by omega);have dg:IntKind.i64.wrap (16*r+I)=16*r+I:=Ch _ (by omega);have dk:IntKind.u8.wrap (16*r+I)=16*r+I:=IntWalk.u8_in _ (by omega);have cy:0<=B:=by omega
     have cz:B<=70001:=by omega
     go_region_held3 (fun bA=>True) (trivial) ((first|(go_at_call 89;with_reducible refine eH (n _) ?_)|(go_at_call 89;with_reducible refine eH (A _) ?_)|(refine ab4 (by rfl) _ _ (by rfl) (w.heap.size+2) _ j g (by rfl) z m (by omega) [_] 1 (by rfl) (by decide) (by decide) _ (by rfl) (by rfl) ?_;intro H am w1 o d)))
     all_goals
      go_wp2_with fail;have c5:=bE.out;exact⟨⟨b+1+1+1+1,j+1,i,g++[16*r+I],by congr 1<;>omega,x.below d (by omega),y.below d (by omega),o,by omega,by omega,by omega,f,l.trans (d.mono (by omega)),bg m d.size⟩,by simp[B0];omega⟩
    rw[show gJ s (b+1)=(0,b+1,Ax) by unfold gJ;rw[aa u,aa E,aa (fun h=>h.elim F G),aa ao],aa (by simp)]at c;have f:=aw c;have br:=uz s (b+1) 110;have bs:=uz s (b+1) 116;have bt:=uz s (b+1) 34;have bw:=uz s (b+1) 92;have bx:=uz s (b+1) 120;rw[aD u]at br;rw[aD E]at bs;rw[aD F]at bt;rw[aD G]at bw;rw[aD ao]at bx;generalize lk s (b+1)=cn at k br bs bt bw bx;go_wp2_with (go_at_call 51;refine eH (k _) ?_);refine aI (v:= B1 #[A5 #[O M 4,O M p,O M 0,O M 0,O M 0,V ⟨#[]⟩],O M ((b:Int)+1)]) (by simp[results,Tryz.results56,go_sem,z0,L,ad,ag,ak,al]) rfl ⟨uL f,?_⟩
    iterate 6 refine fJ ?_ (by simp) _
    exact l
   rw[aa a6]at c;have c9:(t==92)=Ax:=by simp[a6]
   have f:Kv s i (b+1) (g++[t]) C:=⟨c⟩;go_wp2_with (at_builtin;refine mz rfl (.tmp 36) (.tmp 38) rfl (w.heap.size+2) _ j g rfl z m (by omega) [t] 1 rfl (by decide) (by decide) _ rfl rfl ?_;intro H am w1 o d);go_roundw
   case rel=>exact⟨b+1,j+1,i,g++[t],by go_num,x.below d (by omega),y.below d (by omega),o,by omega,by omega,by omega,f,l.trans (d.mono (by omega)),bg m d.size⟩
   case measure=>simp[B0];omega
  ·rw[ab (by omega)]at c;have f:=aw c;obtain rfl:b=s.size:=by omega
   go_wp2_with fail;refine aI (v:= B1 #[A5 #[O M 4,O M p,O M 0,O M 0,O M 0,V ⟨#[]⟩],O M (s.size:Int)]) (by simp[results,Tryz.results56,go_sem,z0,L,ad,ag,ak,al]) rfl ⟨uL f,?_⟩
   iterate 6 refine fJ ?_ (by simp) _
   exact l
def gF(k:Int):Bool:=decide (20<=k/\k<=37)
def jJ(k:Int):Bool:=decide (1<=k/\k<=16)
def Bm(k:Int):Bool:=decide (k=26\/k=32\/k=33)
theorem aa4(k:Int)(w:Z):X U 222 #[O M k] w fun e c=>e= T (Y (gF k))/\c=w:=by
 unfold gF;rcases(show(20<=k/\k<=37)\/(20<=k/\¬k<=37)\/¬20<=k by omega) with⟨h1,b⟩|⟨h1,b⟩|h1
 ·rw[bv ⟨h1,b⟩];go_in;go_wp2;go_ret;exact⟨rfl,rfl⟩
 ·rw[aD (fun a=>b a.2)];go_in;go_wp2;go_ret;exact⟨rfl,rfl⟩
 ·rw[aD (fun a=>h1 a.1)];go_in;go_wp2;go_ret;exact⟨rfl,rfl⟩
theorem Dx(k:Int)(w:Z):X U 155 #[O M k] w fun e c=>e= T (Y (jJ k))/\c=w:=by
 unfold jJ;rcases(show(1<=k/\k<=16)\/(1<=k/\¬k<=16)\/¬1<=k by omega) with⟨h1,b⟩|⟨h1,b⟩|h1
 ·rw[bv ⟨h1,b⟩];go_in;go_wp2;go_ret;exact⟨rfl,rfl⟩
 ·rw[aD (fun a=>b a.2)];go_in;go_wp2;go_ret;exact⟨rfl,rfl⟩
 ·rw[aD (fun a=>h1 a.1)];go_in;go_wp2;go_ret;exact⟨rfl,rfl⟩
theorem If(k:Int)(w:Z):X U 198 #[O M k] w fun e d=>e= T (Y (Bm k))/\d=w:=by
 unfold Bm;by_cases a:k=26
 ·subst a;go_in;go_wp2;go_ret;exact⟨rfl,rfl⟩
 have f:(k==26)=Ax:=by rw[bH];exact a
 by_cases b:k=32
 ·subst b;go_in;go_wp2;go_ret;exact⟨rfl,rfl⟩
 have g:(k==32)=Ax:=by rw[bH];exact b
 by_cases c:k=33
 ·subst c;go_in;go_wp2;go_ret;exact⟨rfl,rfl⟩
 have h:(k==33)=Ax:=by rw[bH];exact c
 rw[aD (by omega)];go_in;go_wp2;go_ret;exact⟨rfl,rfl⟩
theorem aeh(w:Z)(o:B4)(ns:List Nd)(N c:Nd)(vn vk:B4)(i:Nat)(z:Nat)(f:gw w o ns)(n:dA w vn N.nm)(d:dm w vk N.ks)(b:N.ks[i]?=A0 (z:Int))(a:ns[z]?=A0 c)(r:ns.length<=1048576)(s:N.ks.length<=1048576):
  X U 194 #[A5 #[o],jo N vn vk,O M i] w fun e v=>e= T (O M c.k)/\A2 w.heap.size w v:=by
 have q:∀g j,A2 w.heap.size w ((w.alloc g).alloc j):=fun g j=>((ah _ w).alloc (ae _) g).alloc (by simp) j;obtain⟨B,F,rfl⟩:=f.form;obtain⟨C,G,rfl⟩:=n.form;obtain⟨E,H,rfl⟩:=d.form;obtain⟨ap,rfl,a0,av,m⟩:=f.get a;obtain⟨ar,rfl,p⟩:=d.get b;have u:z<ns.length:=by rcases aH z ns.length with h|h;exact h;rw[gE h]at a;cases a
 have t:i<N.ks.length:=by rcases aH i N.ks.length with h|h;exact h;rw[gE h]at b;cases b
 have l:=m.c0;have I:=Cj p;have J:=Cj l;unfold jo;generalize ns.length=K at r u;generalize N.ks.length=y at s t;generalize N.nm.length=x;generalize c.k=A at l;clear f n d b a m;obtain⟨ad,L,an,ag,am,ak,ao,al,af⟩:=N;simp only;go_in;go_wp21
 go_quiet (fail)
 go_wp21
 go_ret;exact⟨rfl,mE (q _ _) _⟩
def gc(ns:List Nd)(N:Nd)(j:Nat):Int:=(ns.getD ((N.ks.getD j 0).toNat) zNd).k
def lF(ns:List Nd)(N:Nd):Nat->Nat->Bool
 |0,_=>B6
 |f+1,j=>gF (gc ns N j)&&lF ns N f (j+1)
structure ant (ns:List Nd) (N:Nd) (f j:Nat) (R:Bool):Prop where
 out:lF ns N f j=R
structure Av (ns:List Nd) (N:Nd):Prop where
 ok:∀z∈N.ks,0<=z/\z<(ns.length:Int)
theorem Av.get(h:Av ns N){j:Nat}(d:j<N.ks.length):∃(z:Nat) (b:Nd),N.ks[j]?=A0 (z:Int)/\ns[z]?=A0 b/\gc ns N j=b.k/\z<ns.length:=by
 have c:N.ks[j]?=A0 N.ks[j]:=aE d;obtain⟨f,g⟩:=h.ok N.ks[j] (oe d);obtain⟨z,e⟩:∃z:Nat,N.ks[j]=(z:Int):=⟨N.ks[j].toNat,by omega⟩;have a:z<ns.length:=by omega
 refine⟨z,ns[z],by rw[c,e],aE a,?_,a⟩;unfold gc;rw[aK,aK,c,e];simp[a]
theorem lK(w:Z)(J:B4)(ns:List Nd)(N:Nd)(vn vk:B4)(i k:Nat)(s:gw w J ns)(b:dA w vn N.nm)(r:dm w vk N.ks)(ao:Av ns N)(a4:k<=N.ks.length)(ar:ns.length<=1048576)(av:N.ks.length<=1048576):
  X U 197 #[A5 #[J],jo N vn vk,O M i,O M k] w fun e a6=>e= T (Y (lF ns N (k-i) i))/\A2 w.heap.size w a6:=by
 obtain⟨m,q⟩:=aA (lF ns N (k-i) i);rw[q];have L:ant ns N (k-i) i m:=⟨q⟩;clear q;have ap:∀t u,A2 w.heap.size w ((w.alloc t).alloc u):=fun t u=>((ah _ w).alloc (ae _) t).alloc (by simp) u;have f:=dC s r;obtain⟨ad,ag,rfl⟩:=s.form;obtain⟨a8,a9,rfl⟩:=b.form;obtain⟨af,ak,rfl⟩:=r.form;clear s b r;unfold jo;obtain⟨I,b⟩:=aA ns.length;obtain⟨z,p⟩:=aA N.ks.length;have y:=dC b p;rw[b]at f ar⊢;rw[p]at f av a4⊢;clear b p;generalize N.nm.length=a7;go_in;go_wp2_with fail;generalize H:(w.alloc _).alloc _=g;obtain⟨n,o,G, -⟩:=GI H;replace n:g.cell? ⟨w.heap.size,0,B7⟩=A0 (A9 ad I ag):=(au _ _ _ _ _ _ n).trans rfl;replace o:g.cell? ⟨w.heap.size+1,8,B7⟩=A0 (A9 af z ak):=(au _ _ _ _ _ _ o).trans rfl;clear H ap;go_loopw [9] (fun v wr=>∃(j:Nat),v= O M j/\i<=j/\(i<=k->j<=k)/\ant ns N (k-j) j m/\A2 g.heap.size g wr) (fun v _=>k-(B0 v).toNat)
 case atStart=>exact⟨i,rfl,ae _,fun an=>an,L,ah _ _⟩
 case round=>
  obtain⟨j,rfl,bf,bj,x,h⟩:=hrel;have l:=G.trans (h.mono G.size);by_cases bl:j<k
  ·obtain⟨K,A,B,C,E,al⟩:=ao.get (j:=j) (by rw[y.out.2];omega);rw[y.out.1]at al;obtain⟨br,rfl,bw,bt,F⟩:=(f.1.below l).get C;obtain⟨bs,rfl,be⟩:=(f.2.below l).get B;have bb:=aj h n;have bd:=aj h o;have am:=F.c0;have a:=x.out;rw[show k-j=(k-(j+1))+1 by omega,lF,E]at a;have a0:(j:Int)<(k:Int):=by omega
   have bk:(j:Int)<(z:Int):=by omega
   have bo:(K:Int)<(I:Int):=by omega
   have bn:(0:Int)<=(K:Int):=by omega
   have bh:(0:Int)<=(j:Int):=by omega
   have d:=fun w=>aa4 A.k w;generalize A.k=a5 at am a d;clear B C E F;cases hx:gF a5 with
   |true=>
    rw[hx,fI]at a;rw[hx]at d;have c:ant ns N (k-(j+1)) (j+1) m:=⟨a⟩;clear a hx;go_wp2_with fail;go_quiet ((go_at_call 222;exact Calls.quiet_of_same (d _)))
    go_wp2_with fail;exact⟨⟨j+1,by go_num,by omega,fun _=>by omega,c,mE h _⟩,by simp[B0];omega⟩
   |false=>
    rw[hx,eI]at a;rw[hx]at d;have c:=aw a;clear a hx;go_wp2_with fail;go_quiet ((go_at_call 222;exact Calls.quiet_of_same (d _)))
    go_wp2_with fail;go_ret;exact⟨by rw[<-c.out];rfl,mE l _⟩
  ·have a:=x.out;rw[show k-j=0 by omega,lF]at a;have c:=aw a;have a0:¬(j:Int)<(k:Int):=by omega
   clear a;go_wp2_with fail;go_ret;exact⟨by rw[<-c.out];rfl,l⟩
def ve(l:List ByteArray):Nat->Nat->Bool
 |0,_=>B6
 |f+1,j=>mG (l.getD j Ck)&&ve l f (j+1)
structure F5 (l:List ByteArray) (f j:Nat) (R:Bool):Prop where
 out:ve l f j=R
def fG(N:Nd)(a b:Int):Bool:=decide (a<=(N.nm.length:Int)/\(N.nm.length:Int)<=b)&&ve N.nm N.nm.length 0
theorem Kx(w:Z)(N:Nd)(vn vk:B4)(q r:Int)(B:dA w vn N.nm)(L:dm w vk N.ks)(al:N.nm.length<=1048576)(ad:∀s∈N.nm,s.size<=1048576):
  X U 196 #[jo N vn vk,O M q,O M r] w fun e an=>e= T (Y (fG N q r))/\A2 w.heap.size w an:=by
 have j:∀C,A2 w.heap.size w (w.alloc C):=fun C=>(ah _ w).alloc (ae _) C;have u:=dC B ad;obtain⟨H,J,rfl⟩:=B.form;obtain⟨I,K,rfl⟩:=L.form;clear B L ad;obtain⟨i,c⟩:=aA (fG N q r);rw[c];unfold fG at c;unfold jo;obtain⟨a,y⟩:=aA N.nm.length;have ag:=aw y;rw[y]at u al c⊢;clear y;generalize N.ks.length=F;by_cases ap:(a:Int)<q
 ·have g:Cr (Ax=i):=by rw[aD (by omega)]at c;exact c
  clear c;go_in;go_wp2;go_ret;exact⟨by rw[<-g.out];rfl,j _⟩
 by_cases ar:r<(a:Int)
 ·have g:Cr (Ax=i):=by rw[aD (by omega)]at c;exact c
  clear c;go_in;go_wp2;go_ret;exact⟨by rw[<-g.out];rfl,j _⟩
 have g:F5 N.nm a 0 i:=⟨by rw[bv (by omega)]at c;simpa using c⟩;clear c;go_in;go_wp21
 have v:=j (Ce #[O M N.k,O M N.f,O M N.t,O M N.l,O M N.op,O M N.n,V N.x,A9 H a J,A9 I F K] 111);generalize w.alloc (Ce #[O M N.k,O M N.f,O M N.t,O M N.l,O M N.op,O M N.n,V N.x,A9 H a J,A9 I F K] 111)=G at v⊢;clear j;go_loopw [24,8] (fun E _ wr=>∃(b:Nat),E= O M b/\b<=a/\F5 N.nm (a-b) b i/\A2 G.heap.size G wr) (fun E _ _=>a-(B0 E).toNat)
 case atStart=>exact⟨0,rfl,by omega,g,ah _ _⟩
 case round=>
  obtain⟨b,rfl,a0,af,z⟩:=hrel;have m:=v.trans (z.mono v.size);have d:=af.out;by_cases am:b<a
  ·obtain⟨s,o⟩:=co ag.out am;have a1:=u.2 s (cG o);obtain⟨a4,rfl,av⟩:=(u.1.below m).get o;rw[show a-b=(a-(b+1))+1 by omega,ve,aK,o,gj]at d;have ak:(b:Int)<(a:Int):=by omega
   have p:=tA s (by omega) wr;clear o;cases hx:mG s with
   |true=>
    rw[hx,fI]at d;rw[hx]at p;have h:F5 N.nm (a-(b+1)) (b+1) i:=⟨d⟩;clear d hx;go_wp2_with (go_at_call 63;refine p.mono ?_;rintro e ao ⟨rfl,A⟩);exact⟨⟨b+1,by go_num,by omega,h,z.trans (A.mono z.size)⟩,by simp[B0];omega⟩
   |false=>
    rw[hx,eI]at d;rw[hx]at p;have h:=aw d;clear d hx;go_wp2_with (go_at_call 63;refine p.mono ?_;rintro e ao ⟨rfl,A⟩);go_ret;exact⟨by rw[<-h.out];rfl,m.trans (A.mono m.size)⟩
  ·rw[show a-b=0 by omega,ve]at d;have h:=aw d;have ak:¬(b:Int)<(a:Int):=by omega
   clear d;go_wp21
   go_ret;exact⟨by rw[<-h.out];rfl,m⟩
structure NArg (W:Z) (vt:B4) (ns:List Nd) (N:Nd) (vn vk:B4):Prop where
 t:gw W vt ns
 n:dA W vn N.nm
 k:dm W vk N.ks
 ok:Av ns N
 ln:ns.length<=1048576
 l1:N.nm.length<=1048576
 l2:N.ks.length<=1048576
 lx:N.x.size<=1048576
 ls:∀s∈N.nm,s.size<=1048576
theorem NArg.below(h:NArg W vt ns N vn vk)(a:A2 W.heap.size W W'):NArg W' vt ns N vn vk:=
 ⟨h.t.below a,h.n.below a,h.k.below a,h.ok,h.ln,h.l1,h.l2,h.lx,h.ls⟩
structure St (w:Z) (vt:B4) (ns:List Nd) (N:Nd) (vn vk:B4) (W:Z):Prop where
 a:NArg W vt ns N vn vk
 bt:W.cell? ⟨w.heap.size,0,B7⟩=A0 vt
 bn:qJ (w.heap.size+1) W 111 N vn vk
 bel:A2 w.heap.size w W
theorem St.below(h:St w vt ns N vn vk W)(b:A2 W.heap.size W W'):St w vt ns N vn vk W':=
 ⟨h.a.below b,aj b h.bt,h.bn.below b,h.bel.trans (b.mono h.bel.size)⟩
theorem St.start(h:NArg w vt ns N vn vk):St w vt ns N vn vk ((w.alloc (Ce #[vt] 34)).alloc (Ce #[O M N.k,O M N.f,O M N.t,O M N.l,O M N.op,O M N.n,V N.x,vn,vk] 111)):=by
 have a:A2 w.heap.size w ((w.alloc (Ce #[vt] 34)).alloc (Ce #[O M N.k,O M N.f,O M N.t,O M N.l,O M N.op,O M N.n,V N.x,vn,vk] 111)):=((ah _ w).alloc (ae _) _).alloc (by simp) _;refine⟨h.below a,?_,?_,a⟩
 ·rw[au _ _ _ _ _ _ ((cC _ _ _ (by simp)).trans (ay w _))];rfl
 ·have:=ay (w.alloc (Ce #[vt] 34)) (Ce #[O M N.k,O M N.f,O M N.t,O M N.l,O M N.op,O M N.n,V N.x,vn,vk] 111);rw[dr]at this;exact this
theorem rq(a:NArg w vt ns N vn vk)(i:Nat)(g:i<N.ks.length):
  X U 194 #[A5 #[vt],jo N vn vk,O M i] w fun e h=>e= T (O M (gc ns N i))/\A2 w.heap.size w h:=by
 obtain⟨j,b,c,d,f,l⟩:=a.ok.get g;rw[f];exact aeh w vt ns N b vn vk i j a.t a.n a.k c d a.ln a.l2
abbrev aN(N:Nd)(vn vk:B4):B4:= A5 #[O M N.k,O M N.f,O M N.t,O M N.l,O M N.op,O M N.n,V N.x,vn,vk]
section
variable {w W : World} {vt vn vk : Value} {ns : List Nd} {N : Nd} {Q : Ending → World → Prop} (s : St w vt ns N vn vk W)
include s
theorem St.bare{a b c d:Bool}(k:∀W',St w vt ns N vn vk W'->Q (T (Y (bC N a b c d))) W'):X U 195 #[aN N vn vk,Y a,Y b,Y c,Y d] W Q:=cJ (aaG _ N _ _ s.a.n s.a.k s.a.l1 _ _ _ _) fun f e=>k f (s.below e)
theorem St.named{a b:Int}(k:∀W',St w vt ns N vn vk W'->Q (T (Y (fG N a b))) W'):X U 196 #[aN N vn vk,O M a,O M b] W Q:=cJ (Kx _ N _ _ a b s.a.n s.a.k s.a.l1 s.a.ls) fun d c=>k d (s.below c)
theorem St.ex1(c:1<=N.ks.length)(k:∀W',St w vt ns N vn vk W'->Q (T (Y (lF ns N 1 0))) W'):X U 197 #[A5 #[vt],aN N vn vk,O M 0,O M 1] W Q:=cJ (lK _ _ ns N _ _ 0 1 s.a.t s.a.n s.a.k s.a.ok c s.a.ln s.a.l2) fun d b=>k d (s.below b)
theorem St.ex2(c:2<=N.ks.length)(k:∀W',St w vt ns N vn vk W'->Q (T (Y (lF ns N 2 0))) W'):X U 197 #[A5 #[vt],aN N vn vk,O M 0,O M 2] W Q:=cJ (lK _ _ ns N _ _ 0 2 s.a.t s.a.n s.a.k s.a.ok c s.a.ln s.a.l2) fun d b=>k d (s.below b)
theorem St.exL(k:∀W',St w vt ns N vn vk W'->Q (T (Y (lF ns N N.ks.length 0))) W'):X U 197 #[A5 #[vt],aN N vn vk,O M 0,O M (N.ks.length:Int)] W Q:=cJ (lK _ _ ns N _ _ 0 _ s.a.t s.a.n s.a.k s.a.ok (ae _) s.a.ln s.a.l2) fun c b=>k c (s.below b)
theorem St.kid0(c:0<N.ks.length)(k:∀W',St w vt ns N vn vk W'->Q (T (O M (gc ns N 0))) W'):X U 194 #[A5 #[vt],aN N vn vk,O M 0] W Q:=cJ (rq s.a 0 c) fun d b=>k d (s.below b)
theorem St.kid1(c:1<N.ks.length)(k:∀W',St w vt ns N vn vk W'->Q (T (O M (gc ns N 1))) W'):X U 194 #[A5 #[vt],aN N vn vk,O M 1] W Q:=cJ (rq s.a 1 c) fun d b=>k d (s.below b)
end
def sbB(ns:List Nd)(N:Nd):Nat->Nat->Bool
 |0,_=>B6
 |f+1,j=>jJ (gc ns N j)&&sbB ns N f (j+1)
structure anu (ns:List Nd) (N:Nd) (f j:Nat) (R:Bool):Prop where
 out:sbB ns N f j=R
theorem akr(g:NArg w vt ns N vn vk)(af:N.k=1):
  X U 156 #[A5 #[vt],jo N vn vk] w fun e r=>e= T (Y (sbB ns N N.ks.length 0&&bC N Ax Ax Ax Ax))/\A2 w.heap.size w r:=by
 obtain⟨H,K,rfl⟩:=g.t.form;obtain⟨I,L,rfl⟩:=g.n.form;obtain⟨J,ad,rfl⟩:=g.k.form;have b:=St.start g;have av:=g.l2;clear g;have a0:(N.k==1)=B6:=by rw[af];rfl
 clear af;obtain⟨o,p⟩:=aA (sbB ns N N.ks.length 0);rw[p];have al:anu ns N N.ks.length 0 o:=⟨p⟩;clear p;unfold jo;go_in;go_wp2_with fail;generalize (w.alloc (Ce #[A9 H ns.length K] 34)).alloc (Ce #[O M N.k,O M N.f,O M N.t,O M N.l,O M N.op,O M N.n,V N.x,A9 I N.nm.length L,A9 J N.ks.length ad] 111)=ap at b⊢;go_loopw [6,18] (fun _ q wr=>∃(c:Nat),q= O M c/\c<=N.ks.length/\anu ns N (N.ks.length-c) c o/\St w (A9 H ns.length K) ns N (A9 I N.nm.length L) (A9 J N.ks.length ad) wr) (fun _ q _=>N.ks.length-(B0 q).toNat)
 case atStart=>exact⟨0,rfl,by omega,al,b⟩
 case round=>
  clear b;obtain⟨c,rfl,ar,ak,b⟩:=hrel;obtain⟨s,u,v,y,z,A,B,C,E,F⟩:=ci b.bn;have G:=b.bt;have d:=ak.out;by_cases an:c<N.ks.length
  ·rw[show N.ks.length-c=(N.ks.length-(c+1))+1 by omega,sbB]at d;have am:(c:Int)<(N.ks.length:Int):=by omega
   have j:=rq b.a c an;unfold jo at j;generalize gc ns N c=ag at d j;have m:=fun w=>Dx ag w;cases hx:jJ ag with
   |false=>
    rw[hx,eI]at d;rw[hx]at m;have h:=aw d;clear d hx;go_wp2_with (first|(go_at_call 194;refine j.mono ?_;rintro e r ⟨rfl,i⟩;replace b:=b.below i;clear i;obtain⟨s,u,v,y,z,A,B,C,E,F⟩:=ci b.bn;have G:=b.bt)|(go_at_call 155;refine eH (m _) ?_));go_ret;exact⟨by rw[<-h.out];rfl,b.bel⟩
   |true=>
    rw[hx,fI]at d;rw[hx]at m;have h:anu ns N (N.ks.length-(c+1)) (c+1) o:=⟨d⟩;clear d hx;go_wp2_with (first|(go_at_call 194;refine j.mono ?_;rintro e r ⟨rfl,i⟩;replace b:=b.below i;clear i;obtain⟨s,u,v,y,z,A,B,C,E,F⟩:=ci b.bn;have G:=b.bt)|(go_at_call 155;refine eH (m _) ?_));exact⟨⟨c+1,by go_num,by omega,h,b⟩,by simp[B0];omega⟩
  ·rw[show N.ks.length-c=0 by omega,sbB]at d;have h:=aw d;have am:¬(c:Int)<(N.ks.length:Int):=by omega
   clear d;go_wp2_with (go_at_call 195;refine b.bare fun ao b=>?_;obtain⟨s,u,v,y,z,A,B,C,E,F⟩:=ci b.bn;have G:=b.bt);go_ret;exact⟨by rw[<-h.out];rfl,b.bel⟩
theorem agF(a:NArg w vt ns N vn vk)(b:1<N.ks.length):
  X U 194 #[A5 #[vt],A5 #[O M N.k,O M N.f,O M N.t,O M N.l,O M N.op,O M N.n,V N.x,vn,vk],O M 1] w fun e c=>e= T (O M (gc ns N 1))/\A2 w.heap.size w c:=rq a 1 b
theorem agG(b:NArg w vt ns N vn vk)(d:0<N.ks.length):
  X U 194 #[A5 #[vt],A5 #[O M N.k,O M N.f,O M N.t,O M N.l,O M N.op,O M N.n,V N.x,vn,vk],O M ((N.ks.length:Int)-1)] w fun e c=>e= T (O M (gc ns N (N.ks.length-1)))/\A2 w.heap.size w c:=by
 have a:=rq b (N.ks.length-1) (by omega);rw[show((N.ks.length-1:Nat):Int)=(N.ks.length:Int)-1 by omega]at a;exact a
theorem aks(a:NArg w vt ns N vn vk)(d:0<N.ks.length):
  X U 197 #[A5 #[vt],A5 #[O M N.k,O M N.f,O M N.t,O M N.l,O M N.op,O M N.n,V N.x,vn,vk],O M 0,O M ((N.ks.length:Int)-1)] w fun e c=>e= T (Y (lF ns N (N.ks.length-1) 0))/\A2 w.heap.size w c:=by
 have b:=lK w vt ns N vn vk 0 (N.ks.length-1) a.t a.n a.k a.ok (by omega) a.ln a.l2;rw[show((N.ks.length-1:Nat):Int)=(N.ks.length:Int)-1 by omega]at b;exact b
theorem akt(c:NArg w vt ns N vn vk)(g:N.k=9):
  X U 156 #[A5 #[vt],jo N vn vk] w fun e h=>e= T (Y (bC N Ax Ax Ax B6&&(fG N 1 1&&(((N.ks.length:Int)==3||(N.ks.length:Int)==4)&&(lF ns N (N.ks.length-1) 0&&(gc ns N (N.ks.length-1)==1))))))/\A2 w.heap.size w h:=by
 obtain⟨y,B,rfl⟩:=c.t.form;obtain⟨z,C,rfl⟩:=c.n.form;obtain⟨A,E,rfl⟩:=c.k.form;have b:=St.start c;have F:=c.l2;clear c;have G:=kqf g;have H:=kqt g 9 rfl;clear g;unfold jo;cases t0:bC N Ax Ax Ax B6
 case' true=>
  cases t1:fG N 1 1
  case' true=>
   cases t2:((N.ks.length:Int)==3)
   case' false=>cases t5:((N.ks.length:Int)==4)
   case' false.true=>
    have f:Cr (0<N.ks.length):=by show _<_;have:=io t5;omega
    cases t3:lF ns N (N.ks.length-1) 0
    case' true=>cases t4:(gc ns N (N.ks.length-1)==1)
   case' true.true.true=>
    have f:Cr (0<N.ks.length):=by show _<_;have:=io t2;omega
    cases t3:lF ns N (N.ks.length-1) 0
    case' true=>cases t4:(gc ns N (N.ks.length-1)==1)
 all_goals
  go_in;go_wp2_with (first|(go_at_call 195;refine b.bare fun x b=>?_;obtain⟨i,j,l,m,o,p,q,r,s,u⟩:=ci b.bn;have v:=b.bt)|(go_at_call 196;refine b.named fun x b=>?_;obtain⟨i,j,l,m,o,p,q,r,s,u⟩:=ci b.bn;have v:=b.bt)|(go_at_call 197;with_reducible refine(aks b.a f.out).mono ?_;rintro e h ⟨rfl,d⟩;replace b:=b.below d;clear d;obtain⟨i,j,l,m,o,p,q,r,s,u⟩:=ci b.bn;have v:=b.bt)|(go_at_call 194;with_reducible refine(agG b.a f.out).mono ?_;rintro e h ⟨rfl,d⟩;replace b:=b.below d;clear d;obtain⟨i,j,l,m,o,p,q,r,s,u⟩:=ci b.bn;have v:=b.bt));go_ret;exact⟨rfl,b.bel⟩
def xI(S:List Int):List Int->Int->Option Int
 |[],a=>A0 a
 |k::r,a=>if k=a-1/\S.getD k.toNat 0≠0 then xI S r (a-S.getD k.toNat 0) else B7
def sC(S:List Int)(i:Nat)(ks:List Int):Int:=match xI S ks.reverse i with|some a=>(i:Int)-a+1|none=>0
def iD(ns:List Nd):List Int:=ns.foldl (fun a N=>a++[sC a a.length N.ks]) []
theorem tL(ns:List Nd)(N:Nd):iD (ns++[N])=iD ns++[sC (iD ns) (iD ns).length N.ks]:=by simp[iD]
theorem ua{α:Type}{p:List α->Prop}(h0:p [])(h1:∀a x,p a->p (a++[x]))(l:List α):p l:=by
 rw[<-List.reverse_reverse l]
 induction l.reverse with
 |nil=>exact h0
 |cons x r ih=>rw[List.reverse_cons];exact h1 _ x ih
theorem jA:∀(ns:List Nd),(iD ns).length=ns.length:=by
 intro ns;refine ua (p:=fun ns=>(iD ns).length=ns.length) rfl (fun c b a=>?_) ns;rw[tL];simp[a]
structure anv (S:List Int) (l:List Int) (a:Int) (R:Option Int):Prop where
 out:xI S l a=R
def Dy(S:List Int):Prop:=∀(a:Nat) z,S[a]?=A0 z->0<=z/\z<=(a:Int)+1
theorem agH{S:List Int}(hS:Dy S):∀(l:List Int)(a b:Int),(∀k∈l,0<=k)->0<=a->xI S l a=A0 b->0<=b/\b<=a
 |[],a,b,_,f,h=>by simp[xI]at h;omega
 |k::r,a,b,d,f,h=>by
  rw[xI]at h;split at h
  ·rename_i g;have i:=d k (by simp);have e:0<=S.getD k.toNat 0/\S.getD k.toNat 0<=k+1:=by
    rw[aK];cases hs:S[k.toNat]? with
    |none=>simp;omega
    |some c=>have:=hS _ c hs;simp;omega
   have:=agH hS r _ b (fun c e=>d c (by simp[e])) (by omega) h;omega
  ·cases h
theorem aku{S:List Int}(hS:Dy S)(i:Nat)(ks:List Int)(b:∀k∈ks,0<=k):0<=sC S i ks/\sC S i ks<=(i:Int)+1:=by
 unfold sC;cases h:xI S ks.reverse i with
 |none=>simp;omega
 |some a=>
  have:=agH hS ks.reverse i a (fun k c=>b k (by simpa using c)) (by omega) h;simp;omega
theorem Aw(ns:List Nd):(∀N∈ns,∀k∈N.ks,0<=k)->Dy (iD ns):=by
 refine ua (p:=fun ns=>(∀N∈ns,∀k∈N.ks,0<=k)->Dy (iD ns)) (fun _ b h a=>by simp[iD]at a) (fun c N n e=>?_) ns;have f:=n (fun i l=>e i (by simp[l]));intro b h a;rw[tL]at a;rcases aH b (iD c).length with g|g
 ·rw[ia g]at a;exact f b h a
 ·rw[fy g]at a;obtain⟨j,d⟩:=List.getElem?_eq_some_iff.1 a;simp at j d;subst d;obtain rfl:b=(iD c).length:=by omega
  exact aku f _ _ (fun k m=>e N (by simp) k m)
theorem F6(a:List Int)(n k:Nat)(z:Int)(b:a.length=k)(d:k<n):(a.map (Br M)++B3 (n-k) (Br M 0)).set k (O M z)=(a++[z]).map (Br M)++B3 (n-(k+1)) (Br M 0):=by
 have c:(a.map (Br M)).length=k:=by rw[cA,b]
 rw[List.set_append_right _ _ (by omega),c,eD,show n-k=(n-(k+1))+1 by omega,List.replicate_succ,dw];simp
theorem Ky(w:Z)(v:B4)(ns:List Nd)(h:gw w v ns)(ce:ns.length<=3000)(G:∀N∈ns,N.ks.length<=1048576)(r:∀(i:Nat) N,ns[i]?=A0 N->∀k∈N.ks,0<=k/\k<(i:Int)):
  X U 109 #[.agg #[v]] w fun e bA=>∃g,e= .returned (.slice (A0 ⟨g,0,B7⟩) ns.length ns.length)/\bA.ownsRow w.heap.size 3 1 (.slice (A0 ⟨g,0,B7⟩) ns.length ns.length) ns.length ((iD ns).map (Br .i64))/\A2 w.heap.size w bA:=by
 obtain⟨E,F,rfl⟩:=h.form;obtain⟨a,L⟩:=aA ns.length;have af:=aw L;have bE:Cr (gw w (.slice E a F) ns):=by rw[<-L];exact h
 have al:Cr ((∀N∈ns,N.ks.length<=1048576)/\(∀(i:Nat) N,ns[i]?=A0 N->∀k∈N.ks,0<=k/\k<(i:Int))/\∀k,Dy (iD (ns.take k))):=⟨G,r,fun k=>Aw _ (fun N G a8 l=>by
  obtain⟨i,a1,e⟩:=il (vI G);exact(r i N (by rw[aE a1,e]) a8 l).1)⟩
 rw[L]at ce⊢;clear h L G r;obtain⟨cm,a1,cf,ch,cl⟩:=dD tr;go_in;go_wp2_with (at_make;refine yr _ rfl _ _ 24 rfl w.heap.size 3 cm (.int .i64 0) 1 Tryz.underlying24 a1 cf ch .i64 .i64 _ _ a rfl rfl rfl rfl (by rw[cl];omega) (by unfold maxLen;omega) (by simp) ?_;intro bD a4 q;have ar:A2 (w.alloc (.cells #[.slice E a F] 34)).heap.size (w.alloc (.cells #[.slice E a F] 34)) bD:=⟨q.os,q.tape,q.output,q.size,fun k r=>q.block k r (by simp)⟩;have cq:bD.cell? ⟨w.heap.size,0,B7⟩=A0 (.slice E a F):=by {rw[au _ _ _ _ _ _ ((ar.block _ (by simp)).trans (ay w _))];rfl});have be:=((ah _ w).alloc (ae _) _).trans (ar.mono (by simp));rw[dr,show(madeCells (Br .i64 0).cells (a*1)).toList=B3 a (Br .i64 0) by rw[ti];exact ym _ a]at a4;clear cq ar q;go_loopw [17] (fun a6 wr=>∃k:Nat,k<=a/\a6= .int .i64 k/\Cr (wr.ownsRow w.heap.size 3 1 (.slice (A0 ⟨w.heap.size+1,0,B7⟩) a a) a ((iD (ns.take k)).map (Br .i64)++B3 (a-k) (.int .i64 0)))/\A2 w.heap.size w wr) (fun a6 _=>a-(B0 a6).toNat)
 case atStart=>exact⟨0,aF _,rfl,a4,be⟩
 case round=>
  obtain⟨k,r,rfl,A,y⟩:=hrel;clear a4 be;by_cases bs:k<a
  ·obtain⟨N,z⟩:=co af.out bs;have cc:=al.1 N (cG z);have br:=al.2.1 k N z;have a3:=al.2.2 k;obtain⟨cs,rfl,dn,dk,ca⟩:=(bE.below y).get z;obtain⟨b2,b3,b4,b5,b6,b7,b8,bf,bh,bt,a2⟩:=ca;obtain⟨ct,cw,rfl⟩:=bt.form;obtain⟨bd,bj,rfl⟩:=a2.form;obtain⟨c,H⟩:=aA (iD (ns.take k));have ap:c.length=k:=by rw[<-H,jA,jx,af.out];omega
   have bw:iD (ns.take (k+1))=c++[sC c k N.ks]:=by
    rw[iw,z];show iD (ns.take k++[N])=_;rw[tL,H,ap]
   rw[H]at A a3;obtain⟨p,x⟩:=aA N.ks.length;rw[x]at bh cc;have bo:dm wr (.slice bd p bj) N.ks:=by rw[<-x];exact a2
   have j:=amE x bo br a3 ap bw;have am:anv c (N.ks.take p).reverse k (xI c N.ks.reverse k):=⟨by rw[<-x,Cd]⟩;obtain⟨bb,ao⟩:=aA (xI c N.ks.reverse k);rw[ao]at am;have a9:=aw ao;generalize N.nm.length=cr at bf;clear z bt a2 bo br a3 ap bw H x ao;go_wp2_with fail;generalize bl:wr.alloc _=C;obtain⟨bk,I, -⟩:=al1 bl;replace bk:C.cell? ⟨wr.heap.size,8,B7⟩=A0 (.slice bd p bj):=(au _ _ _ _ _ _ bk).trans rfl;have ad:=bJ A.out I;clear bl;have b0:=j.2.1.below I;have ag:=aw ad;have a0:=y.trans (I.mono y.size);have c9:=ad.frozenAt k;have cB:C.cell? ⟨w.heap.size+1,k,B7⟩=A0 (.int .i64 0):=by
    rw[ad.cellAt k (by omega),fy (by rw[cA,j.out.2.2.2.2.1];exact ae _),cA,j.out.2.2.2.2.1,eD,Cb,ab (by omega)]
   clear A ad b2 b3 b4 b5 b6 b7 b8 bf bh y I;go_loop [6,7,8] (fun cn cp a7=>∃(d:Nat) (f:Int),cn= .int .i64 f/\cp= .bool B6/\a7= .int .i64 ((d:Int)-1)/\d<=p/\0<=f/\f<=(k:Int)/\anv c (N.ks.take d).reverse f bb) (fun _ _ a7=>(B0 a7+1).toNat)
   case atStart=>exact⟨p,k,rfl,rfl,rfl,ae _,by omega,by omega,am⟩
   case round=>
    obtain⟨d,f,rfl,rfl,rfl,da,cx,cy,t⟩:=hrel;clear am;have b:=t.out;cases d with
    |zero=>
     have l:sC c k N.ks=(k:Int)-f+1:=by
      unfold sC;rw[a9.out];rw[Gn,List.reverse_nil,xI]at b;rw[<-b]
     have an:=aw l;have a5:=(ag.stored k (.int .i64 ((k:Int)-f+1))).1;rw[F6 c a k _ j.out.2.2.2.2.1 bs]at a5;have B:=aw a5;clear b t l a5;go_wp2_with fail;refine⟨⟨k+1,by omega,by go_num,?_,a0.setCell (by simp) _⟩,by simp[B0];omega⟩;show World.ownsRow _ _ _ _ _ _ _;rw[j.out.2.2.2.2.2,an.out];exact B
    |succ d=>
     obtain⟨a8,l⟩:=co j.1 (show d<p by omega);obtain⟨cu,cb,cI⟩:=b0.get l;subst cb;obtain⟨cg,dg⟩:=j.2.2.1 a8 (cG l);rw[iw,l]at b;simp only[Gy,List.reverse_append,List.reverse_cons,List.reverse_nil,ep,yk]at b;rw[xI]at b;obtain⟨m,rfl⟩:=gl cg;have bx:m<k:=by omega
     obtain⟨o,s⟩:=co j.2.2.2.2.1 bx;have cz:=j.2.2.2.1 m o s;have cF:C.cell? ⟨w.heap.size+1,m,B7⟩=A0 (.int .i64 o):=by
      rw[ag.out.cellAt m (by omega),ia (by rw[cA,j.out.2.2.2.2.1];exact bx),bK,s];rfl
     have K:c.getD m 0=o:=by rw[aK,s];rfl
     simp only[jz,K]at b;have b9:(((d+1:Nat)):Int)-1=(d:Int):=by omega
     rw[b9];have dc:(0:Int)<=(d:Int):=by omega
     have dd:(d:Int)<(p:Int):=by omega
     have df:(m:Int)<(a:Int):=by omega
     by_cases n:(m:Int)=f-1/\o≠0
     ·rw[ab n]at b;have b1:anv c (N.ks.take d).reverse (f-o) bb:=⟨b⟩;have bn:=n.2;have J:=n.1;clear b t l s K n;obtain rfl:f=(m:Int)+1:=by omega
      clear J;go_wp2_with fail;go_round
      case rel=>exact⟨d,(m:Int)+1-o,by go_num,rfl,by go_num,by omega,by omega,by omega,b1⟩
      case measure=>simp[B0]
     ·rw[aa n]at b;have an:Cr (sC c k N.ks=0):=by
       show sC c k N.ks=0;unfold sC;rw[a9.out,<-b]
      have B:Cr (C.ownsRow w.heap.size 3 1 (.slice (A0 ⟨w.heap.size+1,0,B7⟩) a a) a ((iD (ns.take (k+1))).map (Br .i64)++B3 (a-(k+1)) (.int .i64 0))):=by
       have u:=ag.out;show World.ownsRow _ _ _ _ _ _ _;rw[j.out.2.2.2.2.2,an.out,eB];rw[show a-k=(a-(k+1))+1 by omega,List.replicate_succ]at u;rw[cH];exact u
      by_cases J:(m:Int)=f-1
      ·have bn:o=0:=by
        rcases Int.lt_trichotomy o 0 with g|g|g
        ·omega
        ·exact g
        ·exact absurd ⟨J,by omega⟩ n
       subst bn;clear b t l s K n;obtain rfl:f=(m:Int)+1:=by omega
       clear J;go_wp2_with fail;exact⟨⟨k+1,by omega,by go_num,B,a0⟩,by simp[B0];omega⟩
      ·clear b t l s K n;go_wp2_with fail;exact⟨⟨k+1,by omega,by go_num,B,a0⟩,by simp[B0];omega⟩
  ·obtain rfl:k=a:=by omega
   go_wp2_with fail;go_ret;refine⟨_,rfl,?_,y⟩;have u:=A.out;rw[dj (by rw[af.out];exact ae _),eD,List.replicate_zero,eo]at u;exact u
def wB:Nat->ByteArray
 |0=>⟨#[115,116,97,116]⟩
 |1=>⟨#[98,108,111,99,107]⟩
 |2=>⟨#[101,108,115,101]⟩
 |3=>⟨#[101,120,112,114]⟩
 |4=>⟨#[98,97,115,101]⟩
 |5=>⟨#[116,97,114,103,101,116]⟩
 |6=>⟨#[99,97,108,108]⟩
 |7=>⟨#[109,97,110,121]⟩
 |8=>⟨#[102,110]⟩
 |_=>⟨#[101,110,116,114,121]⟩
def ms:Nat->Int->Bool
 |0,k=>jJ k
 |1,k=>k==1
 |2,k=>k==1||k==7
 |3,k=>gF k
 |4,k=>gF k&&k !=27
 |5,k=>k==26||k==32||k==33
 |6,k=>k==34
 |7,k=>k==34||k==27
 |8,k=>k==36
 |_,k=>decide (40<=k/\k<=42)
theorem Dz(k:Int)(w:Z):X U 239 #[O M k] w fun e c=>e= T (Y (gF k))/\c=w:=by
 unfold gF;rcases(show(20<=k/\k<=37)\/(20<=k/\¬k<=37)\/¬20<=k by omega) with⟨h1,b⟩|⟨h1,b⟩|h1
 ·rw[bv ⟨h1,b⟩];go_in;go_wp2;go_ret;exact⟨rfl,rfl⟩
 ·rw[aD (fun a=>b a.2)];go_in;go_wp2;go_ret;exact⟨rfl,rfl⟩
 ·rw[aD (fun a=>h1 a.1)];go_in;go_wp2;go_ret;exact⟨rfl,rfl⟩
theorem aei(k:Int)(w:Z):X U 221 #[V ⟨#[115,116,97,116]⟩,O M k] w fun e b=>e= T (Y (ms 0 k))/\b=w:=by
 rcases(show(1<=k/\k<=16)\/(1<=k/\¬k<=16)\/(¬1<=k) by omega) with⟨h0,a⟩|⟨h0,a⟩|h0
 ·rw[show ms 0 k=B6 from bv (by omega)];go_in;go_wp2;go_ret;exact⟨rfl,rfl⟩
 ·rw[show ms 0 k=Ax from aD (by omega)];go_in;go_wp2;go_ret;exact⟨rfl,rfl⟩
 ·rw[show ms 0 k=Ax from aD (by omega)];go_in;go_wp2;go_ret;exact⟨rfl,rfl⟩
theorem aej(k:Int)(w:Z):X U 221 #[V ⟨#[98,108,111,99,107]⟩,O M k] w fun e a=>e= T (Y (ms 1 k))/\a=w:=by
 unfold ms;go_in;go_wp2;go_ret;exact⟨rfl,rfl⟩
theorem aek(k:Int)(w:Z):X U 221 #[V ⟨#[101,108,115,101]⟩,O M k] w fun e a=>e= T (Y (ms 2 k))/\a=w:=by
 unfold ms;rcases(show(k=1)\/(k=7)\/(¬k=1/\¬k=7) by omega) with rfl|rfl|⟨b,c⟩
 ·go_in;go_wp2;go_ret;exact⟨rfl,rfl⟩
 ·go_in;go_wp2;go_ret;exact⟨rfl,rfl⟩
 ·go_in;go_wp2;go_ret;exact⟨rfl,rfl⟩
theorem ael(k:Int)(w:Z):X U 221 #[V ⟨#[101,120,112,114]⟩,O M k] w fun e a=>e= T (Y (ms 3 k))/\a=w:=by
 have c:=fun w=>Dz k w;obtain⟨d,b⟩:=aA (gF k);show X _ _ _ _ fun e a=>e= T (Y (gF k))/\a=w;rw[b]at c⊢;clear b;go_in;go_wp2_with (go_at_call 239;refine eH (c _) ?_);go_ret;exact⟨rfl,rfl⟩
theorem aem(k:Int)(w:Z):X U 221 #[V ⟨#[98,97,115,101]⟩,O M k] w fun e b=>e= T (Y (ms 4 k))/\b=w:=by
 have a:=fun w=>Dz k w;obtain⟨d,c⟩:=aA (gF k);show X _ _ _ _ fun e b=>e= T (Y (gF k&&k !=27))/\b=w;rw[c]at a⊢;clear c;cases d
 ·rw[eI];go_in;go_wp2_with (go_at_call 239;refine eH (a _) ?_);go_ret;exact⟨rfl,rfl⟩
 ·rw[fI];go_in;go_wp2_with (go_at_call 239;refine eH (a _) ?_);go_ret;exact⟨rfl,rfl⟩
theorem aen(k:Int)(w:Z):X U 221 #[V ⟨#[116,97,114,103,101,116]⟩,O M k] w fun e a=>e= T (Y (ms 5 k))/\a=w:=by
 unfold ms;rcases(show(k=26)\/(k=32)\/(k=33)\/(¬k=26/\¬k=32/\¬k=33) by omega) with rfl|rfl|rfl|⟨b,c,d⟩
 ·go_in;go_wp2;go_ret;exact⟨rfl,rfl⟩
 ·go_in;go_wp2;go_ret;exact⟨rfl,rfl⟩
 ·go_in;go_wp2;go_ret;exact⟨rfl,rfl⟩
 ·go_in;go_wp2;go_ret;exact⟨rfl,rfl⟩
theorem aeo(k:Int)(w:Z):X U 221 #[V ⟨#[99,97,108,108]⟩,O M k] w fun e a=>e= T (Y (ms 6 k))/\a=w:=by
 unfold ms;go_in;go_wp2;go_ret;exact⟨rfl,rfl⟩
theorem aep(k:Int)(w:Z):X U 221 #[V ⟨#[109,97,110,121]⟩,O M k] w fun e a=>e= T (Y (ms 7 k))/\a=w:=by
 unfold ms;rcases(show(k=34)\/(k=27)\/(¬k=34/\¬k=27) by omega) with rfl|rfl|⟨b,c⟩
 ·go_in;go_wp2;go_ret;exact⟨rfl,rfl⟩
 ·go_in;go_wp2;go_ret;exact⟨rfl,rfl⟩
 ·go_in;go_wp2;go_ret;exact⟨rfl,rfl⟩
theorem aeq(k:Int)(w:Z):X U 221 #[V ⟨#[102,110]⟩,O M k] w fun e a=>e= T (Y (ms 8 k))/\a=w:=by
 unfold ms;go_in;go_wp2;go_ret;exact⟨rfl,rfl⟩
theorem aer(k:Int)(w:Z):X U 221 #[V ⟨#[101,110,116,114,121]⟩,O M k] w fun e b=>e= T (Y (ms 9 k))/\b=w:=by
 rcases(show(40<=k/\k<=42)\/(40<=k/\¬k<=42)\/(¬40<=k) by omega) with⟨h0,a⟩|⟨h0,a⟩|h0
 ·rw[show ms 9 k=B6 from bv (by omega)];go_in;go_wp2;go_ret;exact⟨rfl,rfl⟩
 ·rw[show ms 9 k=Ax from aD (by omega)];go_in;go_wp2;go_ret;exact⟨rfl,rfl⟩
 ·rw[show ms 9 k=Ax from aD (by omega)];go_in;go_wp2;go_ret;exact⟨rfl,rfl⟩
theorem Ig(i:Nat)(a:i<10)(k:Int)(w:Z):X U 221 #[V (wB i),O M k] w fun e b=>e= T (Y (ms i k))/\b=w:=by
 match i,a with
 |0,_=>exact aei k w
 |1,_=>exact aej k w
 |2,_=>exact aek k w
 |3,_=>exact ael k w
 |4,_=>exact aem k w
 |5,_=>exact aen k w
 |6,_=>exact aeo k w
 |7,_=>exact aep k w
 |8,_=>exact aeq k w
 |9,_=>exact aer k w
theorem DA(k:Int):ez k=0\/ez k=1\/ez k=2\/ez k=3\/ez k=4\/ez k=5\/ez k=6:=by
 unfold ez
 repeat' split
 all_goals simp
theorem sD(k:Int)(b:Nat)(w:Z):(method 429 (pv (ez k)) (.pointer (A0 ⟨b,0,B7⟩)) "loop.example/warp/impl.head").run U w= .ok (285,.pointer (A0 ⟨b,0,B7⟩)) w:=FI _ b w
def Bn(i f:Nat):List UInt8:=(wB i).data.toList++(if f=1 then [42] else if f=2 then [63] else [])
def wS(i f:Nat):ByteArray:=⟨(Bn i f).toArray⟩
def wS1(i f:Nat):ByteArray:=⟨((wB i).data.toList++(if f=2 then [63] else [])).toArray⟩
theorem arx:∀i f,i<10->f<3->(⟨(Lib.trimSuffix (wS i f).data.toList [42]).toArray⟩:ByteArray)=wS1 i f/\Lib.hasSuffix (wS i f).data.toList [42]=(f==1)
 |0,0,_,_=>⟨rfl,rfl⟩
 |0,1,_,_=>⟨rfl,rfl⟩
 |0,2,_,_=>⟨rfl,rfl⟩
 |1,0,_,_=>⟨rfl,rfl⟩
 |1,1,_,_=>⟨rfl,rfl⟩
 |1,2,_,_=>⟨rfl,rfl⟩
 |2,0,_,_=>⟨rfl,rfl⟩
 |2,1,_,_=>⟨rfl,rfl⟩
 |2,2,_,_=>⟨rfl,rfl⟩
 |3,0,_,_=>⟨rfl,rfl⟩
 |3,1,_,_=>⟨rfl,rfl⟩
 |3,2,_,_=>⟨rfl,rfl⟩
 |4,0,_,_=>⟨rfl,rfl⟩
 |4,1,_,_=>⟨rfl,rfl⟩
 |4,2,_,_=>⟨rfl,rfl⟩
 |5,0,_,_=>⟨rfl,rfl⟩
 |5,1,_,_=>⟨rfl,rfl⟩
 |5,2,_,_=>⟨rfl,rfl⟩
 |6,0,_,_=>⟨rfl,rfl⟩
 |6,1,_,_=>⟨rfl,rfl⟩
 |6,2,_,_=>⟨rfl,rfl⟩
 |7,0,_,_=>⟨rfl,rfl⟩
 |7,1,_,_=>⟨rfl,rfl⟩
 |7,2,_,_=>⟨rfl,rfl⟩
 |8,0,_,_=>⟨rfl,rfl⟩
 |8,1,_,_=>⟨rfl,rfl⟩
 |8,2,_,_=>⟨rfl,rfl⟩
 |9,0,_,_=>⟨rfl,rfl⟩
 |9,1,_,_=>⟨rfl,rfl⟩
 |9,2,_,_=>⟨rfl,rfl⟩
theorem ary:∀i f,i<10->f<3->(⟨(Lib.trimSuffix (wS1 i f).data.toList [63]).toArray⟩:ByteArray)=wB i/\Lib.hasSuffix (wS1 i f).data.toList [63]=(f==2)
 |0,0,_,_=>⟨rfl,rfl⟩
 |0,1,_,_=>⟨rfl,rfl⟩
 |0,2,_,_=>⟨rfl,rfl⟩
 |1,0,_,_=>⟨rfl,rfl⟩
 |1,1,_,_=>⟨rfl,rfl⟩
 |1,2,_,_=>⟨rfl,rfl⟩
 |2,0,_,_=>⟨rfl,rfl⟩
 |2,1,_,_=>⟨rfl,rfl⟩
 |2,2,_,_=>⟨rfl,rfl⟩
 |3,0,_,_=>⟨rfl,rfl⟩
 |3,1,_,_=>⟨rfl,rfl⟩
 |3,2,_,_=>⟨rfl,rfl⟩
 |4,0,_,_=>⟨rfl,rfl⟩
 |4,1,_,_=>⟨rfl,rfl⟩
 |4,2,_,_=>⟨rfl,rfl⟩
 |5,0,_,_=>⟨rfl,rfl⟩
 |5,1,_,_=>⟨rfl,rfl⟩
 |5,2,_,_=>⟨rfl,rfl⟩
 |6,0,_,_=>⟨rfl,rfl⟩
 |6,1,_,_=>⟨rfl,rfl⟩
 |6,2,_,_=>⟨rfl,rfl⟩
 |7,0,_,_=>⟨rfl,rfl⟩
 |7,1,_,_=>⟨rfl,rfl⟩
 |7,2,_,_=>⟨rfl,rfl⟩
 |8,0,_,_=>⟨rfl,rfl⟩
 |8,1,_,_=>⟨rfl,rfl⟩
 |8,2,_,_=>⟨rfl,rfl⟩
 |9,0,_,_=>⟨rfl,rfl⟩
 |9,1,_,_=>⟨rfl,rfl⟩
 |9,2,_,_=>⟨rfl,rfl⟩
theorem acF:∀i f,i<10->f<3->(wS i f).size<=10/\(wS1 i f).size<=10
 |0,0,_,_=>by decide
 |0,1,_,_=>by decide
 |0,2,_,_=>by decide
 |1,0,_,_=>by decide
 |1,1,_,_=>by decide
 |1,2,_,_=>by decide
 |2,0,_,_=>by decide
 |2,1,_,_=>by decide
 |2,2,_,_=>by decide
 |3,0,_,_=>by decide
 |3,1,_,_=>by decide
 |3,2,_,_=>by decide
 |4,0,_,_=>by decide
 |4,1,_,_=>by decide
 |4,2,_,_=>by decide
 |5,0,_,_=>by decide
 |5,1,_,_=>by decide
 |5,2,_,_=>by decide
 |6,0,_,_=>by decide
 |6,1,_,_=>by decide
 |6,2,_,_=>by decide
 |7,0,_,_=>by decide
 |7,1,_,_=>by decide
 |7,2,_,_=>by decide
 |8,0,_,_=>by decide
 |8,1,_,_=>by decide
 |8,2,_,_=>by decide
 |9,0,_,_=>by decide
 |9,1,_,_=>by decide
 |9,2,_,_=>by decide
theorem arz(i f:Nat)(b:i<10)(a:f<3)(w:Z):X U 220 #[V (wS i f),V ⟨#[42]⟩] w fun e g=>e= T (B1 #[V (wS1 i f),Y (f==1)])/\g=w:=by
 refine eH (Tryz.strings_CutSuffix (wS i f) ⟨#[42]⟩ w (by have:=(acF i f b a).1;omega)) ?_;obtain⟨c,d⟩:=arx i f b a;refine⟨?_,rfl⟩;rw[<-c,<-d]
theorem arA(i f:Nat)(b:i<10)(a:f<3)(w:Z):X U 220 #[V (wS1 i f),V ⟨#[63]⟩] w fun e g=>e= T (B1 #[V (wB i),Y (f==2)])/\g=w:=by
 refine eH (Tryz.strings_CutSuffix (wS1 i f) ⟨#[63]⟩ w (by have:=(acF i f b a).2;omega)) ?_;obtain⟨c,d⟩:=ary i f b a;refine⟨?_,rfl⟩;rw[<-c,<-d]
def iq(W:Z)(v:B4)(ks:List Int):Prop:=
 (ks=[]/\∃a b,v= A9 a 0 b)\/∃a b,v= A9 (A0 a) ks.length b/\ks.length<=b/\∀e c,ks[e]?=A0 c->∃d,W.cell? (a.add e)=A0 (fl c d)/\W.cell? ⟨d,0,B7⟩=A0 (O M c)
theorem iq.below{v:B4}(h:iq W v ks)(a:A2 W.heap.size W W'):iq W' v ks:=by
 rcases h with h|⟨b,d,g,i,j⟩
 ·exact .inl h
 ·exact .inr ⟨b,d,g,i,fun l m k=>by obtain⟨c,e,f⟩:=j l m k;exact⟨c,aj a e,aj a f⟩⟩
theorem iq.form{v:B4}(h:iq W v ks):∃a c,v= A9 a ks.length c:=by
 rcases h with⟨rfl,a,c,h⟩|⟨a,c,b,d⟩
 ·exact⟨a,c,h⟩
 ·exact⟨_,_,b⟩
theorem iq.get{a:Option Addr}{n c:Nat}(h:iq W (A9 a n c) ks){j:Nat}{k:Int}(e:ks[j]?=A0 k):∃d b,a=A0 d/\W.cell? (d.add j)=A0 (fl k b)/\W.cell? ⟨b,0,B7⟩=A0 (O M k):=by
 rcases h with⟨rfl,_⟩|⟨d,m,f,_,l⟩
 ·simp at e
 ·cases f;obtain⟨b,g,i⟩:=l j k e;exact⟨d,b,rfl,g,i⟩
def Jb(i f:Nat)(ks:List Int):Nat:=if f=1 then(ks.takeWhile (ms i)).length else min 1 (ks.takeWhile (ms i)).length
def fH:List (Nat×Nat)->List Int->Bool
 |[],ks=>ks.isEmpty
 |(i,f)::a,ks=>if Jb i f ks=0/\f=0 then Ax else fH a (ks.drop (Jb i f ks))
structure DB (ws:List (Nat×Nat)) (ks:List Int) (R:Bool):Prop where
 out:fH ws ks=R
theorem agI(p:Int->Bool):∀(ks:List Int)(t:Nat),t<=(ks.takeWhile p).length->(t<(ks.takeWhile p).length↔∃k,ks[t]?=A0 k/\p k=B6)
 |[],t,h=>by simp at h;subst h;simp
 |a::r,t,h=>by
  cases hp:p a with
  |false=>
   rw[Gq (by simp[hp])]at h⊢;simp at h;subst h;simp[hp]
  |true=>
   rw[Gr (by simp[hp])]at h⊢;cases t with
   |zero=>simp[hp]
   |succ t=>
    simp only[bi]at h⊢;have b:=agI p r t (by omega);rw[show(t+1<(r.takeWhile p).length+1)↔t<(r.takeWhile p).length by omega,b];simp
theorem ap5(p:Int->Bool)(ks:List Int):(ks.takeWhile p).length<=ks.length:=(List.takeWhile_sublist p).length_le
theorem anw(i f:Nat)(ks:List Int):Jb i f ks<=ks.length:=by
 have:=ap5 (ms i) ks;unfold Jb;split<;>omega
theorem anx(i f:Nat)(ks:List Int)(t:Nat)(h:t<=Jb i f ks):t<Jb i f ks↔(f=1\/t=0)/\∃k,ks[t]?=A0 k/\ms i k=B6:=by
 unfold Jb at h⊢;by_cases a:f=1
 ·rw[ab a]at h⊢;rw[agI _ ks t h];simp[a]
 ·rw[aa a]at h⊢;by_cases b:t=0
  ·subst b;have:=agI (ms i) ks 0 (aF _);rw[show(0<min 1 (ks.takeWhile (ms i)).length)↔0<(ks.takeWhile (ms i)).length by omega,this];simp
  ·constructor
   ·intro h2;omega
   ·rintro ⟨h2|h2,_⟩
    ·exact absurd h2 a
    ·exact absurd h2 b
open Go.ChangeShapes Go.WideShapes Go.ChangeAt Go.WideElems Go.Deep
structure amg (N:Nd):Prop where
 k: -9223372036854775808<=N.k/\N.k<=9223372036854775807
 f: -9223372036854775808<=N.f/\N.f<=9223372036854775807
 t: -9223372036854775808<=N.t/\N.t<=9223372036854775807
 l: -9223372036854775808<=N.l/\N.l<=9223372036854775807
 op: -9223372036854775808<=N.op/\N.op<=9223372036854775807
 n: -9223372036854775808<=N.n/\N.n<=9223372036854775807
 ks:∀z∈N.ks, -9223372036854775808<=z/\z<=9223372036854775807
end Go.Proofs.YtnlhhmlcjbohbaaGreatDoor
namespace Go.Proofs.YtnlhhmlcjbohbaaGreatDoor
open Go.RowKit
open Go.Maps Go.WideMaps
variable{N:Nd}{R:Bool×Nat×List Int}{W W' w:World}{ks:List Int}{ns:List Nd}{vk vn vt:Value}
def anz(s:ByteArray):ByteArray:=ey (cD s)
theorem aa5(x:List Int):(ey x).size=x.length:=by
 have d:∀(x:List Int)(a:ByteArray),(x.foldl (fun b e=>b.push (UInt8.ofNat e.toNat)) a).size=a.size+x.length:=by
  intro x
  induction x with
  |nil=>intro a;rfl
  |cons f b c=>intro a;show(b.foldl _ (a.push _)).size=_;rw[c];simp;omega
 have:=d x Ck;unfold ey;rw[this];simp
theorem aes(s:ByteArray):(anz s).size<=2+4*s.size:=by
 unfold anz;rw[aa5];unfold cD;have:=aah s s.size (ae _);simp;omega
