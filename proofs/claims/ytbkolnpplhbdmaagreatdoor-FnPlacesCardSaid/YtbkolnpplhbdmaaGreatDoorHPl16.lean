import Derived.Laws.AppendOwnNone
import Derived.Test.YtbkolnpplhbdmaaGreatDoorHPl07
import Derived.Test.YtbkolnpplhbdmaaGreatDoorHPl10
set_option linter.all false
set_option maxRecDepth 100000
set_option maxHeartbeats 25600000
open Bool renaming false->O,true->T
open Go.Value renaming int->Q,slice->U,bool->Y,string->Z,agg->Ad
open Go.IntKind renaming i64->S
open Go.Proofs.Tryz renaming prog->V
open Go.RowKit renaming Hid->W,intOf->Ak
open Go renaming Calls->X
namespace Go.Proofs.YtbkolnpplhbdmaaGreatDoor
open Go.RowKit Go.Maps Go.WideMaps
variable{N:Nd}{ns:List Nd}{vk vn vt:Value}{w:World}
def ahf:(Tryz.prog.info? 9).map (λi=>(i.zero,i.size,i.bytes))=some (some (Z ⟨#[]⟩),1,16):=by kernel_rfl
def C6:List Int:=[20,21,22,27,23,24,25,26,28,29,32,30,31,33,34,35,36,37,40,41,42]
def akv(A:NArg w vt ns N vn vk)(a:∀c∈C6,N.k≠c):
  X V 79 #[Ad #[vt],jI N vn vk] w (jf w (Y O)):=by
 obtain⟨d,g,rfl⟩:=A.t.form;obtain⟨e,h,rfl⟩:=A.n.form;obtain⟨f,i,rfl⟩:=A.k.form;have b:=St.start A;clear A;have j:∀c:Int,20<=c->c<=37->(N.k==c)=O:=λc _ _=>beq_eq_false_iff_ne.2 (a c (by simp[C6];omega));have l:∀c:Int,40<=c->c<=42->(N.k==c)=O:=λc _ _=>beq_eq_false_iff_ne.2 (a c (by simp[C6];omega));clear a;unfold jI;go_in;go_wp2;go_ret;exact⟨rfl,b.bel⟩
def F4(ns:List Nd)(N:Nd):Nat->Nat->Bool
 |0,_=>T
 |f+1,j=>decide (40<=fl ns N j/\fl ns N j<=42)&&F4 ns N f (j+1)
structure aoc (ns:List Nd) (N:Nd) (f j:Nat) (R:Bool):Prop where
 out:F4 ns N f j=R
def ahg(A:NArg w vt ns N vn vk)(B:N.k=35):
  X V 79 #[Ad #[vt],jI N vn vk] w (jf w (Y (F4 ns N N.ks.length 0&&bu N O O O O))):=by
 obtain⟨F,I,rfl⟩:=A.t.form;obtain⟨G,J,rfl⟩:=A.n.form;obtain⟨H,K,rfl⟩:=A.k.form;have b:=St.start A;have a4:=A.l2;clear A;have a5:=kqf B;have a6:=kqs B;clear B;have⟨z,C⟩:=aC (F4 ns N N.ks.length 0);rw[C];have al:aoc ns N N.ks.length 0 z:=⟨C⟩;clear C;unfold jI;go_in;go_wp2_with fail;generalize (w.alloc (.cells #[U F ns.length I] 26)).alloc (.cells #[Q S N.k,Q S N.f,Q S N.t,Q S N.l,Q S N.op,Q S N.n,Z N.x,U G N.nm.length J,U H N.ks.length K] 34)=ar at b⊢;go_loopw [6,7,200] (λ_ _ E wr=>∃(c:Nat),E= Q S c/\c<=N.ks.length/\aoc ns N (N.ks.length-c) c z/\St w (U F ns.length I) ns N (U G N.nm.length J) (U H N.ks.length K) wr) (λ_ _ E _=>N.ks.length-(Ak E).toNat)
 case atStart=>exact⟨0,rfl,by omega,al,b⟩
 case round=>
  clear b;obtain⟨c,rfl,a0,ak,b⟩:=hrel;have⟨i,j,m,o,p,q,r,s,u,v⟩:=bK b.bn;have y:=b.bt;have d:=ak.out;by_cases ao:c<N.ks.length
  .rw[show N.ks.length-c=(N.ks.length-(c+1))+1 by omega,F4]at d;have an:(c:Int)<(N.ks.length:Int):=by omega
   have h:=rf b.a c ao;unfold jI at h;generalize fl ns N c=ad at d h;by_cases av:ad<40
   .rw[az (by omega),fE]at d;have g:=am d;clear d;go_wp2_with (go_at_call 153;refine h.mono ?_;rintro L af ⟨rfl,e⟩;replace b:=b.below e;clear e;have⟨i,j,m,o,p,q,r,s,u,v⟩:=bK b.bn;have y:=b.bt);go_ret;exact⟨by rw[<-g.out];rfl,b.bel⟩
   by_cases aK:42<ad
   .rw[az (by omega),fE]at d;have g:=am d;clear d;go_wp2_with (go_at_call 153;refine h.mono ?_;rintro L af ⟨rfl,e⟩;replace b:=b.below e;clear e;have⟨i,j,m,o,p,q,r,s,u,v⟩:=bK b.bn;have y:=b.bt);go_ret;exact⟨by rw[<-g.out];rfl,b.bel⟩
   rw[be (by omega),gI]at d;have g:aoc ns N (N.ks.length-(c+1)) (c+1) z:=⟨d⟩;clear d;go_wp2_with (go_at_call 153;refine h.mono ?_;rintro L af ⟨rfl,e⟩;replace b:=b.below e;clear e;have⟨i,j,m,o,p,q,r,s,u,v⟩:=bK b.bn;have y:=b.bt);exact⟨⟨c+1,by go_num,by omega,g,b⟩,by simp[Ak];omega⟩
  .rw[show N.ks.length-c=0 by omega,F4]at d;have g:=am d;have an:¬(c:Int)<(N.ks.length:Int):=by omega
   clear d;go_wp2_with (go_at_call 154;refine b.bare λap b=>?_;have⟨i,j,m,o,p,q,r,s,u,v⟩:=bK b.bn;have y:=b.bt);go_ret;exact⟨by rw[<-g.out];rfl,b.bel⟩
def jj(ns:List Nd)(N:Nd):Bool:=
 if N.k=20 then(((N.ks.length:Int)==0)&&bu N O O O O)
 else if N.k=21 then(((N.ks.length:Int)==0)&&bu N O O O O)
 else if N.k=22 then(((N.ks.length:Int)==0)&&bu N O O O O)
 else if N.k=27 then(((N.ks.length:Int)==0)&&bu N O O O O)
 else if N.k=23 then(((N.ks.length:Int)==0)&&bu N O T O O)
 else if N.k=24 then(((N.ks.length:Int)==0)&&bu N O O T O&&fok N.x)
 else if N.k=25 then(((N.ks.length:Int)==0)&&bu N O O T O&&decide ((N.x.size:Int)<=4000))
 else if N.k=26 then(((N.ks.length:Int)==0)&&bu N O O T O&&lr N.x)
 else if N.k=28 then(((N.ks.length:Int)==2)&&lj ns N 2 0&&bu N O O O O)
 else if N.k=29 then(((N.ks.length:Int)==2)&&lj ns N 2 0&&bu N O O O O)
 else if N.k=32 then(((N.ks.length:Int)==2)&&lj ns N 2 0&&(fl ns N 0 !=27)&&bu N O O O O)
 else if N.k=30 then(((N.ks.length:Int)==1)&&lj ns N 1 0&&bu N T O O O&&decide ((19:Int)<=N.op)&&decide (N.op<=22))
 else if N.k=31 then(((N.ks.length:Int)==2)&&lj ns N 2 0&&bu N T O O O&&decide ((1:Int)<=N.op)&&decide (N.op<=18))
 else if N.k=33 then(((N.ks.length:Int)==1)&&lj ns N 1 0&&(fl ns N 0 !=27)&&bu N O O T O&&lr N.x)
 else if N.k=34 then(decide ((1:Int)<=(N.ks.length:Int))&&lj ns N N.ks.length 0&&(fl ns N 0 !=27)&&bu N O O O O)
 else if N.k=35 then(F4 ns N N.ks.length 0&&bu N O O O O)
 else if N.k=36 then(((N.ks.length:Int)==1)&&(fl ns N 0==1)&&bu N T O O T&&fy N 0 200&&(N.op==0||N.op==1))
 else if N.k=37 then(((N.ks.length:Int)==1)&&(fl ns N 0==34||fl ns N 0==27)&&bu N O O O O)
 else if N.k=40 then(((N.ks.length:Int)==1)&&lj ns N 1 0&&bu N O O O O)
 else if N.k=41 then(((N.ks.length:Int)==2)&&lj ns N 2 0&&bu N O O O O)
 else if N.k=42 then(((N.ks.length:Int)==1)&&lj ns N 1 0&&bu N O O T O&&lr N.x)
 else O
def aod(A:NArg w vt ns N vn vk)(hK:N.k=20\/N.k=21\/N.k=22\/N.k=27\/N.k=23\/N.k=24\/N.k=25\/N.k=26\/N.k=28\/N.k=29\/N.k=41\/N.k=32\/N.k=30\/N.k=31\/N.k=33\/N.k=34\/N.k=40\/N.k=42\/N.k=36\/N.k=37):
  X V 79 #[Ad #[vt],jI N vn vk] w (jf w (Y (jj ns N))):=by
 obtain⟨z,E,rfl⟩:=A.t.form;obtain⟨B,F,rfl⟩:=A.n.form;obtain⟨C,G,rfl⟩:=A.k.form;have a:=St.start A;have y:W (N.x.size<=1100000):=bG A.lx (by decide);clear A;rcases hK with hK|hK|hK|hK|hK|hK|hK|hK|hK|hK|hK|hK|hK|hK|hK|hK|hK|hK|hK|hK;all_goals
  unfold jj;simp only[hK,reduceIte,Int.reduceEq];have I:=kqf hK;have H:=kqs hK;first
  |(have b:N.k=20\/N.k=21\/N.k=22\/N.k=27:=by first|exact .inl hK|exact .inr (.inl hK)|exact .inr (.inr (.inl hK))|exact .inr (.inr (.inr (hK)))
    clear b hK;cases t0:((N.ks.length:Int)==0)
    case' true=>
     cases t1:bu N O O O O)
  |(have b:N.k=23:=hK
    clear b hK;cases t0:((N.ks.length:Int)==0)
    case' true=>
     cases t1:bu N O T O O)
  |(have b:N.k=24:=hK
    clear b hK;cases t0:((N.ks.length:Int)==0)
    case' true=>
     cases t1:bu N O O T O
     case' true=>
      cases t2:fok N.x)
  |(have b:N.k=25:=hK
    clear b hK;cases t0:((N.ks.length:Int)==0)
    case' true=>
     cases t1:bu N O O T O
     case' true=>
      cases t2:decide ((N.x.size:Int)<=4000))
  |(have b:N.k=26:=hK
    clear b hK;cases t0:((N.ks.length:Int)==0)
    case' true=>
     cases t1:bu N O O T O
     case' true=>
      cases t2:lr N.x)
  |(have b:N.k=28\/N.k=29\/N.k=41:=by first|exact .inl hK|exact .inr (.inl hK)|exact .inr (.inr (hK))
    clear b hK;cases t0:((N.ks.length:Int)==2)
    case' true=>
     have c:N.ks.length=2:=by have:=jg t0;omega
     have d:W (2<=N.ks.length):=by show _<=_;omega
     have e:W (0<N.ks.length):=by show _<_;omega
     have u:W (1<N.ks.length):=by show _<_;omega
     clear c;cases t1:lj ns N 2 0
     case' true=>
      cases t2:bu N O O O O)
  |(have b:N.k=32:=hK
    clear b hK;cases t0:((N.ks.length:Int)==2)
    case' true=>
     have c:N.ks.length=2:=by have:=jg t0;omega
     have d:W (2<=N.ks.length):=by show _<=_;omega
     have e:W (0<N.ks.length):=by show _<_;omega
     have u:W (1<N.ks.length):=by show _<_;omega
     clear c;cases t1:lj ns N 2 0
     case' true=>
      cases t2:(fl ns N 0 !=27)
      case' true=>
       cases t3:bu N O O O O)
  |(have b:N.k=30:=hK
    clear b hK;cases t0:((N.ks.length:Int)==1)
    case' true=>
     have c:N.ks.length=1:=by have:=jg t0;omega
     have d:W (1<=N.ks.length):=by show _<=_;omega
     have e:W (0<N.ks.length):=by show _<_;omega
     clear c;cases t1:lj ns N 1 0
     case' true=>
      cases t2:bu N T O O O
      case' true=>
       cases t3:decide ((19:Int)<=N.op)
       case' true=>
        cases t4:decide (N.op<=22))
  |(have b:N.k=31:=hK
    clear b hK;cases t0:((N.ks.length:Int)==2)
    case' true=>
     have c:N.ks.length=2:=by have:=jg t0;omega
     have d:W (2<=N.ks.length):=by show _<=_;omega
     have e:W (0<N.ks.length):=by show _<_;omega
     have u:W (1<N.ks.length):=by show _<_;omega
     clear c;cases t1:lj ns N 2 0
     case' true=>
      cases t2:bu N T O O O
      case' true=>
       cases t3:decide ((1:Int)<=N.op)
       case' true=>
        cases t4:decide (N.op<=18))
  |(have b:N.k=33:=hK
    clear b hK;cases t0:((N.ks.length:Int)==1)
    case' true=>
     have c:N.ks.length=1:=by have:=jg t0;omega
     have d:W (1<=N.ks.length):=by show _<=_;omega
     have e:W (0<N.ks.length):=by show _<_;omega
     clear c;cases t1:lj ns N 1 0
     case' true=>
      cases t2:(fl ns N 0 !=27)
      case' true=>
       cases t3:bu N O O T O
       case' true=>
        cases t4:lr N.x)
  |(have b:N.k=34:=hK
    clear b hK;cases t0:decide ((1:Int)<=(N.ks.length:Int))
    case' true=>
     have e:W (0<N.ks.length):=by show _<_;have:=aB t0;omega
     cases t1:lj ns N N.ks.length 0
     case' true=>
      cases t2:(fl ns N 0 !=27)
      case' true=>
       cases t3:bu N O O O O)
  |(have b:N.k=40:=hK
    clear b hK;cases t0:((N.ks.length:Int)==1)
    case' true=>
     have c:N.ks.length=1:=by have:=jg t0;omega
     have d:W (1<=N.ks.length):=by show _<=_;omega
     have e:W (0<N.ks.length):=by show _<_;omega
     clear c;cases t1:lj ns N 1 0
     case' true=>
      cases t2:bu N O O O O)
  |(have b:N.k=42:=hK
    clear b hK;cases t0:((N.ks.length:Int)==1)
    case' true=>
     have c:N.ks.length=1:=by have:=jg t0;omega
     have d:W (1<=N.ks.length):=by show _<=_;omega
     have e:W (0<N.ks.length):=by show _<_;omega
     clear c;cases t1:lj ns N 1 0
     case' true=>
      cases t2:bu N O O T O
      case' true=>
       cases t3:lr N.x)
  |(have b:N.k=36:=hK
    clear b hK;cases t0:((N.ks.length:Int)==1)
    case' true=>
     have c:N.ks.length=1:=by have:=jg t0;omega
     have d:W (1<=N.ks.length):=by show _<=_;omega
     have e:W (0<N.ks.length):=by show _<_;omega
     clear c;cases t1:(fl ns N 0==1)
     case' true=>
      cases t2:bu N T O O T
      case' true=>
       cases t3:fy N 0 200
       case' true=>
        cases u4:(N.op==0)
        case' false=>cases v4:(N.op==1))
  |(have b:N.k=37:=hK
    clear b hK;cases t0:((N.ks.length:Int)==1)
    case' true=>
     have c:N.ks.length=1:=by have:=jg t0;omega
     have d:W (1<=N.ks.length):=by show _<=_;omega
     have e:W (0<N.ks.length):=by show _<_;omega
     clear c;cases u1:(fl ns N 0==34)
     case' false=>cases v1:(fl ns N 0==27)
     all_goals
      cases t2:bu N O O O O)
 all_goals
  unfold jI;go_in;go_wp2_with (first|(go_at_call 154;with_reducible refine a.bare λf a=>?_;have⟨g,h,i,j,l,m,o,p,q,r⟩:=bK a.bn;have s:=a.bt)|(go_at_call 155;with_reducible refine a.named λf a=>?_;have⟨g,h,i,j,l,m,o,p,q,r⟩:=bK a.bn;have s:=a.bt)|(go_at_call 156;(first|with_reducible refine a.ex1 d.out λf a=>?_|with_reducible refine a.ex2 d.out λf a=>?_|with_reducible refine a.exL λf a=>?_);have⟨g,h,i,j,l,m,o,p,q,r⟩:=bK a.bn;have s:=a.bt)|(go_at_call 153;(first|with_reducible refine a.kid0 e.out λf a=>?_|with_reducible refine a.kid1 u.out λf a=>?_);have⟨g,h,i,j,l,m,o,p,q,r⟩:=bK a.bn;have s:=a.bt)|(go_at_call 159;refine dt (yv _ y.out _) λf v=>?_;replace a:=a.below v;have⟨g,h,i,j,l,m,o,p,q,r⟩:=bK a.bn;have s:=a.bt)|(go_at_call 158;refine dt (Ks _ y.out _) λf v=>?_;replace a:=a.below v;have⟨g,h,i,j,l,m,o,p,q,r⟩:=bK a.bn;have s:=a.bt));go_ret;exact⟨rfl,a.bel⟩
def C7(ns:List Nd)(N:Nd):Nat->Nat->Bool
 |0,_=>T
 |f+1,j=>iK (fl ns N j)&&C7 ns N f (j+1)
structure aoe (ns:List Nd) (N:Nd) (f j:Nat) (R:Bool):Prop where
 out:C7 ns N f j=R
def akw(A:NArg w vt ns N vn vk)(L:N.k=1):
  X V 78 #[Ad #[vt],jI N vn vk] w (jf w (Y (C7 ns N N.ks.length 0&&bu N O O O O))):=by
 obtain⟨F,I,rfl⟩:=A.t.form;obtain⟨G,J,rfl⟩:=A.n.form;obtain⟨H,K,rfl⟩:=A.k.form;have b:=St.start A;have a0:=A.l2;clear A;have a4:(N.k==1)=T:=by rw[L];rfl
 clear L;have⟨j,m⟩:=aC (C7 ns N N.ks.length 0);rw[m];have ak:aoe ns N N.ks.length 0 j:=⟨m⟩;clear m;unfold jI;go_in;go_wp2_with fail;generalize (w.alloc (.cells #[U F ns.length I] 26)).alloc (.cells #[Q S N.k,Q S N.f,Q S N.t,Q S N.l,Q S N.op,Q S N.n,Z N.x,U G N.nm.length J,U H N.ks.length K] 34)=av at b⊢;go_loopw [6,18] (λ_ o wr=>∃(c:Nat),o= Q S c/\c<=N.ks.length/\aoe ns N (N.ks.length-c) c j/\St w (U F ns.length I) ns N (U G N.nm.length J) (U H N.ks.length K) wr) (λ_ o _=>N.ks.length-(Ak o).toNat)
 case atStart=>exact⟨0,rfl,by omega,ak,b⟩
 case round=>
  clear b;obtain⟨c,rfl,aK,af,b⟩:=hrel;have⟨p,q,r,s,u,v,y,z,B,C⟩:=bK b.bn;have E:=b.bt;have d:=af.out;by_cases ao:c<N.ks.length
  .rw[show N.ks.length-c=(N.ks.length-(c+1))+1 by omega,C7]at d;have an:(c:Int)<(N.ks.length:Int):=by omega
   have h:=rf b.a c ao;unfold jI at h;generalize fl ns N c=ad at d h;have i:=λw=>DA ad w;cases hx:iK ad with
   |false=>
    rw[hx,fE]at d;rw[hx]at i;have e:=am d;clear d hx;go_wp2_with (first|(go_at_call 153;refine h.mono ?_;rintro al ap ⟨rfl,g⟩;replace b:=b.below g;clear g;have⟨p,q,r,s,u,v,y,z,B,C⟩:=bK b.bn;have E:=b.bt)|(go_at_call 77;refine fC (i _) ?_));go_ret;exact⟨by rw[<-e.out];rfl,b.bel⟩
   |true=>
    rw[hx,gI]at d;rw[hx]at i;have e:aoe ns N (N.ks.length-(c+1)) (c+1) j:=⟨d⟩;clear d hx;go_wp2_with (first|(go_at_call 153;refine h.mono ?_;rintro al ap ⟨rfl,g⟩;replace b:=b.below g;clear g;have⟨p,q,r,s,u,v,y,z,B,C⟩:=bK b.bn;have E:=b.bt)|(go_at_call 77;refine fC (i _) ?_));exact⟨⟨c+1,by go_num,by omega,e,b⟩,by simp[Ak];omega⟩
  .rw[show N.ks.length-c=0 by omega,C7]at d;have e:=am d;have an:¬(c:Int)<(N.ks.length:Int):=by omega
   clear d;go_wp2_with (go_at_call 154;refine b.bare λar b=>?_;have⟨p,q,r,s,u,v,y,z,B,C⟩:=bK b.bn;have E:=b.bt);go_ret;exact⟨by rw[<-e.out];rfl,b.bel⟩
def ahh(A:NArg w vt ns N vn vk)(b:0<N.ks.length):
  X V 153 #[Ad #[vt],Ad #[Q S N.k,Q S N.f,Q S N.t,Q S N.l,Q S N.op,Q S N.n,Z N.x,vn,vk],Q S ((N.ks.length:Int)-1)] w (jf w (Q S (fl ns N (N.ks.length-1)))):=by
 have a:=rf A (N.ks.length-1) (by omega);rw[show((N.ks.length-1:Nat):Int)=(N.ks.length:Int)-1 by omega]at a;exact a
def akx(A:NArg w vt ns N vn vk)(b:0<N.ks.length):
  X V 156 #[Ad #[vt],Ad #[Q S N.k,Q S N.f,Q S N.t,Q S N.l,Q S N.op,Q S N.n,Z N.x,vn,vk],Q S 0,Q S ((N.ks.length:Int)-1)] w (jf w (Y (lj ns N (N.ks.length-1) 0))):=by
 have a:=mK w vt ns N vn vk 0 (N.ks.length-1) A.t A.n A.k A.ok (by omega) A.ln A.l2;rw[show((N.ks.length-1:Nat):Int)=(N.ks.length:Int)-1 by omega]at a;exact a
def aky(A:NArg w vt ns N vn vk)(e:N.k=9):
  X V 78 #[Ad #[vt],jI N vn vk] w (jf w (Y (bu N O O O T&&(fy N 1 1&&(((N.ks.length:Int)==3||(N.ks.length:Int)==4)&&(lj ns N (N.ks.length-1) 0&&(fl ns N (N.ks.length-1)==1))))))):=by
 obtain⟨x,B,rfl⟩:=A.t.form;obtain⟨y,C,rfl⟩:=A.n.form;obtain⟨z,E,rfl⟩:=A.k.form;have b:=St.start A;have F:=A.l2;clear A;have G:=kqf e;have H:=kqt e 9 rfl;clear e;unfold jI;cases t0:bu N O O O T
 case' true=>
  cases t1:fy N 1 1
  case' true=>
   cases t2:((N.ks.length:Int)==3)
   case' false=>cases t5:((N.ks.length:Int)==4)
   case' false.true=>
    have d:W (0<N.ks.length):=by show _<_;have:=jg t5;omega
    cases t3:lj ns N (N.ks.length-1) 0
    case' true=>cases t4:(fl ns N (N.ks.length-1)==1)
   case' true.true.true=>
    have d:W (0<N.ks.length):=by show _<_;have:=jg t2;omega
    cases t3:lj ns N (N.ks.length-1) 0
    case' true=>cases t4:(fl ns N (N.ks.length-1)==1)
 all_goals
  go_in;go_wp2_with (first|(go_at_call 154;refine b.bare λs b=>?_;have⟨f,g,h,i,j,l,m,o,p,q⟩:=bK b.bn;have r:=b.bt)|(go_at_call 155;refine b.named λs b=>?_;have⟨f,g,h,i,j,l,m,o,p,q⟩:=bK b.bn;have r:=b.bt)|(go_at_call 156;with_reducible refine(akx b.a d.out).mono ?_;rintro u v ⟨rfl,c⟩;replace b:=b.below c;clear c;have⟨f,g,h,i,j,l,m,o,p,q⟩:=bK b.bn;have r:=b.bt)|(go_at_call 153;with_reducible refine(ahh b.a d.out).mono ?_;rintro u v ⟨rfl,c⟩;replace b:=b.below c;clear c;have⟨f,g,h,i,j,l,m,o,p,q⟩:=bK b.bn;have r:=b.bt));go_ret;exact⟨rfl,b.bel⟩
def Ld{s t:ByteArray}(h:s≠t):(s.toList==t.toList)=O:=by
 rw[du];intro a;apply h;rw[gH,gH]at a;cases s;cases t;simp only at a
 congr 1
 exact Array.toList_inj.1 a
def ahi{s t:ByteArray}(h:s=t):(s.toList==t.toList)=T:=by subst h;simp
def abd(w:World)(A B:Value)(c d:List ByteArray)(s:dz w A c)(t:dz w B d)(v:c.length<=1048576)(L:d.length<=1048576):
  X V 189 #[A,B] w (jf w (Y (decide (c=d)))):=by
 obtain⟨G,I,rfl⟩:=s.form;obtain⟨H,J,rfl⟩:=t.form;by_cases y:c.length=d.length
 .have⟨i,u⟩:=aC (decide (c=d));rw[u];have⟨e,j⟩:=aC c.length;have m:d.length=e:=by rw[<-y];exact j
  have f:=kK j m u;have q:W (dz w (U G e I) c/\dz w (U H e J) d):=⟨by rw[<-j];exact s,by rw[<-m];exact t⟩;rw[j]at v⊢;rw[m];go_in;go_wp21
  go_loopw [13] (λp wr=>∃b:Nat,b<=e/\p= Q S b/\W (∀a,a<b->c[a]?=d[a]?)/\cg w wr) (λp _=>e-(Ak p).toNat)
  case atStart=>exact⟨0,by omega,rfl,λa K=>by omega,ah _ _⟩
  case round=>
   obtain⟨b,ar,rfl,r,h⟩:=hrel;by_cases x:b<e
   .have⟨ad,k⟩:=cJ f.1 x;have⟨af,o⟩:=cJ f.2.1 x;obtain⟨ak,rfl,an⟩:=(q.1.below h).get k;obtain⟨al,rfl,ao⟩:=(q.2.below h).get o;by_cases n:ad=af
    .subst n;have C:W (∀a,a<b+1->c[a]?=d[a]?):=λa K=>by
      rcases bg a b with g|g
      .exact r a g
      .obtain rfl:a=b:=by omega
       rw[k,o]
     go_wp21
     go_quiet (fail)
     go_wp21
     exact⟨⟨b+1,by omega,by go_num,C,mq h _⟩,by simp[Ak];omega⟩
    .have E:W (i=O):=by
      show i=O;rw[<-f.out.2.2];refine az λl=>n ?_;rw[l,o]at k;exact(aJ k).symm
     have ap:=Ld n;go_wp21
     go_quiet (fail)
     go_wp21
     go_ret;exact⟨by rw[E.out];rfl,mq h _⟩
   .obtain rfl:b=e:=by omega
    have F:W (i=T):=by
     show i=T;rw[<-f.out.2.2];refine be (List.ext_getElem? λa=>?_);rcases bg a b with g|g
     .exact r a g
     .rw[jC (by rw[f.out.1];exact g),jC (by rw[f.out.2.1];exact g)]
    go_wp21
    go_ret;exact⟨by rw[F.out];rfl,h⟩
 .rw[az (λl=>y (by rw[l]))];have z:¬(c.length:Int)=(d.length:Int):=by omega
  generalize c.length=av at z v⊢;generalize d.length=aK at z L⊢;go_in;go_wp2;go_ret;exact⟨rfl,ah _ _⟩
def By(M N:Nd):Bool:=decide (M.op=N.op/\M.n=N.n/\M.x=N.x/\M.nm=N.nm)
def Ei(w:World)(M N:Nd)(I ad vn vk:Value)(K:dz w I M.nm)(L:dz w vn N.nm)(al:∃a n c,ad= U a n c)(ak:∃a n c,vk= U a n c)(an:M.nm.length<=1048576)(ao:N.nm.length<=1048576):
  X V 123 #[jI M I ad,jI N vn vk] w (jf w (Y (By M N))):=by
 have g:∀d e,cg w ((w.alloc d).alloc e):=λd e=>((ah _ w).alloc (ag _) d).alloc (by simp) e;have k:=λd e=>abd ((w.alloc d).alloc e) I vn M.nm N.nm (K.below (g d e)) (L.below (g d e)) an ao;obtain⟨aK,a7,rfl⟩:=K.form;obtain⟨a0,a8,rfl⟩:=L.form;obtain⟨a5,bb,a9,rfl⟩:=al;obtain⟨a6,bd,ba,rfl⟩:=ak;unfold jI By;generalize M.nm.length=ap at k⊢;generalize N.nm.length=ar at k⊢;by_cases f:M.op=N.op
 .by_cases h:M.n=N.n
  .by_cases i:M.x=N.x
   .have J:decide (M.op=N.op/\M.n=N.n/\M.x=N.x/\M.nm=N.nm)=decide (M.nm=N.nm):=by
     by_cases j:M.nm=N.nm
     .rw[be j,be ⟨f,h,i,j⟩]
     .rw[az j,az (λb=>j b.2.2.2)]
    rw[J];have H:=ahi i;generalize decide (M.nm=N.nm)=av at k⊢;obtain⟨m,l,t,p,s,q,u,r,o⟩:=M;obtain⟨y,v,F,A,E,B,G,C,z⟩:=N;simp only at f h H⊢;go_in;go_wp2_with (go_at_call 189;refine(k _ _).mono ?_;rintro J bf ⟨rfl,af⟩);go_ret;exact⟨rfl,(g _ _).trans (af.mono (by simp;omega))⟩
   .rw[az (λb=>i b.2.2.1)];have H:=Ld i;obtain⟨m,l,t,p,s,q,u,r,o⟩:=M;obtain⟨y,v,F,A,E,B,G,C,z⟩:=N;simp only at f h H⊢;go_in;go_wp2;go_ret;exact⟨rfl,g _ _⟩
  .rw[az (λb=>h b.2.1)];obtain⟨m,l,t,p,s,q,u,r,o⟩:=M;obtain⟨y,v,F,A,E,B,G,C,z⟩:=N;simp only at f h⊢;go_in;go_wp2;go_ret;exact⟨rfl,g _ _⟩
 .rw[az (λb=>f b.1)];obtain⟨m,l,t,p,s,q,u,r,o⟩:=M;obtain⟨y,v,F,A,E,B,G,C,z⟩:=N;simp only at f⊢;go_in;go_wp2;go_ret;exact⟨rfl,g _ _⟩
attribute [local go_sem] lG
