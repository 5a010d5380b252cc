import Derived.Test.YtnlhhmlcjbohbaaGreatDoorHNk17
set_option linter.all false
set_option maxRecDepth 100000
set_option maxHeartbeats 25600000
open Bool renaming false->M,true->O
open Option renaming some->Q,none->A0
open Go.RowKit renaming Hid->T,Below->X,intOf->A2
open Go.Proofs.Tryz renaming prog->U
open Go.Ending renaming returned->V
open Go.Value renaming int->Y,slice->Ax,agg->B0,bool->B3,int->B4
open Go.IntKind renaming i64->Z
open Go renaming Calls->A5,World->A9,Value->Br
open List renaming replicate->B1
namespace Go.Proofs.YtnlhhmlcjbohbaaGreatDoor
open Go.RowKit Go.Maps Go.WideMaps
variable{N:Nd}{W w:World}{b:Nat}{c n:Int}{ns:List Nd}{vk vn vt:Value}
def Cw:List Int:=[20,21,22,27,23,24,25,26,28,29,32,30,31,33,34,35,36,37,40,41,42]
theorem akL(a:NArg w vt ns N vn vk)(b:∀c∈Cw,N.k≠c):
  A5 U 157 #[B0 #[vt],jo N vn vk] w fun e f=>e= V (B3 M)/\X w.heap.size w f:=by
 obtain⟨g,j,rfl⟩:=a.t.form;obtain⟨h,l,rfl⟩:=a.n.form;obtain⟨i,m,rfl⟩:=a.k.form;have d:=St.start a;clear a;have o:∀c:Int,20<=c->c<=37->(N.k==c)=M:=fun c _ _=>beq_eq_false_iff_ne.2 (b c (by simp[Cw];omega));have p:∀c:Int,40<=c->c<=42->(N.k==c)=M:=fun c _ _=>beq_eq_false_iff_ne.2 (b c (by simp[Cw];omega));clear b;unfold jo;go_in;go_wp2;go_ret;exact⟨rfl,d.bel⟩
def enB(ns:List Nd)(N:Nd):Nat->Nat->Bool
 |0,_=>O
 |f+1,j=>decide (40<=gc ns N j/\gc ns N j<=42)&&enB ns N f (j+1)
structure an4 (ns:List Nd) (N:Nd) (f j:Nat) (R:Bool):Prop where
 out:enB ns N f j=R
theorem ahm(i:NArg w vt ns N vn vk)(E:N.k=35):
  A5 U 157 #[B0 #[vt],jo N vn vk] w fun e m=>e= V (B3 (enB ns N N.ks.length 0&&bC N M M M M))/\X w.heap.size w m:=by
 obtain⟨H,K,rfl⟩:=i.t.form;obtain⟨I,L,rfl⟩:=i.n.form;obtain⟨J,ad,rfl⟩:=i.k.form;have b:=St.start i;have a0:=i.l2;clear i;have a4:=kqf E;have a5:=kqs E;clear E;obtain⟨C,F⟩:=aA (enB ns N N.ks.length 0);rw[F];have ak:an4 ns N N.ks.length 0 C:=⟨F⟩;clear F;unfold jo;go_in;go_wp2_with fail;generalize (w.alloc (.cells #[Ax H ns.length K] 34)).alloc (.cells #[Y Z N.k,Y Z N.f,Y Z N.t,Y Z N.l,Y Z N.op,Y Z N.n,.string N.x,Ax I N.nm.length L,Ax J N.ks.length ad] 111)=ao at b⊢;go_loopw [6,7,200] (fun _ _ G wr=>∃(c:Nat),G= Y Z c/\c<=N.ks.length/\an4 ns N (N.ks.length-c) c C/\St w (Ax H ns.length K) ns N (Ax I N.nm.length L) (Ax J N.ks.length ad) wr) (fun _ _ G _=>N.ks.length-(A2 G).toNat)
 case atStart=>exact⟨0,rfl,by omega,ak,b⟩
 case round=>
  clear b;obtain⟨c,rfl,av,ag,b⟩:=hrel;obtain⟨o,p,q,r,s,u,v,y,z,A⟩:=ci b.bn;have B:=b.bt;have d:=ag.out;by_cases am:c<N.ks.length
  ·rw[show N.ks.length-c=(N.ks.length-(c+1))+1 by omega,enB]at d;have al:(c:Int)<(N.ks.length:Int):=by omega
   have j:=rq b.a c am;unfold jo at j;generalize gc ns N c=af at d j;by_cases ap:af<40
   ·rw[aD (by omega),eI]at d;have h:=aw d;clear d;go_wp2_with (go_at_call 194;refine j.mono ?_;rintro e m ⟨rfl,g⟩;replace b:=b.below g;clear g;obtain⟨o,p,q,r,s,u,v,y,z,A⟩:=ci b.bn;have B:=b.bt);go_ret;exact⟨by rw[<-h.out];rfl,b.bel⟩
   by_cases ar:42<af
   ·rw[aD (by omega),eI]at d;have h:=aw d;clear d;go_wp2_with (go_at_call 194;refine j.mono ?_;rintro e m ⟨rfl,g⟩;replace b:=b.below g;clear g;obtain⟨o,p,q,r,s,u,v,y,z,A⟩:=ci b.bn;have B:=b.bt);go_ret;exact⟨by rw[<-h.out];rfl,b.bel⟩
   rw[bv (by omega),fI]at d;have h:an4 ns N (N.ks.length-(c+1)) (c+1) C:=⟨d⟩;clear d;go_wp2_with (go_at_call 194;refine j.mono ?_;rintro e m ⟨rfl,g⟩;replace b:=b.below g;clear g;obtain⟨o,p,q,r,s,u,v,y,z,A⟩:=ci b.bn;have B:=b.bt);exact⟨⟨c+1,by go_num,by omega,h,b⟩,by simp[A2];omega⟩
  ·rw[show N.ks.length-c=0 by omega,enB]at d;have h:=aw d;have al:¬(c:Int)<(N.ks.length:Int):=by omega
   clear d;go_wp2_with (go_at_call 195;refine b.bare fun an b=>?_;obtain⟨o,p,q,r,s,u,v,y,z,A⟩:=ci b.bn;have B:=b.bt);go_ret;exact⟨by rw[<-h.out];rfl,b.bel⟩
def jB(ns:List Nd)(N:Nd):Bool:=
 if N.k=20 then(((N.ks.length:Int)==0)&&bC N M M M M)
 else if N.k=21 then(((N.ks.length:Int)==0)&&bC N M M M M)
 else if N.k=22 then(((N.ks.length:Int)==0)&&bC N M M M M)
 else if N.k=27 then(((N.ks.length:Int)==0)&&bC N M M M M)
 else if N.k=23 then(((N.ks.length:Int)==0)&&bC N M O M M)
 else if N.k=24 then(((N.ks.length:Int)==0)&&bC N M M O M&&fok N.x)
 else if N.k=25 then(((N.ks.length:Int)==0)&&bC N M M O M&&decide ((N.x.size:Int)<=4000))
 else if N.k=26 then(((N.ks.length:Int)==0)&&bC N M M O M&&mG N.x)
 else if N.k=28 then(((N.ks.length:Int)==2)&&lF ns N 2 0&&bC N M M M M)
 else if N.k=29 then(((N.ks.length:Int)==2)&&lF ns N 2 0&&bC N M M M M)
 else if N.k=32 then(((N.ks.length:Int)==2)&&lF ns N 2 0&&(gc ns N 0 !=27)&&bC N M M M M)
 else if N.k=30 then(((N.ks.length:Int)==1)&&lF ns N 1 0&&bC N O M M M&&decide ((19:Int)<=N.op)&&decide (N.op<=22))
 else if N.k=31 then(((N.ks.length:Int)==2)&&lF ns N 2 0&&bC N O M M M&&decide ((1:Int)<=N.op)&&decide (N.op<=18))
 else if N.k=33 then(((N.ks.length:Int)==1)&&lF ns N 1 0&&(gc ns N 0 !=27)&&bC N M M O M&&mG N.x)
 else if N.k=34 then(decide ((1:Int)<=(N.ks.length:Int))&&lF ns N N.ks.length 0&&(gc ns N 0 !=27)&&bC N M M M M)
 else if N.k=35 then(enB ns N N.ks.length 0&&bC N M M M M)
 else if N.k=36 then(((N.ks.length:Int)==1)&&(gc ns N 0==1)&&bC N O M M O&&fG N 0 200&&(N.op==0||N.op==1))
 else if N.k=37 then(((N.ks.length:Int)==1)&&(gc ns N 0==34||gc ns N 0==27)&&bC N M M M M)
 else if N.k=40 then(((N.ks.length:Int)==1)&&lF ns N 1 0&&bC N M M M M)
 else if N.k=41 then(((N.ks.length:Int)==2)&&lF ns N 2 0&&bC N M M M M)
 else if N.k=42 then(((N.ks.length:Int)==1)&&lF ns N 1 0&&bC N M M O M&&mG N.x)
 else M
theorem an5(h:NArg w vt ns N vn vk)(hK:N.k=20\/N.k=21\/N.k=22\/N.k=27\/N.k=23\/N.k=24\/N.k=25\/N.k=26\/N.k=28\/N.k=29\/N.k=41\/N.k=32\/N.k=30\/N.k=31\/N.k=33\/N.k=34\/N.k=40\/N.k=42\/N.k=36\/N.k=37):
  A5 U 157 #[B0 #[vt],jo N vn vk] w fun e B=>e= V (B3 (jB ns N))/\X w.heap.size w B:=by
 obtain⟨C,G,rfl⟩:=h.t.form;obtain⟨E,H,rfl⟩:=h.n.form;obtain⟨F,I,rfl⟩:=h.k.form;have a:=St.start h;have A:T (N.x.size<=1100000):=bg h.lx (by decide);clear h;rcases hK with hK|hK|hK|hK|hK|hK|hK|hK|hK|hK|hK|hK|hK|hK|hK|hK|hK|hK|hK|hK;all_goals
  unfold jB;simp only[hK,reduceIte,Int.reduceEq];have K:=kqf hK;have J:=kqs hK;first
  |(have b:N.k=20\/N.k=21\/N.k=22\/N.k=27:=by first|exact .inl hK|exact .inr (.inl hK)|exact .inr (.inr (.inl hK))|exact .inr (.inr (.inr (hK)))
    clear b hK;cases t0:((N.ks.length:Int)==0)
    case' true=>
     cases t1:bC N M M M M)
  |(have b:N.k=23:=hK
    clear b hK;cases t0:((N.ks.length:Int)==0)
    case' true=>
     cases t1:bC N M O M M)
  |(have b:N.k=24:=hK
    clear b hK;cases t0:((N.ks.length:Int)==0)
    case' true=>
     cases t1:bC N M M O M
     case' true=>
      cases t2:fok N.x)
  |(have b:N.k=25:=hK
    clear b hK;cases t0:((N.ks.length:Int)==0)
    case' true=>
     cases t1:bC N M M O M
     case' true=>
      cases t2:decide ((N.x.size:Int)<=4000))
  |(have b:N.k=26:=hK
    clear b hK;cases t0:((N.ks.length:Int)==0)
    case' true=>
     cases t1:bC N M M O M
     case' true=>
      cases t2:mG N.x)
  |(have b:N.k=28\/N.k=29\/N.k=41:=by first|exact .inl hK|exact .inr (.inl hK)|exact .inr (.inr (hK))
    clear b hK;cases t0:((N.ks.length:Int)==2)
    case' true=>
     have c:N.ks.length=2:=by have:=io t0;omega
     have d:T (2<=N.ks.length):=by show _<=_;omega
     have f:T (0<N.ks.length):=by show _<_;omega
     have y:T (1<N.ks.length):=by show _<_;omega
     clear c;cases t1:lF ns N 2 0
     case' true=>
      cases t2:bC N M M M M)
  |(have b:N.k=32:=hK
    clear b hK;cases t0:((N.ks.length:Int)==2)
    case' true=>
     have c:N.ks.length=2:=by have:=io t0;omega
     have d:T (2<=N.ks.length):=by show _<=_;omega
     have f:T (0<N.ks.length):=by show _<_;omega
     have y:T (1<N.ks.length):=by show _<_;omega
     clear c;cases t1:lF ns N 2 0
     case' true=>
      cases t2:(gc ns N 0 !=27)
      case' true=>
       cases t3:bC N M M M M)
  |(have b:N.k=30:=hK
    clear b hK;cases t0:((N.ks.length:Int)==1)
    case' true=>
     have c:N.ks.length=1:=by have:=io t0;omega
     have d:T (1<=N.ks.length):=by show _<=_;omega
     have f:T (0<N.ks.length):=by show _<_;omega
     clear c;cases t1:lF ns N 1 0
     case' true=>
      cases t2:bC N O M M M
      case' true=>
       cases t3:decide ((19:Int)<=N.op)
       case' true=>
        cases t4:decide (N.op<=22))
  |(have b:N.k=31:=hK
    clear b hK;cases t0:((N.ks.length:Int)==2)
    case' true=>
     have c:N.ks.length=2:=by have:=io t0;omega
     have d:T (2<=N.ks.length):=by show _<=_;omega
     have f:T (0<N.ks.length):=by show _<_;omega
     have y:T (1<N.ks.length):=by show _<_;omega
     clear c;cases t1:lF ns N 2 0
     case' true=>
      cases t2:bC N O M M M
      case' true=>
       cases t3:decide ((1:Int)<=N.op)
       case' true=>
        cases t4:decide (N.op<=18))
  |(have b:N.k=33:=hK
    clear b hK;cases t0:((N.ks.length:Int)==1)
    case' true=>
     have c:N.ks.length=1:=by have:=io t0;omega
     have d:T (1<=N.ks.length):=by show _<=_;omega
     have f:T (0<N.ks.length):=by show _<_;omega
     clear c;cases t1:lF ns N 1 0
     case' true=>
      cases t2:(gc ns N 0 !=27)
      case' true=>
       cases t3:bC N M M O M
       case' true=>
        cases t4:mG N.x)
  |(have b:N.k=34:=hK
    clear b hK;cases t0:decide ((1:Int)<=(N.ks.length:Int))
    case' true=>
     have f:T (0<N.ks.length):=by show _<_;have:=aG t0;omega
     cases t1:lF ns N N.ks.length 0
     case' true=>
      cases t2:(gc ns N 0 !=27)
      case' true=>
       cases t3:bC N M M M M)
  |(have b:N.k=40:=hK
    clear b hK;cases t0:((N.ks.length:Int)==1)
    case' true=>
     have c:N.ks.length=1:=by have:=io t0;omega
     have d:T (1<=N.ks.length):=by show _<=_;omega
     have f:T (0<N.ks.length):=by show _<_;omega
     clear c;cases t1:lF ns N 1 0
     case' true=>
      cases t2:bC N M M M M)
  |(have b:N.k=42:=hK
    clear b hK;cases t0:((N.ks.length:Int)==1)
    case' true=>
     have c:N.ks.length=1:=by have:=io t0;omega
     have d:T (1<=N.ks.length):=by show _<=_;omega
     have f:T (0<N.ks.length):=by show _<_;omega
     clear c;cases t1:lF ns N 1 0
     case' true=>
      cases t2:bC N M M O M
      case' true=>
       cases t3:mG N.x)
  |(have b:N.k=36:=hK
    clear b hK;cases t0:((N.ks.length:Int)==1)
    case' true=>
     have c:N.ks.length=1:=by have:=io t0;omega
     have d:T (1<=N.ks.length):=by show _<=_;omega
     have f:T (0<N.ks.length):=by show _<_;omega
     clear c;cases t1:(gc ns N 0==1)
     case' true=>
      cases t2:bC N O M M O
      case' true=>
       cases t3:fG N 0 200
       case' true=>
        cases u4:(N.op==0)
        case' false=>cases v4:(N.op==1))
  |(have b:N.k=37:=hK
    clear b hK;cases t0:((N.ks.length:Int)==1)
    case' true=>
     have c:N.ks.length=1:=by have:=io t0;omega
     have d:T (1<=N.ks.length):=by show _<=_;omega
     have f:T (0<N.ks.length):=by show _<_;omega
     clear c;cases u1:(gc ns N 0==34)
     case' false=>cases v1:(gc ns N 0==27)
     all_goals
      cases t2:bC N M M M M)
 all_goals
  unfold jo;go_in;go_wp2_with (first|(go_at_call 195;with_reducible refine a.bare fun g a=>?_;obtain⟨i,j,l,m,o,p,q,r,s,u⟩:=ci a.bn;have v:=a.bt)|(go_at_call 196;with_reducible refine a.named fun g a=>?_;obtain⟨i,j,l,m,o,p,q,r,s,u⟩:=ci a.bn;have v:=a.bt)|(go_at_call 197;(first|with_reducible refine a.ex1 d.out fun g a=>?_|with_reducible refine a.ex2 d.out fun g a=>?_|with_reducible refine a.exL fun g a=>?_);obtain⟨i,j,l,m,o,p,q,r,s,u⟩:=ci a.bn;have v:=a.bt)|(go_at_call 194;(first|with_reducible refine a.kid0 f.out fun g a=>?_|with_reducible refine a.kid1 y.out fun g a=>?_);obtain⟨i,j,l,m,o,p,q,r,s,u⟩:=ci a.bn;have v:=a.bt)|(go_at_call 63;refine cJ (tA _ A.out _) fun g z=>?_;replace a:=a.below z;obtain⟨i,j,l,m,o,p,q,r,s,u⟩:=ci a.bn;have v:=a.bt)|(go_at_call 64;refine cJ (A7 _ A.out _) fun g z=>?_;replace a:=a.below z;obtain⟨i,j,l,m,o,p,q,r,s,u⟩:=ci a.bn;have v:=a.bt));go_ret;exact⟨rfl,a.bel⟩
theorem ahn(a:NArg w vt ns N vn vk)(b:2<N.ks.length):
  A5 U 194 #[B0 #[vt],B0 #[Y Z N.k,Y Z N.f,Y Z N.t,Y Z N.l,Y Z N.op,Y Z N.n,.string N.x,vn,vk],Y Z 2] w fun e c=>e= V (Y Z (gc ns N 2))/\X w.heap.size w c:=rq a 2 b
theorem ak0(d:NArg w vt ns N vn vk)(g:N.k=7):
  A5 U 156 #[B0 #[vt],jo N vn vk] w fun e f=>e= V (B3 (bC N M M M M&&(decide (2<=N.ks.length/\N.ks.length<=3)&&(lF ns N 1 0&&(!(gc ns N 1 !=1)&&((N.ks.length:Int)==2||(gc ns N 2==1||gc ns N 2==7)))))))/\X w.heap.size w f:=by
 obtain⟨A,E,rfl⟩:=d.t.form;obtain⟨B,F,rfl⟩:=d.n.form;obtain⟨C,G,rfl⟩:=d.k.form;have b:=St.start d;have J:=d.l2;clear d;have K:=kqf g;have L:=kqt g 7 rfl;clear g;unfold jo;cases t0:bC N M M M M
 case' true=>
  by_cases H:(N.ks.length:Int)<2
  case' pos=>rw[aD (by omega)]
  case' neg=>
   by_cases I:(3:Int)<(N.ks.length:Int)
   case' pos=>rw[aD (by omega)]
   case' neg=>
    rw[bv (by omega)];have v:T (1<=N.ks.length):=by show _<=_;omega
    have x:T (1<N.ks.length):=by show _<_;omega
    cases t1:lF ns N 1 0
    case' true=>
     cases t2:(gc ns N 1 !=1)
     case' false=>
      cases t3:((N.ks.length:Int)==2)
      case' false=>
       have y:T (2<N.ks.length):=by show _<_;have:=ne_of_beq_false t3;omega
       cases t4:(gc ns N 2==1)
       case' false=>cases t5:(gc ns N 2==7)
 all_goals
  go_in;go_wp2_with (first|(go_at_call 195;refine b.bare fun z b=>?_;obtain⟨h,i,j,l,m,o,p,q,r,s⟩:=ci b.bn;have u:=b.bt)|(go_at_call 197;refine(lK _ _ ns N _ _ 0 1 b.a.t b.a.n b.a.k b.a.ok v.out b.a.ln b.a.l2).mono ?_;rintro e f ⟨rfl,c⟩;replace b:=b.below c;clear c;obtain⟨h,i,j,l,m,o,p,q,r,s⟩:=ci b.bn;have u:=b.bt)|(go_at_call 194;with_reducible refine(agF b.a x.out).mono ?_;rintro e f ⟨rfl,c⟩;replace b:=b.below c;clear c;obtain⟨h,i,j,l,m,o,p,q,r,s⟩:=ci b.bn;have u:=b.bt)|(go_at_call 194;with_reducible refine(ahn b.a y.out).mono ?_;rintro e f ⟨rfl,c⟩;replace b:=b.below c;clear c;obtain⟨h,i,j,l,m,o,p,q,r,s⟩:=ci b.bn;have u:=b.bt));go_ret;exact⟨rfl,b.bel⟩
def tgB(ns:List Nd)(N:Nd):Nat->Nat->Bool
 |0,_=>O
 |f+1,j=>Bm (gc ns N j)&&tgB ns N f (j+1)
structure an6 (ns:List Nd) (N:Nd) (f j:Nat) (R:Bool):Prop where
 out:tgB ns N f j=R
theorem ak1(h:NArg w vt ns N vn vk)(E:N.k=5):
  A5 U 156 #[B0 #[vt],jo N vn vk] w fun e A=>e= V (B3 (bC N M O M M&&(decide (1<=N.n/\N.n<(N.ks.length:Int))&&(tgB ns N N.n.toNat 0&&lF ns N (N.ks.length-N.n.toNat) N.n.toNat))))/\X w.heap.size w A:=by
 obtain⟨ag,an,rfl⟩:=h.t.form;obtain⟨ak,ao,rfl⟩:=h.n.form;obtain⟨al,ap,rfl⟩:=h.k.form;have b:=St.start h;have a5:=h.l2;clear h;have a8:=kqf E;have a9:=kqt E 5 rfl;clear E;unfold jo;cases t0:bC N M O M M with
 |false=>
  go_in;go_wp2_with (first|(go_at_call 195;refine b.bare fun C b=>?_;obtain⟨i,j,l,m,o,p,q,r,s,u⟩:=ci b.bn;have v:=b.bt));go_ret;exact⟨rfl,b.bel⟩
 |true=>
  by_cases av:N.n<1
  ·rw[aD (by omega)];go_in;go_wp2_with (first|(go_at_call 195;refine b.bare fun C b=>?_;obtain⟨i,j,l,m,o,p,q,r,s,u⟩:=ci b.bn;have v:=b.bt));go_ret;exact⟨rfl,b.bel⟩
  by_cases a0:(N.ks.length:Int)<=N.n
  ·rw[aD (by omega)];go_in;go_wp2_with (first|(go_at_call 195;refine b.bare fun C b=>?_;obtain⟨i,j,l,m,o,p,q,r,s,u⟩:=ci b.bn;have v:=b.bt));go_ret;exact⟨rfl,b.bel⟩
  rw[bv (by omega)];obtain⟨d,J⟩:∃d:Nat,N.n=(d:Int):=⟨N.n.toNat,by omega⟩;have K:N.n.toNat=d:=by omega
  rw[K];have a7:d<N.ks.length:=by omega
  have ad:=aw J;obtain⟨B,F⟩:=aA (tgB ns N d 0);rw[F];have af:an6 ns N d 0 B:=⟨F⟩;clear F J K;go_in;go_wp2_with (first|(go_at_call 195;refine b.bare fun C b=>?_;obtain⟨i,j,l,m,o,p,q,r,s,u⟩:=ci b.bn;have v:=b.bt));go_loopw [7] (fun I wr=>∃(c:Nat),I= Y Z c/\c<=d/\an6 ns N (d-c) c B/\St w (Ax ag ns.length an) ns N (Ax ak N.nm.length ao) (Ax al N.ks.length ap) wr) (fun I _=>d-(A2 I).toNat)
  case atStart=>exact⟨0,rfl,by omega,af,b⟩
  case round=>
   clear b;obtain⟨c,rfl,a4,L,b⟩:=hrel;obtain⟨bb,bd,be,bf,bh,bj,bk,bl,bo,br⟩:=ci b.bn;have bs:=b.bt;have f:=L.out;have G:=ad.out;by_cases a6:c<d
   ·rw[show d-c=(d-(c+1))+1 by omega,tgB]at f;have ar:(c:Int)<N.n:=by omega
    have z:=rq b.a c (by omega);unfold jo at z;have y:=fun w=>If (gc ns N c) w;clear G;generalize gc ns N c=am at f z y;cases hx:Bm am with
    |false=>
     rw[hx,eI]at f;rw[hx]at y;have x:=aw f;clear f hx;go_wp2_with (first|(go_at_call 194;refine z.mono ?_;rintro e A ⟨rfl,g⟩;replace b:=b.below g;clear g;obtain⟨i,j,l,m,o,p,q,r,s,u⟩:=ci b.bn;have v:=b.bt)|(go_at_call 198;refine eH (y _) ?_));go_ret;exact⟨by rw[<-x.out];rfl,b.bel⟩
    |true=>
     rw[hx,fI]at f;rw[hx]at y;have x:an6 ns N (d-(c+1)) (c+1) B:=⟨f⟩;clear f hx;go_wp2_with (first|(go_at_call 194;refine z.mono ?_;rintro e A ⟨rfl,g⟩;replace b:=b.below g;clear g;obtain⟨i,j,l,m,o,p,q,r,s,u⟩:=ci b.bn;have v:=b.bt)|(go_at_call 198;refine eH (y _) ?_));exact⟨⟨c+1,by go_num,by omega,x,b⟩,by simp[A2];omega⟩
   ·rw[show d-c=0 by omega,tgB]at f;have x:=aw f;have ar:¬(c:Int)<N.n:=by omega
    have H:=lK _ _ ns N _ _ d N.ks.length b.a.t b.a.n b.a.k b.a.ok (ae _) b.a.ln b.a.l2;unfold jo at H;rw[<-G]at H;clear f G;go_wp2_with (go_at_call 197;refine H.mono ?_;rintro e A ⟨rfl,g⟩;replace b:=b.below g;clear g;obtain⟨i,j,l,m,o,p,q,r,s,u⟩:=ci b.bn;have v:=b.bt);go_ret;exact⟨by rw[<-x.out];rfl,b.bel⟩
def stB(ns:List Nd)(N:Nd):Bool:=
 if N.k=1 then(sbB ns N N.ks.length 0&&bC N M M M M)
 else if N.k=2 then(bC N M M M O&&fG N 1 200&&lF ns N N.ks.length 0)
 else if N.k=3 then(bC N M M M O&&fG N 1 1&&((N.ks.length:Int)==1)&&lF ns N 1 0)
 else if N.k=4 then(bC N M M M O&&fG N 1 1&&((N.ks.length:Int)==1)&&(gc ns N 0==36))
 else if N.k=5 then(bC N M O M M&&(decide (1<=N.n/\N.n<(N.ks.length:Int))&&(tgB ns N N.n.toNat 0&&lF ns N (N.ks.length-N.n.toNat) N.n.toNat)))
 else if N.k=6 then(bC N M M M M&&((N.ks.length:Int)==1)&&(gc ns N 0==34))
 else if N.k=7 then(bC N M M M M&&(decide (2<=N.ks.length/\N.ks.length<=3)&&(lF ns N 1 0&&(!(gc ns N 1 !=1)&&((N.ks.length:Int)==2||(gc ns N 2==1||gc ns N 2==7))))))
 else if N.k=8 then(bC N M M M M&&((N.ks.length:Int)==2)&&lF ns N 1 0&&(gc ns N 1==1))
 else if N.k=9 then(bC N M M M O&&(fG N 1 1&&(((N.ks.length:Int)==3||(N.ks.length:Int)==4)&&(lF ns N (N.ks.length-1) 0&&(gc ns N (N.ks.length-1)==1)))))
 else if N.k=10 then(bC N M M M O&&fG N 1 200&&((N.ks.length:Int)==2)&&lF ns N 1 0&&(gc ns N 1==1))
 else if N.k=11 then(bC N M M M M&&((N.ks.length:Int)==0))
 else if N.k=12 then(bC N M M M M&&((N.ks.length:Int)==0))
 else if N.k=13 then(bC N M M M M&&lF ns N N.ks.length 0)
 else if N.k=14 then(bC N M M M O&&fG N 1 2&&((N.ks.length:Int)==2)&&(gc ns N 0==1)&&(gc ns N 1==1))
 else if N.k=15 then(bC N M M M M&&((N.ks.length:Int)==1)&&lF ns N 1 0)
 else if N.k=16 then(bC N M M M M&&((N.ks.length:Int)==1)&&(gc ns N 0==34))
 else M
theorem an7(g:NArg w vt ns N vn vk)(hK:N.k=3\/N.k=8\/N.k=11\/N.k=12\/N.k=2\/N.k=4\/N.k=6\/N.k=16\/N.k=10\/N.k=13\/N.k=14\/N.k=15):
  A5 U 156 #[B0 #[vt],jo N vn vk] w fun e z=>e= V (B3 (stB ns N))/\X w.heap.size w z:=by
 obtain⟨B,F,rfl⟩:=g.t.form;obtain⟨C,G,rfl⟩:=g.n.form;obtain⟨E,H,rfl⟩:=g.k.form;have a:=St.start g;have A:T (N.x.size<=1100000):=bg g.lx (by decide);clear g;rcases hK with hK|hK|hK|hK|hK|hK|hK|hK|hK|hK|hK|hK;all_goals
  unfold stB;simp only[hK,reduceIte,Int.reduceEq];have J:=kqf hK;have I:=kqs hK;first
  |(have b:N.k=3:=hK
    clear b hK;cases t0:bC N M M M O
    case' true=>
     cases t1:fG N 1 1
     case' true=>
      cases t2:((N.ks.length:Int)==1)
      case' true=>
       have c:N.ks.length=1:=by have:=io t2;omega
       have d:T (1<=N.ks.length):=by show _<=_;omega
       have f:T (0<N.ks.length):=by show _<_;omega
       clear c;cases t3:lF ns N 1 0)
  |(have b:N.k=8:=hK
    clear b hK;cases t0:bC N M M M M
    case' true=>
     cases t1:((N.ks.length:Int)==2)
     case' true=>
      have c:N.ks.length=2:=by have:=io t1;omega
      have d:T (1<=N.ks.length):=by show _<=_;omega
      have f:T (0<N.ks.length):=by show _<_;omega
      have i:T (1<N.ks.length):=by show _<_;omega
      clear c;cases t2:lF ns N 1 0
      case' true=>
       cases t3:(gc ns N 1==1))
  |(have b:N.k=11\/N.k=12:=by first|exact .inl hK|exact .inr (hK)
    clear b hK;cases t0:bC N M M M M
    case' true=>
     cases t1:((N.ks.length:Int)==0))
  |(have b:N.k=2:=hK
    clear b hK;cases t0:bC N M M M O
    case' true=>
     cases t1:fG N 1 200
     case' true=>
      cases t2:lF ns N N.ks.length 0)
  |(have b:N.k=4:=hK
    clear b hK;cases t0:bC N M M M O
    case' true=>
     cases t1:fG N 1 1
     case' true=>
      cases t2:((N.ks.length:Int)==1)
      case' true=>
       have c:N.ks.length=1:=by have:=io t2;omega
       have d:T (1<=N.ks.length):=by show _<=_;omega
       have f:T (0<N.ks.length):=by show _<_;omega
       clear c;cases t3:(gc ns N 0==36))
  |(have b:N.k=6\/N.k=16:=by first|exact .inl hK|exact .inr (hK)
    clear b hK;cases t0:bC N M M M M
    case' true=>
     cases t1:((N.ks.length:Int)==1)
     case' true=>
      have c:N.ks.length=1:=by have:=io t1;omega
      have d:T (1<=N.ks.length):=by show _<=_;omega
      have f:T (0<N.ks.length):=by show _<_;omega
      clear c;cases t2:(gc ns N 0==34))
  |(have b:N.k=10:=hK
    clear b hK;cases t0:bC N M M M O
    case' true=>
     cases t1:fG N 1 200
     case' true=>
      cases t2:((N.ks.length:Int)==2)
      case' true=>
       have c:N.ks.length=2:=by have:=io t2;omega
       have d:T (1<=N.ks.length):=by show _<=_;omega
       have f:T (0<N.ks.length):=by show _<_;omega
       have i:T (1<N.ks.length):=by show _<_;omega
       clear c;cases t3:lF ns N 1 0
       case' true=>
        cases t4:(gc ns N 1==1))
  |(have b:N.k=13:=hK
    clear b hK;cases t0:bC N M M M M
    case' true=>
     cases t1:lF ns N N.ks.length 0)
  |(have b:N.k=14:=hK
    clear b hK;cases t0:bC N M M M O
    case' true=>
     cases t1:fG N 1 2
     case' true=>
      cases t2:((N.ks.length:Int)==2)
      case' true=>
       have c:N.ks.length=2:=by have:=io t2;omega
       have d:T (1<=N.ks.length):=by show _<=_;omega
       have f:T (0<N.ks.length):=by show _<_;omega
       have i:T (1<N.ks.length):=by show _<_;omega
       clear c;cases t3:(gc ns N 0==1)
       case' true=>
        cases t4:(gc ns N 1==1))
  |(have b:N.k=15:=hK
    clear b hK;cases t0:bC N M M M M
    case' true=>
     cases t1:((N.ks.length:Int)==1)
     case' true=>
      have c:N.ks.length=1:=by have:=io t1;omega
      have d:T (1<=N.ks.length):=by show _<=_;omega
      have f:T (0<N.ks.length):=by show _<_;omega
      clear c;cases t2:lF ns N 1 0)
 all_goals
  unfold jo;go_in;go_wp2_with (first|(go_at_call 195;with_reducible refine a.bare fun h a=>?_;obtain⟨j,l,m,o,p,q,r,s,u,v⟩:=ci a.bn;have y:=a.bt)|(go_at_call 196;with_reducible refine a.named fun h a=>?_;obtain⟨j,l,m,o,p,q,r,s,u,v⟩:=ci a.bn;have y:=a.bt)|(go_at_call 197;(first|with_reducible refine a.ex1 d.out fun h a=>?_|with_reducible refine a.ex2 d.out fun h a=>?_|with_reducible refine a.exL fun h a=>?_);obtain⟨j,l,m,o,p,q,r,s,u,v⟩:=ci a.bn;have y:=a.bt)|(go_at_call 194;(first|with_reducible refine a.kid0 f.out fun h a=>?_|with_reducible refine a.kid1 i.out fun h a=>?_);obtain⟨j,l,m,o,p,q,r,s,u,v⟩:=ci a.bn;have y:=a.bt));go_ret;exact⟨rfl,a.bel⟩
section
variable {w : World} {vt : Value} {ns : List Nd} {N : Nd} {vn vk : Value} (A : NArg w vt ns N vn vk)
include A
theorem BF(h:jJ N.k=O):A5 U 156 #[B0 #[vt],jo N vn vk] w fun e a=>e= V (B3 (stB ns N))/\X w.heap.size w a:=by
 have b:=aG h;rcases(show(N.k=3\/N.k=8\/N.k=11\/N.k=12\/N.k=2\/N.k=4\/N.k=6\/N.k=16\/N.k=10\/N.k=13\/N.k=14\/N.k=15)\/N.k=1\/N.k=5\/N.k=7\/N.k=9 by omega) with hK|hK|hK|hK|hK
 ·exact an7 A hK
 all_goals
  unfold stB;simp only[hK,reduceIte,Int.reduceEq];first|exact akr A hK|exact ak1 A hK|exact ak0 A hK|exact akt A hK
theorem AE:A5 U 157 #[B0 #[vt],jo N vn vk] w fun e d=>e= V (B3 (jB ns N))/\X w.heap.size w d:=by
 by_cases b:N.k=20\/N.k=21\/N.k=22\/N.k=27\/N.k=23\/N.k=24\/N.k=25\/N.k=26\/N.k=28\/N.k=29\/N.k=41\/N.k=32\/N.k=30\/N.k=31\/N.k=33\/N.k=34\/N.k=40\/N.k=42\/N.k=36\/N.k=37
 ·exact an5 A b
 by_cases a:N.k=35
 ·unfold jB;simp only[a,reduceIte,Int.reduceEq];exact ahm A a
 rw[show jB ns N=M by unfold jB;repeat rw[aa (by omega)]];refine akL A fun f c=>?_;simp only[Cw,pd,ta,tm]at c;omega
end
def Jc(l:List Int)(i:Int):Nat->Nat->Bool
 |0,_=>O
 |f+1,j=>decide (0<=l.getD j 0/\l.getD j 0<i)&&Jc l i f (j+1)
structure an8 (l:List Int) (i:Int) (f j:Nat) (R:Bool):Prop where
 out:Jc l i f j=R
theorem zo(l:List Int)(i:Int):∀(f j:Nat),Jc l i f j=O->∀k,j<=k->k<j+f->0<=l.getD k 0/\l.getD k 0<i
 |0,j,_,k,a,b=>by omega
 |f+1,j,h,k,a,b=>by
  rw[Jc,cd]at h;rcases jj a with rfl|h3
  ·exact aG h.1
  ·exact zo l i f (j+1) h.2 k h3 (by omega)
theorem an9{i:Nat}(h:Jc N.ks i N.ks.length 0=O)(d:i<=ns.length):Av ns N:=by
 refine⟨fun e b=>?_⟩;obtain⟨c,a,rfl⟩:=il b;have:=zo N.ks i N.ks.length 0 h c (by omega) (by omega);rw[aK,aE a]at this;simp only[gj]at this;omega
def abc(N:Nd):Bool:=decide (0<=N.f/\N.f<=N.t/\0<=N.l/\N.ks.length<=200)
def pG(ns:List Nd)(N:Nd):Bool:=if jJ N.k=O then stB ns N else jB ns N
def jf(ns:List Nd)(i:Nat)(N:Nd):Bool:=abc N&&(Jc N.ks i N.ks.length 0&&pG ns N)
structure jC (N:Nd):Prop where
 l1:N.nm.length<=1048576
 l2:N.ks.length<=1048576
 lx:N.x.size<=1048576
 ls:∀s∈N.nm,s.size<=1048576
theorem Iu(w:A9)(am:Br)(ns:List Nd)(i:Nat)(N:Nd)(p:gw w am ns)(be:ns.length<=1048576)(o:ns[i]?=Q N)(hS:jC N):
  A5 U 108 #[B0 #[am],Y Z i] w fun e bh=>e= V (B3 (jf ns i N))/\X w.heap.size w bh:=by
 obtain⟨bk,K,rfl⟩:=p.form;obtain⟨al,rfl,b0,bE,a8⟩:=p.get o;have bb:i<ns.length:=by rcases aH i ns.length with h|h;exact h;rw[gE h]at o;cases o
 have bs:(i:Int)<(ns.length:Int):=by omega
 have br:(0:Int)<=(i:Int):=by omega
 obtain⟨af,ap,ar,av,a0,a4,a5,a6,a7,A,z⟩:=a8;obtain⟨I,L,rfl⟩:=A.form;obtain⟨J,ad,rfl⟩:=z.form;have bA:=Cj af;have m:=aw hS;have n:=iF p A z;have bx:=hS.l2;clear p A z hS o;unfold jf;by_cases u:N.f<0\/N.t<N.f\/N.l<0\/(200:Int)<(N.ks.length:Int)
 ·rw[show abc N=M from aD (by omega)];go_in;go_wp2;all_goals (go_ret;exact⟨rfl,(GI rfl).2.2.1⟩)
 rw[show abc N=O from bv (by omega)];simp only[not_or]at u;obtain⟨u,bl,bn,bo⟩:=u;obtain⟨H,hS⟩:=aA (pG ns N);rw[hS];have G:=aw hS;clear hS;obtain⟨r,v⟩:=aA (Jc N.ks i N.ks.length 0);rw[v];have F:an8 N.ks i N.ks.length 0 r:=⟨v⟩;clear v;go_in;go_wp2_with fail;generalize ag:(w.alloc _).alloc _=s;obtain⟨ak,y,c, -⟩:=GI ag;replace ak:s.cell? ⟨w.heap.size,0,A0⟩=Q (Ax (Q al) ns.length K):=(au _ _ _ _ _ _ ak).trans rfl;replace y:qJ (w.heap.size+1) s 111 N (Ax I N.nm.length L) (Ax J N.ks.length ad):=y;clear ag;clear af ap ar av a0 a4 a5 a6 a7;go_loop [7,37] (fun _ E=>∃a:Nat,E= Y Z a/\a<=N.ks.length/\an8 N.ks i (N.ks.length-a) a r) (fun _ E=>N.ks.length-(A2 E).toNat)
 case atStart=>exact⟨0,rfl,by omega,F⟩
 case round=>
  obtain⟨a,rfl,bt,ao⟩:=hrel;have b:=ao.out;by_cases bf:a<N.ks.length
  ·have C:N.ks[a]?=Q N.ks[a]:=aE bf;obtain⟨bD,rfl,a9⟩:=(n.2.2.below c).get C;rw[show N.ks.length-a=(N.ks.length-(a+1))+1 by omega,Jc,aK,C,gj]at b;have bd:(a:Int)<(N.ks.length:Int):=by omega
   have bw:(0:Int)<=(a:Int):=by omega
   generalize N.ks[a]=an at b a9;clear C;by_cases z0:an<0
   ·rw[aD (by omega),eI]at b;have d:=aw b;clear b;go_wp2_with fail;go_ret;exact⟨by rw[<-d.out];rfl,c⟩
   by_cases cb:(i:Int)<=an
   ·rw[aD (by omega),eI]at b;have d:=aw b;clear b;go_wp2_with fail;go_ret;exact⟨by rw[<-d.out];rfl,c⟩
   rw[bv (by omega),fI]at b;have d:an8 N.ks i (N.ks.length-(a+1)) (a+1) r:=⟨b⟩;clear b;go_wp2_with fail;go_round
   case rel=>exact⟨a+1,by go_num,by omega,d⟩
   case measure=>simp[A2];omega
  ·rw[show N.ks.length-a=0 by omega,Jc]at b;have d:=aw b;have bd:¬(a:Int)<(N.ks.length:Int):=by omega
   have B:Av ns N:=an9 (by rw[F.out,<-d.out]) (eE bb);have j:NArg s (Ax (Q al) ns.length K) ns N (Ax I N.nm.length L) (Ax J N.ks.length ad):=⟨n.1.below c,n.2.1.below c,n.2.2.below c,B,be,m.l1,m.l2,m.lx,m.ls⟩;obtain⟨b1,b2,b3,b4,b5,b6,b7,b8,b9,ca⟩:=ci y;have q:=fun w=>Dx N.k w;clear b;cases hx:jJ N.k with
   |true=>
    have g:=BF j hx;rw[hx]at q;rw[show stB ns N=H by rw[<-G.out];unfold pG;rw[ab hx]]at g;unfold jo at g;clear hx j B;go_wp2_with (first|(go_at_call 155;refine eH (q _) ?_)|(go_at_call 156;refine g.mono ?_;rintro e bj ⟨rfl,x⟩));go_ret;exact⟨by rw[<-d.out];rfl,c.trans (x.mono c.size)⟩
   |false=>
    have g:=AE j;rw[hx]at q;rw[show jB ns N=H by rw[<-G.out];unfold pG;rw[aa (by rw[hx];simp)]]at g;unfold jo at g;clear hx j B;go_wp2_with (first|(go_at_call 155;refine eH (q _) ?_)|(go_at_call 157;refine g.mono ?_;rintro e bj ⟨rfl,x⟩));go_ret;exact⟨by rw[<-d.out];rfl,c.trans (x.mono c.size)⟩
def ir(p:Nat->Bool):Nat->Nat->Option Nat
 |0,_=>A0
 |f+1,j=>if p j=O then Q j else ir p f (j+1)
structure xK (p:Nat->Bool) (f j:Nat) (R:Option Nat):Prop where
 out:ir p f j=R
def dpK(i:Nat):List Int->List Int->List Int
 |[],D=>D
 |k::r,D=>dpK i r (D.set k.toNat (D.getD i 0+1))
def dpN(ns:List Nd):Nat->List Int->List Int
 |0,D=>D
 |m+1,D=>dpN ns m (dpK m (ns.getD m zNd).ks D)
def Ix(ns:List Nd):List Int:=dpN ns ns.length (B1 ns.length 0)
def jD(ns:List Nd):Bool:=decide (ns.length=0\/3000<ns.length\/(ns.getD (ns.length-1) zNd).k≠1)
def fE(ns:List Nd)(i:Nat):Bool:=!(jf ns i (ns.getD i zNd))
def gu(S:List Int)(i:Nat):Bool:=S.getD i 0==0
def iL(D:List Int)(i:Nat):Bool:=decide (100<D.getD i 0)
def tf4:Option Nat->Int×Int
 |some i=>(4,(i:Int))
 |none=>(0,0)
def tf3(S D:List Int)(n:Nat):Option Nat->Int×Int
 |some i=>(3,(i:Int))
 |none=>if S.getD (n-1) 0≠(n:Int) then(3,(n:Int)-1) else tf4 (ir (iL D) n 0)
def tf2(S D:List Int)(n:Nat):Option Nat->Int×Int
 |some i=>(2,(i:Int))
 |none=>tf3 S D n (ir (gu S) n 0)
def dL(ns:List Nd):Int×Int:=if jD ns=O then(1,0) else tf2 (iD ns) (Ix ns) ns.length (ir (fE ns) ns.length 0)
def aeC(n:Nat)(D:List Int):Prop:=D.length=n/\∀(a:Nat) z,D[a]?=Q z->0<=z/\z<=(n:Int)-1-a
theorem aeC.set{n:Nat}{D:List Int}(h:aeC n D)(i q:Nat)(g:i<n)(j:q<i):aeC n (D.set q (D.getD i 0+1)):=by
 obtain⟨e,b⟩:=h;refine⟨by simp[e],fun d f a=>?_⟩;by_cases c:q=d
 ·subst c;rw[List.getElem?_set_self (by omega)]at a;obtain rfl:=bu a;rw[aK,aE (by omega)];have:=b i D[i] (aE (by omega));simp;omega
 ·rw[List.getElem?_set_ne c]at a;exact b d f a
theorem qo{p:Nat->Bool}:∀{f j:Nat},ir p f j=A0->∀k,j<=k->k<j+f->p k=M
 |0,j,_,k,a,b=>by omega
 |f+1,j,h,k,a,b=>by
  rw[ir]at h;split at h
  ·cases h
  ·rename_i c;rcases jj a with rfl|g
   ·simpa using c
   ·exact qo h k g (by omega)
def lh(b:Nat)(W:A9)(c n:Int):Prop:=W.heap[b]?=Q (.cells #[Y Z c,Y Z n] 75 (0,0))
theorem jq(h:lh b W c n):W.cell? ⟨b,0,A0⟩=Q (Y Z c)/\W.cell? ⟨b,1,A0⟩=Q (Y Z n)/\∀j,W.frozen? ⟨b,j,A0⟩=M:=by
 unfold lh at h;exact⟨by rw[au _ _ _ _ _ _ h];rfl,by rw[au _ _ _ _ _ _ h];rfl,fun j=>bI _ _ _ _ _ h⟩
theorem qp(h:lh b W c n)(a n2:Int):lh b ((W.setCell ⟨b,0,A0⟩ (Y Z a)).setCell ⟨b,1,A0⟩ (Y Z n2)) a n2:=aL _ b 1 _ _ _ (aL _ b 0 _ _ _ h)
theorem lh.below{a:A9}(h:lh b W c n)(d:X W.heap.size W a):lh b a c n:=(d.block _ (ai h)).trans h
theorem KL(w:A9)(v:Br)(ns:List Nd)(h:gw w v ns)(u:ns.length<=1048576)(o:jD ns=O):
  A5 U 70 #[.agg #[v]] w fun e E=>e= .returned (.agg #[.int .i64 1,.int .i64 0])/\X w.heap.size w E:=by
 obtain⟨F,G,rfl⟩:=h.form;have i:∀b c,X w.heap.size w ((w.alloc b).alloc c):=fun b c=>((ah _ w).alloc (ae _) b).alloc (by simp) c;have r:∀b (f:Array Br) (j:TypeId),((w.alloc b).alloc (.cells f j)).heap[w.heap.size+1]?=Q (.cells f j (0,0)):=fun b f j=>by
  have:=ay (w.alloc b) (.cells f j);rw[dr]at this;exact this
 have p:=aG o;by_cases d:ns.length=0
 ·rw[d];go_in;go_wp2;exact aI (gi rfl _ _ (w.heap.size+1) _ _ _ _ rfl (r _ _ _) Tryz.underlying75 rfl (by kernel_rfl)) rfl ⟨rfl,i _ _⟩
 by_cases g:3000<ns.length
 ·have A:(3000:Int)<(ns.length:Int):=by omega
  have z:¬(ns.length:Int)=0:=by omega
  generalize ns.length=s at z A u⊢;clear h o p d g;go_in;go_wp2;exact aI (gi rfl _ _ (w.heap.size+1) _ _ _ _ rfl (r _ _ _) Tryz.underlying75 rfl (by kernel_rfl)) rfl ⟨rfl,i _ _⟩
 ·have B:(ns.getD (ns.length-1) zNd).k≠1:=by rcases p with e|e|e;exact absurd e d;exact absurd e g;exact e
  have q:ns.length-1<ns.length:=by omega
  obtain⟨l,n⟩:∃l,ns[ns.length-1]?=Q l:=⟨_,aE q⟩;rw[aK,n,gj]at B;obtain⟨y,rfl,am,al,t⟩:=h.get n;have m:=t.c0;obtain⟨s,x⟩:=aA ns.length;rw[x]at m d g u q⊢;obtain⟨a,C⟩:∃a:Nat,s=a+1:=⟨s-1,by omega⟩;subst C;rw[oL]at m;have J:((a+1:Nat):Int)-1=(a:Int):=by omega
  have ad:¬((a+1:Nat):Int)=0:=by omega
  have af:¬(3000:Int)<((a+1:Nat):Int):=by omega
  have ag:(a:Int)<((a+1:Nat):Int):=by omega
  have L:(0:Int)<=(a:Int):=by omega
  have H:(((a:Int)+1)==0)=M:=by rw[bH];omega
  have I:decide ((3000:Int)<(a:Int)+1)=M:=aD (by omega);have ak:(a:Int)<(a:Int)+1:=by omega
  have K:∀b c,((w.alloc b).alloc c).cell? (y.add (a*9))=Q (.int .i64 l.k):=fun b c=>aj (i b c) m;clear h o p d g n t x q;go_in;go_wp2;exact aI (gi rfl _ _ (w.heap.size+1) _ _ _ _ rfl (r _ _ _) Tryz.underlying75 rfl (by kernel_rfl)) rfl ⟨rfl,i _ _⟩
structure La (w:A9) (v:Br) (W:A9):Prop where
 tb:W.heap[w.heap.size]?=Q (.cells #[v] 34 (0,0))
 fb:lh (w.heap.size+1) W 0 0
 bl:X w.heap.size w W
theorem La.below{v:Br}{b:A9}(h:La w v W)(a:X W.heap.size W b):La w v b:=
 ⟨(a.block _ (ai h.tb)).trans h.tb,h.fb.below a,h.bl.trans (a.mono h.bl.size)⟩
structure aoa (w:A9) (v:Br) (gd n:Nat) (ns:List Nd) (t:Nat) (D:List Int) (W:A9):Prop where
 tk:La w v W
 row:W.ownsRow w.heap.size 3 1 (.slice (Q ⟨gd,0,A0⟩) n n) n (D.map (B4 .i64))
 ok:aeC n D
 rest:dpN ns t D=Ix ns
structure aob (w:A9) (v:Br) (gd n t:Nat) (ks D:List Int) (j:Nat) (E:List Int) (W:A9):Prop where
 tk:La w v W
 row:W.ownsRow w.heap.size 3 1 (.slice (Q ⟨gd,0,A0⟩) n n) n (E.map (B4 .i64))
 ok:aeC n E
 rest:dpK t (ks.drop j) E=dpK t ks D
theorem du{v:Br}{t:TypeId}(h:W.heap[b]?=Q (.cells #[v] t (0,0))):W.cell? ⟨b,0,A0⟩=Q v:=by
 rw[au _ _ _ _ _ _ h];rfl
theorem Lb(w:A9)(v:Br)(ns:List Nd)(h:gw w v ns)(es:ns.length<=1048576)(df:∀N∈ns,jC N)(b4:jD ns=M):
  A5 U 70 #[.agg #[v]] w fun e fk=>e= .returned (.agg #[.int .i64 (dL ns).1,.int .i64 (dL ns).2])/\X w.heap.size w fk:=by
 obtain⟨fo,y,rfl⟩:=h.form;have bk:=jg b4;have H:=iF h df b4;have cx:¬ns.length=0:=fun e=>bk (.inl e);have ec:¬3000<ns.length:=fun e=>bk (.inr (.inl e));have b0:(ns.getD (ns.length-1) zNd).k=1:=by
  by_cases a6:(ns.getD (ns.length-1) zNd).k=1
  ·exact a6
  ·exact absurd (.inr (.inr a6)) bk
 obtain⟨N,E⟩:∃N,ns[ns.length-1]?=Q N:=⟨_,aE (by omega)⟩;rw[aK,E,gj]at b0;obtain⟨s,rfl,gt,gr,c2⟩:=h.get E;have a5:=c2.c0;rw[b0]at a5;have eh:∀an A,X w.heap.size w ((w.alloc an).alloc A):=fun an A=>((ah _ w).alloc (ae _) an).alloc (by simp) A;obtain⟨am,b9⟩:=aA ns.length;obtain⟨B,hF⟩:=aA (dL ns);have o:=dC b9 hF;rw[hF];rw[b9]at H a5 cx ec⊢;obtain⟨a,e0⟩:∃a:Nat,am=a+1:=⟨am-1,by omega⟩;have da:am-1=a:=by omega
 rw[da]at a5;have dd:(0:Int)<=(a:Int):=by omega
 have fa:¬(am:Int)=0:=by omega
 have fc:¬(3000:Int)<(am:Int):=by omega
 have fd:(a:Int)<(am:Int):=by omega
 have fg:(am:Int)-1=(a:Int):=by omega
 have fv:(((a:Int)+1)==0)=M:=by rw[bH];omega
 have fz:decide ((3000:Int)<(a:Int)+1)=M:=aD (by omega);have gp:(a:Int)<(a:Int)+1:=by omega
 have ei:∀an A,((w.alloc an).alloc A).cell? (s.add (a*9))=Q (.int .i64 1):=fun an A=>aj (eh an A) a5;clear h b4 bk cx b0 E c2 b9 es df hF da a5 fa fc fd fg;subst e0;go_in;go_wp2_with fail;generalize cF:(w.alloc _).alloc _=d4;obtain⟨cw,cl,ch, -⟩:=GI cF;have dg:La w (.slice (Q s) (a+1) y) d4:=⟨cw,cl,ch⟩;clear cF;obtain⟨bA,b2⟩:=aA (ir (fE ns) (a+1) 0);have bw:=aw b2;have cn:xK (fE ns) (a+1-0) 0 bA:=⟨b2⟩;clear b2 cw cl ch ei;go_loopw [39] (fun j wr=>∃b:Nat,b<=a+1/\j= .int .i64 b/\xK (fE ns) (a+1-b) b bA/\La w (.slice (Q s) (a+1) y) wr) (fun j _=>a+1-(A2 j).toNat)
 case atStart=>exact⟨0,aF _,rfl,cn,dg⟩
 case round=>
  obtain⟨b,c6,rfl,m,x⟩:=hrel;clear dg cn;have c:=m.out;by_cases ew:b<a+1
  ·obtain⟨be,a7⟩:=co o.1 ew;have c9:(b:Int)<(a:Int)+1:=by omega
   have c7:(0:Int)<=(b:Int):=by omega
   have bs:=Iu wr (.slice (Q s) (a+1) y) ns b be (H.1.below x.bl) (by rw[o.out.1];omega) a7 (H.2.1 be (cG a7));have ar:=du x.tb;obtain⟨ad,af,ag⟩:=jq x.fb;rw[show a+1-b=(a+1-(b+1))+1 by omega,ir]at c;have z:fE ns b=!(jf ns b be):=by unfold fE;rw[aK,a7];rfl
   rw[z]at c;have bd:=aw x;cases hx:jf ns b be with
   |true=>
    rw[hx]at bs c;rw[aa (by decide)]at c;have a9:xK (fE ns) (a+1-(b+1)) (b+1) bA:=⟨c⟩;clear c hx z a7 x m ad af ag;go_wp2_with (go_at_call 108;refine bs.mono ?_;rintro e J ⟨rfl,al⟩);exact⟨⟨b+1,by omega,by go_num,a9,bd.below al⟩,by simp[A2];omega⟩
   |false=>
    rw[hx]at bs c;rw[ab (by decide)]at c;have G:T (B=(2,(b:Int))):=by
     show B=(2,(b:Int));rw[<-o.out.2];unfold dL;rw[H.out.2.2,aa (by decide),o.out.1,bw.out,<-c];rfl
    clear c hx z a7 x m ad af ag;go_wp2_with fail;refine bs.mono ?_;rintro e J ⟨rfl,al⟩;have g:=bd.below al;obtain⟨ad,af,ag⟩:=jq g.fb;have p:=aw g;clear g al;go_wp2_with fail;have g:=p.out;exact aI (gi rfl _ _ (w.heap.size+1) _ _ _ _ rfl (qp g.fb 2 b) Tryz.underlying75 rfl (by kernel_rfl)) rfl ⟨by rw[G.out],(g.bl.setCell (by simp) _).setCell (by simp) _⟩
  ·obtain rfl:b=a+1:=by omega
   rw[eD,ir]at c;have dx:=aw c.symm;have cI:=qo (show ir (fE ns) (a+1) 0=A0 by rw[bw.out];exact c.symm);have a3:∀(F:Nat) N,ns[F]?=Q N->∀i∈N.ks,0<=i/\i<(F:Int):=fun F N E i d=>by
    have bo:F<a+1:=by rw[<-o.out.1];exact(List.getElem?_eq_some_iff.1 E).1
    have I:=cI F (aF _) (by omega);unfold fE at I;rw[aK,E,gj]at I;have b1:jf ns F N=O:=by simpa using I
    unfold jf at b1;have ee:Jc N.ks F N.ks.length 0=O:=by
     rw[cd,cd]at b1;exact b1.2.1
    obtain⟨n,cc,rfl⟩:=il d;have:=zo N.ks F N.ks.length 0 ee n (by omega) (by omega);rw[aK,aE cc]at this;simpa using this
   have ce:=Ky wr (.slice (Q s) (a+1) y) ns (H.1.below x.bl) (by rw[o.out.1];omega) (fun N E=>(H.2.1 N E).l2) a3;rw[o.out.1]at ce;have cr:=aw a3;have ar:=du x.tb;have bd:=aw x;have e5:=x.bl.size;have gm:w.heap.size+1<wr.heap.size:=ai x.fb;clear c cI a3 x m;go_wp2_with fail;refine ce.mono ?_;rintro e J ⟨a6,rfl,ca,al⟩;have g:=bd.below al;obtain⟨q,hS⟩:=aA (iD ns);have cB:q.length=a+1:=by rw[<-hS,jA,o.out.1]
   rw[hS]at ca;have cs:T (iD ns=q/\q.length=a+1/\Dy q):=⟨hS,cB,by rw[<-hS];exact Aw ns (fun N E i d=>by
    obtain⟨F,bo,e⟩:=il E;exact(cr F N (by rw[aE bo,e]) i d).1)⟩
   have p:=dC g ca;obtain⟨bf,bj⟩:=aA (ir (gu q) (a+1) 0);have fn:=aw bj;have a9:xK (gu q) (a+1-0) 0 bf:=⟨bj⟩;have bx:T (dL ns=tf3 q (Ix ns) (a+1) bf):=by
    show dL ns=_;unfold dL;rw[H.out.2.2,aa (by decide),o.out.1,bw.out,dx.out,hS];show tf3 q (Ix ns) (a+1) (ir (gu q) (a+1) 0)=_;rw[bj]
   clear hS cB bj g ca al ce ar;go_wp2_with fail;go_loop [53] (fun j=>∃b:Nat,b<=a+1/\j= .int .i64 b/\xK (gu q) (a+1-b) b bf) (fun j=>a+1-(A2 j).toNat)
   case atStart=>exact⟨0,aF _,rfl,a9⟩
   case round=>
    obtain⟨b,f5,rfl,m⟩:=hrel;clear a9;have c:=m.out;by_cases ex:b<a+1
    ·have c9:(b:Int)<(a:Int)+1:=by omega
     have c7:(0:Int)<=(b:Int):=by omega
     obtain⟨i,d⟩:=co cs.2.1 ex;have bE:J.cell? ⟨a6,b,A0⟩=Q (.int .i64 i):=by rw[p.out.2.cellAt b (by omega),bK,d];rfl
     rw[show a+1-b=(a+1-(b+1))+1 by omega,ir]at c;have z:gu q b=(i==0):=by unfold gu;rw[aK,d];rfl
     rw[z]at c;by_cases br:i=0
     ·subst br;rw[ab (by decide)]at c;have G:T (B=(3,(b:Int))):=by
       show B=(3,(b:Int));rw[<-o.out.2,bx.out,<-c];rfl
      obtain⟨ad,af,ag⟩:=jq p.1.fb;clear c z d m;go_wp2_with fail;have g:=p.1;exact aI (gi rfl _ _ (w.heap.size+1) _ _ _ _ rfl (qp g.fb 3 b) Tryz.underlying75 rfl (by kernel_rfl)) rfl ⟨by rw[G.out],(g.bl.setCell (by simp) _).setCell (by simp) _⟩
     ·rw[aa (by simpa using br)]at c;have bt:xK (gu q) (a+1-(b+1)) (b+1) bf:=⟨c⟩;clear c z d m;go_wp2_with fail;go_round
      case rel=>exact⟨b+1,by omega,by go_num,bt⟩
      case measure=>simp[A2];omega
    ·obtain rfl:b=a+1:=by omega
     rw[eD,ir]at c;have d0:=aw c.symm;obtain⟨i,d⟩:=co cs.2.1 (show a<a+1 by omega);have bE:J.cell? ⟨a6,a,A0⟩=Q (.int .i64 i):=by rw[p.out.2.cellAt a (by omega),bK,d];rfl
     have a0:q.getD a 0=i:=by rw[aK,d];rfl
     have t:=bx.out;rw[d0.out,tf3,oL,a0]at t;by_cases e9:i=(a:Int)+1
     ·rw[aa (by omega)]at t;have d3:=aw t;subst e9;have ar:=du p.1.tb;clear c t d a0 m;obtain⟨dd,bo,br,e7,e8⟩:=dD tr;have e3:=p.1.bl.size;go_wp2_with (at_make;refine yr _ rfl _ _ 24 rfl w.heap.size 3 dd (.int .i64 0) 1 Tryz.underlying24 bo br e7 .i64 .i64 _ _ (a+1) rfl rfl rfl rfl (by rw[e8];omega) (by unfold maxLen;omega) e3 ?_;intro dn cb a1;have b5:X J.heap.size J dn:=⟨a1.os,a1.tape,a1.output,a1.size,fun b c6=>a1.block b c6 (by simp)⟩;have d6:=aj b5 ar);rw[show(madeCells (B4 .i64 0).cells ((a+1)*1)).toList=B1 (a+1) (B4 .i64 0) by rw[ti];exact ym _ _]at cb;have cg:aoa w (.slice (Q s) (a+1) y) J.heap.size (a+1) ns (a+1) (B1 (a+1) 0) dn:=by
       refine⟨p.1.below b5,?_,⟨by simp,fun u i d=>?_⟩,?_⟩
       ·rw[List.map_replicate];exact cb
       ·rw[Cb]at d;split at d
        ·obtain rfl:=bu d;omega
        ·cases d
       ·unfold Ix;rw[o.out.1]
      have e4:w.heap.size+1<J.heap.size:=ai p.1.fb;clear cb a1 b5 d6 ar bE;obtain⟨r,a0⟩:=aA J.heap.size;rw[a0]at cg e4⊢;have cu:=aw cg;clear cg a0 p bx;go_loopw [8] (fun j wr=>∃(f:Nat) (D:List Int),f<=a+1/\j= .int .i64 ((f:Int)-1)/\T (aoa w (.slice (Q s) (a+1) y) r (a+1) ns f D wr)) (fun j _=>(A2 j+1).toNat)
      case atStart=>exact⟨a+1,_,ae _,by congr 1;omega,cu⟩
      case round=>
       obtain⟨f,D,gb,rfl,l⟩:=hrel;clear cu;cases f with
       |zero=>
        have f7:¬(0:Int)<=((0:Nat):Int)-1:=by omega
        have cy:D=Ix ns:=l.rest;have ao:=iF l.tk l.row l.ok.1;have t:=d3.out;rw[<-cy]at t;obtain⟨bD,b3⟩:=aA (ir (iL D) (a+1) 0);rw[b3,o.out.2]at t;have cv:=aw t;have cp:xK (iL D) (a+1-0) 0 bD:=⟨b3⟩;clear t b3 cy l;go_wp2_with fail;go_loop [110] (fun j=>∃b:Nat,b<=a+1/\j= .int .i64 b/\xK (iL D) (a+1-b) b bD) (fun j=>a+1-(A2 j).toNat)
        case atStart=>exact⟨0,aF _,rfl,cp⟩
        case round=>
         obtain⟨b,f6,rfl,m⟩:=hrel;clear cp;have c:=m.out;by_cases eF:b<a+1
         ·have c9:(b:Int)<(a:Int)+1:=by omega
          have c7:(0:Int)<=(b:Int):=by omega
          obtain⟨i,d⟩:=co ao.2.2 eF;have bE:wr.cell? ⟨r,b,A0⟩=Q (.int .i64 i):=by rw[ao.out.2.1.cellAt b (by omega),bK,d];rfl
          rw[show a+1-b=(a+1-(b+1))+1 by omega,ir]at c;have z:iL D b=decide (100<i):=by unfold iL;rw[aK,d];rfl
          rw[z]at c;by_cases dc:100<i
          ·rw[ab (bv dc)]at c;have G:T (B=(4,(b:Int))):=by
            show B=(4,(b:Int));rw[cv.out,<-c];rfl
           obtain⟨ad,af,ag⟩:=jq ao.1.fb;clear c z d m;go_wp2_with fail;have g:=ao.1;exact aI (gi rfl _ _ (w.heap.size+1) _ _ _ _ rfl (qp g.fb 4 b) Tryz.underlying75 rfl (by kernel_rfl)) rfl ⟨by rw[G.out],(g.bl.setCell (by simp) _).setCell (by simp) _⟩
          ·rw[aa (by simpa using dc)]at c;have bt:xK (iL D) (a+1-(b+1)) (b+1) bD:=⟨c⟩;clear c z d m;go_wp2_with fail;go_round
           case rel=>exact⟨b+1,by omega,by go_num,bt⟩
           case measure=>simp[A2];omega
         ·obtain rfl:b=a+1:=by omega
          rw[eD,ir]at c;have G:T (B=(0,0)):=by
           show B=(0,0);rw[cv.out,<-c];rfl
          obtain⟨ad,af,ag⟩:=jq ao.1.fb;clear c m;go_wp2_with fail;have g:=ao.1;exact aI (gi rfl _ _ (w.heap.size+1) _ _ _ _ rfl (qp g.fb 0 0) Tryz.underlying75 rfl (by kernel_rfl)) rfl ⟨by rw[G.out],(g.bl.setCell (by simp) _).setCell (by simp) _⟩
       |succ f=>
        have d9:(((f+1:Nat)):Int)-1=(f:Int):=by omega
        rw[d9];have gf:(f:Int)<(a:Int)+1:=by omega
        have ge:(0:Int)<=(f:Int):=by omega
        obtain⟨C,av⟩:=co o.1 (show f<a+1 by omega);obtain⟨fp,ef,gv,gs,b6⟩:=H.1.get av;obtain rfl:=bu ef;have d7:=aj l.tk.bl b6.c8;have a3:=cr.out f C av;have b8:=b6.hk;obtain⟨d5,d8,rfl⟩:=b8.form;obtain⟨ap,bh⟩:=aA C.ks.length;have ev:=(H.2.1 C (cG av)).l2;rw[bh]at d7 ev;have eq:l.rest=l.rest:=rfl;have a8:dpN ns f (dpK f C.ks D)=Ix ns:=by
         have:=l.rest;rw[dpN,aK,av,gj]at this;exact this
        have bb:=CB bh a3 a8 av;have ar:=du l.tk.tb;have ds:T (dm w (.slice d5 ap d8) C.ks):=by rw[<-bh];exact b8
        have cm:T (aob w (.slice (Q s) (a+1) y) r (a+1) f C.ks D 0 D wr):=⟨l.tk,l.row,l.ok,rfl⟩;have e5:=l.tk.bl.size;clear a3 b8 a8 b6 av bh l eq;go_wp2_with fail;go_loopw [95] (fun j fm=>∃(u:Nat) (L:List Int),u<=ap/\j= .int .i64 u/\T (aob w (.slice (Q s) (a+1) y) r (a+1) f C.ks D u L fm)) (fun j _=>ap-(A2 j).toNat)
        case atStart=>exact⟨0,D,aF _,rfl,cm⟩
        case round=>
         obtain⟨u,L,f2,rfl,k⟩:=hrel;clear cm;by_cases en:u<ap
         ·have f4:(u:Int)<(ap:Int):=by omega
          have f3:(0:Int)<=(u:Int):=by omega
          obtain⟨i,d⟩:=co bb.1 en;obtain⟨fr,eg,fF⟩:=(ds.below k.tk.bl).get d;subst eg;obtain⟨e6,gn⟩:=bb.2.1 i (cG d);obtain⟨n,rfl⟩:=gl e6;have cc:n<f:=by omega
          obtain⟨K,bn⟩:=co k.ok.1 (show f<a+1 by omega);obtain⟨ea,c3⟩:=co k.ok.1 (show n<a+1 by omega);have fB:=k.ok.2 f K bn;have a4:=k.row;have fu:wr.cell? ⟨r,f,A0⟩=Q (.int .i64 K):=by rw[a4.cellAt f (by omega),bK,bn];rfl
          have fs:wr.cell? ⟨r,n,A0⟩=Q (.int .i64 ea):=by rw[a4.cellAt n (by omega),bK,c3];rfl
          have fA:=a4.frozenAt n;have el:=(a4.lt r rfl).1;have b7:L.getD f 0=K:=by rw[aK,bn];rfl
          have A:=(a4.stored n (.int .i64 (K+1))).1;rw[<-List.map_set]at A;have cf:=k.ok.set f n (by omega) cc;rw[b7]at cf;have a8:dpK f (C.ks.drop (u+1)) (L.set n (K+1))=dpK f C.ks D:=by
           have I:=k.rest;have c5:=(List.getElem?_eq_some_iff.1 d);rw[iH c5.1,c5.2,dpK,b7]at I;exact I
          have e2:r≠w.heap.size:=by omega
          have e1:r≠w.heap.size+1:=by omega
          have dk:La w (.slice (Q s) (a+1) y) (wr.setCell ⟨r,n,A0⟩ (.int .i64 (K+1))):=
           ⟨(aC _ _ _ _ (dz e2)).trans k.tk.tb,(aC _ _ _ _ (dz e1)).trans k.tk.fb,k.tk.bl.setCell el _⟩
          have dq:T (aob w (.slice (Q s) (a+1) y) r (a+1) f C.ks D (u+1) (L.set n (K+1)) (wr.setCell ⟨r,n,A0⟩ (.int .i64 (K+1)))):=⟨dk,A,cf,a8⟩;have f9:(n:Int)<(a:Int)+1:=by omega
          have f8:(0:Int)<=(n:Int):=by omega
          clear d k A cf a8 dk a4 bn c3 b7;go_wp2_with fail;exact⟨⟨u+1,_,by omega,by go_num,dq⟩,by simp[A2];omega⟩
         ·obtain rfl:u=ap:=by omega
          have ek:T (aoa w (.slice (Q s) (a+1) y) r (a+1) ns f L wr):=by
           refine⟨k.tk,k.row,k.ok,?_⟩;have I:=k.rest;rw[ju (by rw[bb.out.1];exact ae _),dpK]at I;rw[I];exact bb.2.2.1
          clear k;go_wp2_with fail;exact⟨⟨f,L,by omega,rfl,ek⟩,by simp[A2]⟩
     ·rw[ab (by omega)]at t;have G:T (B=(3,(a:Int))):=by
       show B=(3,(a:Int));rw[<-o.out.2,t]
       congr 1
       omega
      obtain⟨ad,af,ag⟩:=jq p.1.fb;clear c t d a0 m;go_wp2_with fail;have g:=p.1;exact aI (gi rfl _ _ (w.heap.size+1) _ _ _ _ rfl (qp g.fb 3 a) Tryz.underlying75 rfl (by kernel_rfl)) rfl ⟨by rw[G.out],(g.bl.setCell (by simp) _).setCell (by simp) _⟩
theorem abd(w:A9)(v:Br)(ns:List Nd)(h:gw w v ns)(a:ns.length<=1048576)(b:∀N∈ns,jC N):
  A5 U 70 #[B0 #[v]] w fun e c=>e= V (B0 #[Y Z (dL ns).1,Y Z (dL ns).2])/\X w.heap.size w c:=by
 cases hb:jD ns with
 |true=>
  have e:dL ns=(1,0):=by unfold dL;rw[ab hb]
  rw[e];exact KL w v ns h a hb
 |false=>exact Lb w v ns h a b hb
theorem aoc(k:Int):ez k=0\/ez k=1\/ez k=2\/ez k=3\/ez k=4\/ez k=5\/ez k=6:=by
 unfold ez
 repeat' split
 all_goals simp
theorem F9(w:A9)(b:Nat)(N:Nd)(vn y:Br)(z:Int)(u:∃a n c,vn= .slice a n c)(h:gy w b N vn z y):
  A5 U 59 #[fl N.k b] w fun e d=>e= .returned (jo (ny N (ez N.k)) (uo vn (ez N.k)) (.slice A0 0 0))/\X w.heap.size w d:=by
 obtain⟨A,I,B,rfl⟩:=u;unfold gy at h;unfold fl;have H:=fun w=>ame b w;have C:=fun w=>asT b w;have E:=fun w=>asF b w;have x:=fun w=>fx b w;have F:=ai h;have G:b<w.heap.size+1:=by omega
 have s:∀g i,X w.heap.size w ((w.alloc g).alloc i).drew:=fun g i=>dJ (((ah _ w).alloc (ae _) g).alloc (by simp) i);have c:=fun v=>au w b v _ _ _ h;have j:=c 0;have m:=c 1;have o:=c 2;have p:=c 3;have q:=c 6;have r:=c 7;clear c h;unfold jo;rcases aoc N.k with hc|hc|hc|hc|hc|hc|hc;all_goals
  simp only[hc,exT,pv,ny,uo,eC,ep]at j m o p q r⊢;simp at j m o p q r;go_in;go_wp2_with (go_at_call 285;refine eH (x _) ?_);all_goals
   go_region_held3 (fun d=>d.cell? ⟨b,0,A0⟩=Q (.int .i64 N.k)/\d.cell? ⟨b,1,A0⟩=Q (.int .i64 N.f)/\d.cell? ⟨b,2,A0⟩=Q (.int .i64 N.t)/\d.cell? ⟨b,3,A0⟩=Q (.int .i64 N.l)) (go_keep) (fail)
   go_wp2_with fail;all_goals exact aI (gi rfl _ _ w.heap.size _ _ _ _ rfl ((cC _ _ _ (by simp)).trans (ay w _)) Tryz.underlying111 rfl (by kernel_rfl)) rfl ⟨by simp[*],s _ _⟩
structure aod (ns:List Nd):Prop where
 len:1<=ns.length/\ns.length<=3000
 kid:∀(i:Nat) N,ns[i]?=Q N->∀z∈N.ks,0<=z/\z<(i:Int)
 kn:∀N∈ns,N.ks.length<=200
theorem zq(h:(dL ns).1=0):aod ns:=by
 unfold dL at h;by_cases i:jD ns=O
 ·rw[ab i]at h;exact absurd h (by decide)
 rw[aa i]at h;have q:jD ns=M:=by simpa using i
 have k:=jg q;obtain⟨e,j⟩:∃e,ir (fE ns) ns.length 0=e:=⟨_,rfl⟩;rw[j]at h;cases e with
 |some a=>rw[tf2]at h;exact absurd h (by simp)
 |none=>
  have p:=qo j;have m:∀(a:Nat) b,ns[a]?=Q b->jf ns a b=O:=fun a b d=>by
   have l:a<ns.length:=(List.getElem?_eq_some_iff.1 d).1;have f:=p a (aF _) (by omega);unfold fE at f;rw[aK,d,gj]at f;simpa using f
  refine⟨⟨?_,?_⟩,fun a b d u s=>?_,fun b d=>?_⟩
  ·rcases qI ns.length with g|g
   ·exact absurd (.inl g) k
   ·exact g
  ·rcases aH 3000 ns.length with g|g
   ·exact absurd (.inr (.inl g)) k
   ·exact g
  ·have c:=m a b d;unfold jf at c;have o:Jc b.ks a b.ks.length 0=O:=by
    rw[cd,cd]at c;exact c.2.1
   obtain⟨t,r,rfl⟩:=il s;have:=zo b.ks a b.ks.length 0 o t (by omega) (by omega);rw[aK,aE r]at this;simpa using this
  ·obtain⟨a,l,n⟩:=il d;have c:=m a b (by rw[aE l,n]);unfold jf abc at c;rw[cd]at c;exact(aG c.1).2.2.2
