import Derived.Test.YtjeamjdieofoeaaGreatDoorHZk10
import Derived.Test.YtjeamjdieofoeaaGreatDoorHZk16
set_option linter.all false
set_option maxRecDepth 100000
set_option maxHeartbeats 25600000
open Bool renaming false->M,true->S
open Go.Value renaming int->O,slice->U,bool->Z,agg->Ax,string->A0
open Go.IntKind renaming i64->Q
open Go.Proofs.Tryz renaming prog->T
open Go.Ending renaming returned->V
open Go.RowKit renaming Hid->W,Below->X,intOf->A2
open Go renaming Calls->Y
namespace Go.Proofs.YtjeamjdieofoeaaGreatDoor
open Go.RowKit Go.Maps Go.WideMaps
variable{N:Nd}{ns:List Nd}{vk vn vt:Value}{w:World}
def Bo:List Int:=[20,21,22,27,23,24,25,26,28,29,32,30,31,33,34,35,36,37,40,41,42]
theorem ajj(a:NArg w vt ns N vn vk)(b:∀c∈Bo,N.k≠c):
  Y T 97 #[Ax #[vt],jf N vn vk] w fun e w'=>e= V (Z M)/\X w.heap.size w w':=by
 obtain⟨f,i,rfl⟩:=a.t.form;obtain⟨g,j,rfl⟩:=a.n.form;obtain⟨h,l,rfl⟩:=a.k.form;have d:=St.start a;clear a;have m:∀c:Int,20<=c->c<=37->(N.k==c)=M:=fun c _ _=>beq_eq_false_iff_ne.2 (b c (by simp[Bo];omega));have o:∀c:Int,40<=c->c<=42->(N.k==c)=M:=fun c _ _=>beq_eq_false_iff_ne.2 (b c (by simp[Bo];omega));clear b;unfold jf;go_in;go_wp2;go_ret;exact⟨rfl,d.bel⟩
def enB(a:List Nd)(N:Nd):Nat->Nat->Bool
 |0,_=>S
 |f+1,j=>decide (40<=fh a N j/\fh a N j<=42)&&enB a N f (j+1)
structure aly (ns:List Nd) (N:Nd) (f j:Nat) (R:Bool):Prop where
 out:enB ns N f j=R
theorem aga(i:NArg w vt ns N vn vk)(C:N.k=35):
  Y T 97 #[Ax #[vt],jf N vn vk] w fun e w'=>e= V (Z (enB ns N N.ks.length 0&&bC N M M M M))/\X w.heap.size w w':=by
 obtain⟨G,J,rfl⟩:=i.t.form;obtain⟨H,K,rfl⟩:=i.n.form;obtain⟨I,L,rfl⟩:=i.k.form;have b:=St.start i;have a0:=i.l2;clear i;have a4:=kqf C;have a5:=kqs C;clear C;obtain⟨B,E⟩:=az (enB ns N N.ks.length 0);rw[E];have ak:aly ns N N.ks.length 0 B:=⟨E⟩;clear E;unfold jf;go_in;go_wp2_with fail;generalize (w.alloc (.cells #[U G ns.length J] 26)).alloc (.cells #[O Q N.k,O Q N.f,O Q N.t,O Q N.l,O Q N.op,O Q N.n,A0 N.x,U H N.nm.length K,U I N.ks.length L] 45)=ao at b⊢;go_loopw [6,7,200] (fun _ _ F wr=>∃(c:Nat),F= O Q c/\c<=N.ks.length/\aly ns N (N.ks.length-c) c B/\St w (U G ns.length J) ns N (U H N.nm.length K) (U I N.ks.length L) wr) (fun _ _ F _=>N.ks.length-(A2 F).toNat)
 case atStart=>exact⟨0,rfl,by omega,ak,b⟩
 case round=>
  clear b;obtain⟨c,rfl,av,af,b⟩:=hrel;obtain⟨m,o,p,q,r,s,u,v,y,z⟩:=cd b.bn;have A:=b.bt;have d:=af.out;by_cases am:c<N.ks.length
  ·rw[show N.ks.length-c=(N.ks.length-(c+1))+1 by omega,enB]at d;have al:(c:Int)<(N.ks.length:Int):=by omega
   have j:=qj b.a c am;unfold jf at j;generalize fh ns N c=ad at d j;by_cases ap:ad<40
   ·rw[aC (by omega),eo]at d;have h:=aq d;clear d;go_wp2_with (go_at_call 169;refine j.mono ?_;rintro e w' ⟨rfl,g⟩;replace b:=b.below g;clear g;obtain⟨m,o,p,q,r,s,u,v,y,z⟩:=cd b.bn;have A:=b.bt);go_ret;exact⟨by rw[<-h.out];rfl,b.bel⟩
   by_cases ar:42<ad
   ·rw[aC (by omega),eo]at d;have h:=aq d;clear d;go_wp2_with (go_at_call 169;refine j.mono ?_;rintro e w' ⟨rfl,g⟩;replace b:=b.below g;clear g;obtain⟨m,o,p,q,r,s,u,v,y,z⟩:=cd b.bn;have A:=b.bt);go_ret;exact⟨by rw[<-h.out];rfl,b.bel⟩
   rw[bH (by omega),eI]at d;have h:aly ns N (N.ks.length-(c+1)) (c+1) B:=⟨d⟩;clear d;go_wp2_with (go_at_call 169;refine j.mono ?_;rintro e w' ⟨rfl,g⟩;replace b:=b.below g;clear g;obtain⟨m,o,p,q,r,s,u,v,y,z⟩:=cd b.bn;have A:=b.bt);exact⟨⟨c+1,by go_num,by omega,h,b⟩,by simp[A2];omega⟩
  ·rw[show N.ks.length-c=0 by omega,enB]at d;have h:=aq d;have al:¬(c:Int)<(N.ks.length:Int):=by omega
   clear d;go_wp2_with (go_at_call 170;refine b.bare fun an b=>?_;obtain⟨m,o,p,q,r,s,u,v,y,z⟩:=cd b.bn;have A:=b.bt);go_ret;exact⟨by rw[<-h.out];rfl,b.bel⟩
def jA(a:List Nd)(N:Nd):Bool:=
 if N.k=20 then(((N.ks.length:Int)==0)&&bC N M M M M)
 else if N.k=21 then(((N.ks.length:Int)==0)&&bC N M M M M)
 else if N.k=22 then(((N.ks.length:Int)==0)&&bC N M M M M)
 else if N.k=27 then(((N.ks.length:Int)==0)&&bC N M M M M)
 else if N.k=23 then(((N.ks.length:Int)==0)&&bC N M S M M)
 else if N.k=24 then(((N.ks.length:Int)==0)&&bC N M M S M&&fok N.x)
 else if N.k=25 then(((N.ks.length:Int)==0)&&bC N M M S M&&decide ((N.x.size:Int)<=4000))
 else if N.k=26 then(((N.ks.length:Int)==0)&&bC N M M S M&&oL N.x)
 else if N.k=28 then(((N.ks.length:Int)==2)&&lg a N 2 0&&bC N M M M M)
 else if N.k=29 then(((N.ks.length:Int)==2)&&lg a N 2 0&&bC N M M M M)
 else if N.k=32 then(((N.ks.length:Int)==2)&&lg a N 2 0&&(fh a N 0 !=27)&&bC N M M M M)
 else if N.k=30 then(((N.ks.length:Int)==1)&&lg a N 1 0&&bC N S M M M&&decide ((19:Int)<=N.op)&&decide (N.op<=22))
 else if N.k=31 then(((N.ks.length:Int)==2)&&lg a N 2 0&&bC N S M M M&&decide ((1:Int)<=N.op)&&decide (N.op<=18))
 else if N.k=33 then(((N.ks.length:Int)==1)&&lg a N 1 0&&(fh a N 0 !=27)&&bC N M M S M&&oL N.x)
 else if N.k=34 then(decide ((1:Int)<=(N.ks.length:Int))&&lg a N N.ks.length 0&&(fh a N 0 !=27)&&bC N M M M M)
 else if N.k=35 then(enB a N N.ks.length 0&&bC N M M M M)
 else if N.k=36 then(((N.ks.length:Int)==1)&&(fh a N 0==1)&&bC N S M M S&&eG N 0 200&&(N.op==0||N.op==1))
 else if N.k=37 then(((N.ks.length:Int)==1)&&(fh a N 0==34||fh a N 0==27)&&bC N M M M M)
 else if N.k=40 then(((N.ks.length:Int)==1)&&lg a N 1 0&&bC N M M M M)
 else if N.k=41 then(((N.ks.length:Int)==2)&&lg a N 2 0&&bC N M M M M)
 else if N.k=42 then(((N.ks.length:Int)==1)&&lg a N 1 0&&bC N M M S M&&oL N.x)
 else M
theorem alz(h:NArg w vt ns N vn vk)(hK:N.k=20\/N.k=21\/N.k=22\/N.k=27\/N.k=23\/N.k=24\/N.k=25\/N.k=26\/N.k=28\/N.k=29\/N.k=41\/N.k=32\/N.k=30\/N.k=31\/N.k=33\/N.k=34\/N.k=40\/N.k=42\/N.k=36\/N.k=37):
  Y T 97 #[Ax #[vt],jf N vn vk] w fun e w'=>e= V (Z (jA ns N))/\X w.heap.size w w':=by
 obtain⟨B,F,rfl⟩:=h.t.form;obtain⟨C,G,rfl⟩:=h.n.form;obtain⟨E,H,rfl⟩:=h.k.form;have a:=St.start h;have A:W (N.x.size<=1100000):=bL h.lx (by decide);clear h;rcases hK with hK|hK|hK|hK|hK|hK|hK|hK|hK|hK|hK|hK|hK|hK|hK|hK|hK|hK|hK|hK;all_goals
  unfold jA;simp only[hK,reduceIte,Int.reduceEq];have J:=kqf hK;have I:=kqs hK;first
  |(have b:N.k=20\/N.k=21\/N.k=22\/N.k=27:=by first|exact .inl hK|exact .inr (.inl hK)|exact .inr (.inr (.inl hK))|exact .inr (.inr (.inr (hK)))
    clear b hK;cases t0:((N.ks.length:Int)==0)
    case' true=>
     cases t1:bC N M M M M)
  |(have b:N.k=23:=hK
    clear b hK;cases t0:((N.ks.length:Int)==0)
    case' true=>
     cases t1:bC N M S M M)
  |(have b:N.k=24:=hK
    clear b hK;cases t0:((N.ks.length:Int)==0)
    case' true=>
     cases t1:bC N M M S M
     case' true=>
      cases t2:fok N.x)
  |(have b:N.k=25:=hK
    clear b hK;cases t0:((N.ks.length:Int)==0)
    case' true=>
     cases t1:bC N M M S M
     case' true=>
      cases t2:decide ((N.x.size:Int)<=4000))
  |(have b:N.k=26:=hK
    clear b hK;cases t0:((N.ks.length:Int)==0)
    case' true=>
     cases t1:bC N M M S M
     case' true=>
      cases t2:oL N.x)
  |(have b:N.k=28\/N.k=29\/N.k=41:=by first|exact .inl hK|exact .inr (.inl hK)|exact .inr (.inr (hK))
    clear b hK;cases t0:((N.ks.length:Int)==2)
    case' true=>
     have c:N.ks.length=2:=by have:=gE t0;omega
     have d:W (2<=N.ks.length):=by show _<=_;omega
     have f:W (0<N.ks.length):=by show _<_;omega
     have y:W (1<N.ks.length):=by show _<_;omega
     clear c;cases t1:lg ns N 2 0
     case' true=>
      cases t2:bC N M M M M)
  |(have b:N.k=32:=hK
    clear b hK;cases t0:((N.ks.length:Int)==2)
    case' true=>
     have c:N.ks.length=2:=by have:=gE t0;omega
     have d:W (2<=N.ks.length):=by show _<=_;omega
     have f:W (0<N.ks.length):=by show _<_;omega
     have y:W (1<N.ks.length):=by show _<_;omega
     clear c;cases t1:lg ns N 2 0
     case' true=>
      cases t2:(fh ns N 0 !=27)
      case' true=>
       cases t3:bC N M M M M)
  |(have b:N.k=30:=hK
    clear b hK;cases t0:((N.ks.length:Int)==1)
    case' true=>
     have c:N.ks.length=1:=by have:=gE t0;omega
     have d:W (1<=N.ks.length):=by show _<=_;omega
     have f:W (0<N.ks.length):=by show _<_;omega
     clear c;cases t1:lg ns N 1 0
     case' true=>
      cases t2:bC N S M M M
      case' true=>
       cases t3:decide ((19:Int)<=N.op)
       case' true=>
        cases t4:decide (N.op<=22))
  |(have b:N.k=31:=hK
    clear b hK;cases t0:((N.ks.length:Int)==2)
    case' true=>
     have c:N.ks.length=2:=by have:=gE t0;omega
     have d:W (2<=N.ks.length):=by show _<=_;omega
     have f:W (0<N.ks.length):=by show _<_;omega
     have y:W (1<N.ks.length):=by show _<_;omega
     clear c;cases t1:lg ns N 2 0
     case' true=>
      cases t2:bC N S M M M
      case' true=>
       cases t3:decide ((1:Int)<=N.op)
       case' true=>
        cases t4:decide (N.op<=18))
  |(have b:N.k=33:=hK
    clear b hK;cases t0:((N.ks.length:Int)==1)
    case' true=>
     have c:N.ks.length=1:=by have:=gE t0;omega
     have d:W (1<=N.ks.length):=by show _<=_;omega
     have f:W (0<N.ks.length):=by show _<_;omega
     clear c;cases t1:lg ns N 1 0
     case' true=>
      cases t2:(fh ns N 0 !=27)
      case' true=>
       cases t3:bC N M M S M
       case' true=>
        cases t4:oL N.x)
  |(have b:N.k=34:=hK
    clear b hK;cases t0:decide ((1:Int)<=(N.ks.length:Int))
    case' true=>
     have f:W (0<N.ks.length):=by show _<_;have:=aH t0;omega
     cases t1:lg ns N N.ks.length 0
     case' true=>
      cases t2:(fh ns N 0 !=27)
      case' true=>
       cases t3:bC N M M M M)
  |(have b:N.k=40:=hK
    clear b hK;cases t0:((N.ks.length:Int)==1)
    case' true=>
     have c:N.ks.length=1:=by have:=gE t0;omega
     have d:W (1<=N.ks.length):=by show _<=_;omega
     have f:W (0<N.ks.length):=by show _<_;omega
     clear c;cases t1:lg ns N 1 0
     case' true=>
      cases t2:bC N M M M M)
  |(have b:N.k=42:=hK
    clear b hK;cases t0:((N.ks.length:Int)==1)
    case' true=>
     have c:N.ks.length=1:=by have:=gE t0;omega
     have d:W (1<=N.ks.length):=by show _<=_;omega
     have f:W (0<N.ks.length):=by show _<_;omega
     clear c;cases t1:lg ns N 1 0
     case' true=>
      cases t2:bC N M M S M
      case' true=>
       cases t3:oL N.x)
  |(have b:N.k=36:=hK
    clear b hK;cases t0:((N.ks.length:Int)==1)
    case' true=>
     have c:N.ks.length=1:=by have:=gE t0;omega
     have d:W (1<=N.ks.length):=by show _<=_;omega
     have f:W (0<N.ks.length):=by show _<_;omega
     clear c;cases t1:(fh ns N 0==1)
     case' true=>
      cases t2:bC N S M M S
      case' true=>
       cases t3:eG N 0 200
       case' true=>
        cases u4:(N.op==0)
        case' false=>cases v4:(N.op==1))
  |(have b:N.k=37:=hK
    clear b hK;cases t0:((N.ks.length:Int)==1)
    case' true=>
     have c:N.ks.length=1:=by have:=gE t0;omega
     have d:W (1<=N.ks.length):=by show _<=_;omega
     have f:W (0<N.ks.length):=by show _<_;omega
     clear c;cases u1:(fh ns N 0==34)
     case' false=>cases v1:(fh ns N 0==27)
     all_goals
      cases t2:bC N M M M M)
 all_goals
  unfold jf;go_in;go_wp2_with (first|(go_at_call 170;with_reducible refine a.bare fun g a=>?_;obtain⟨i,j,l,m,o,p,q,r,s,u⟩:=cd a.bn;have v:=a.bt)|(go_at_call 171;with_reducible refine a.named fun g a=>?_;obtain⟨i,j,l,m,o,p,q,r,s,u⟩:=cd a.bn;have v:=a.bt)|(go_at_call 172;(first|with_reducible refine a.ex1 d.out fun g a=>?_|with_reducible refine a.ex2 d.out fun g a=>?_|with_reducible refine a.exL fun g a=>?_);obtain⟨i,j,l,m,o,p,q,r,s,u⟩:=cd a.bn;have v:=a.bt)|(go_at_call 169;(first|with_reducible refine a.kid0 f.out fun g a=>?_|with_reducible refine a.kid1 y.out fun g a=>?_);obtain⟨i,j,l,m,o,p,q,r,s,u⟩:=cd a.bn;have v:=a.bt)|(go_at_call 175;refine bv (xH _ A.out _) fun g z=>?_;replace a:=a.below z;obtain⟨i,j,l,m,o,p,q,r,s,u⟩:=cd a.bn;have v:=a.bt)|(go_at_call 174;refine bv (Jd _ A.out _) fun g z=>?_;replace a:=a.below z;obtain⟨i,j,l,m,o,p,q,r,s,u⟩:=cd a.bn;have v:=a.bt));go_ret;exact⟨rfl,a.bel⟩
def sbB(a:List Nd)(N:Nd):Nat->Nat->Bool
 |0,_=>S
 |f+1,j=>jj (fh a N j)&&sbB a N f (j+1)
structure alA (ns:List Nd) (N:Nd) (f j:Nat) (R:Bool):Prop where
 out:sbB ns N f j=R
theorem ajk(g:NArg w vt ns N vn vk)(ad:N.k=1):
  Y T 96 #[Ax #[vt],jf N vn vk] w fun e w'=>e= V (Z (sbB ns N N.ks.length 0&&bC N M M M M))/\X w.heap.size w w':=by
 obtain⟨G,J,rfl⟩:=g.t.form;obtain⟨H,K,rfl⟩:=g.n.form;obtain⟨I,L,rfl⟩:=g.k.form;have b:=St.start g;have av:=g.l2;clear g;have a0:(N.k==1)=S:=by rw[ad];rfl
 clear ad;obtain⟨o,p⟩:=az (sbB ns N N.ks.length 0);rw[p];have al:alA ns N N.ks.length 0 o:=⟨p⟩;clear p;unfold jf;go_in;go_wp2_with fail;generalize (w.alloc (.cells #[U G ns.length J] 26)).alloc (.cells #[O Q N.k,O Q N.f,O Q N.t,O Q N.l,O Q N.op,O Q N.n,A0 N.x,U H N.nm.length K,U I N.ks.length L] 45)=ap at b⊢;go_loopw [6,18] (fun _ q wr=>∃(c:Nat),q= O Q c/\c<=N.ks.length/\alA ns N (N.ks.length-c) c o/\St w (U G ns.length J) ns N (U H N.nm.length K) (U I N.ks.length L) wr) (fun _ q _=>N.ks.length-(A2 q).toNat)
 case atStart=>exact⟨0,rfl,by omega,al,b⟩
 case round=>
  clear b;obtain⟨c,rfl,ar,ak,b⟩:=hrel;obtain⟨r,s,u,v,y,z,A,B,C,E⟩:=cd b.bn;have F:=b.bt;have d:=ak.out;by_cases an:c<N.ks.length
  ·rw[show N.ks.length-c=(N.ks.length-(c+1))+1 by omega,sbB]at d;have am:(c:Int)<(N.ks.length:Int):=by omega
   have j:=qj b.a c an;unfold jf at j;generalize fh ns N c=af at d j;have m:=fun w=>Cg af w;cases hx:jj af with
   |false=>
    rw[hx,eo]at d;rw[hx]at m;have h:=aq d;clear d hx;go_wp2_with (first|(go_at_call 169;refine j.mono ?_;rintro e w' ⟨rfl,i⟩;replace b:=b.below i;clear i;obtain⟨r,s,u,v,y,z,A,B,C,E⟩:=cd b.bn;have F:=b.bt)|(go_at_call 95;refine dB (m _) ?_));go_ret;exact⟨by rw[<-h.out];rfl,b.bel⟩
   |true=>
    rw[hx,eI]at d;rw[hx]at m;have h:alA ns N (N.ks.length-(c+1)) (c+1) o:=⟨d⟩;clear d hx;go_wp2_with (first|(go_at_call 169;refine j.mono ?_;rintro e w' ⟨rfl,i⟩;replace b:=b.below i;clear i;obtain⟨r,s,u,v,y,z,A,B,C,E⟩:=cd b.bn;have F:=b.bt)|(go_at_call 95;refine dB (m _) ?_));exact⟨⟨c+1,by go_num,by omega,h,b⟩,by simp[A2];omega⟩
  ·rw[show N.ks.length-c=0 by omega,sbB]at d;have h:=aq d;have am:¬(c:Int)<(N.ks.length:Int):=by omega
   clear d;go_wp2_with (go_at_call 170;refine b.bare fun ao b=>?_;obtain⟨r,s,u,v,y,z,A,B,C,E⟩:=cd b.bn;have F:=b.bt);go_ret;exact⟨by rw[<-h.out];rfl,b.bel⟩
theorem agb(b:NArg w vt ns N vn vk)(c:0<N.ks.length):
  Y T 169 #[Ax #[vt],Ax #[O Q N.k,O Q N.f,O Q N.t,O Q N.l,O Q N.op,O Q N.n,A0 N.x,vn,vk],O Q ((N.ks.length:Int)-1)] w fun e w'=>e= V (O Q (fh ns N (N.ks.length-1)))/\X w.heap.size w w':=by
 have a:=qj b (N.ks.length-1) (by omega);rw[show((N.ks.length-1:Nat):Int)=(N.ks.length:Int)-1 by omega]at a;exact a
theorem ajl(a:NArg w vt ns N vn vk)(c:0<N.ks.length):
  Y T 172 #[Ax #[vt],Ax #[O Q N.k,O Q N.f,O Q N.t,O Q N.l,O Q N.op,O Q N.n,A0 N.x,vn,vk],O Q 0,O Q ((N.ks.length:Int)-1)] w fun e w'=>e= V (Z (lg ns N (N.ks.length-1) 0))/\X w.heap.size w w':=by
 have b:=lu w vt ns N vn vk 0 (N.ks.length-1) a.t a.n a.k a.ok (by omega) a.ln a.l2;rw[show((N.ks.length-1:Nat):Int)=(N.ks.length:Int)-1 by omega]at b;exact b
theorem ajm(c:NArg w vt ns N vn vk)(g:N.k=9):
  Y T 96 #[Ax #[vt],jf N vn vk] w fun e w'=>e= V (Z (bC N M M M S&&(eG N 1 1&&(((N.ks.length:Int)==3||(N.ks.length:Int)==4)&&(lg ns N (N.ks.length-1) 0&&(fh ns N (N.ks.length-1)==1))))))/\X w.heap.size w w':=by
 obtain⟨x,A,rfl⟩:=c.t.form;obtain⟨y,B,rfl⟩:=c.n.form;obtain⟨z,C,rfl⟩:=c.k.form;have b:=St.start c;have E:=c.l2;clear c;have F:=kqf g;have G:=kqt g 9 rfl;clear g;unfold jf;cases t0:bC N M M M S
 case' true=>
  cases t1:eG N 1 1
  case' true=>
   cases t2:((N.ks.length:Int)==3)
   case' false=>cases t5:((N.ks.length:Int)==4)
   case' false.true=>
    have f:W (0<N.ks.length):=by show _<_;have:=gE t5;omega
    cases t3:lg ns N (N.ks.length-1) 0
    case' true=>cases t4:(fh ns N (N.ks.length-1)==1)
   case' true.true.true=>
    have f:W (0<N.ks.length):=by show _<_;have:=gE t2;omega
    cases t3:lg ns N (N.ks.length-1) 0
    case' true=>cases t4:(fh ns N (N.ks.length-1)==1)
 all_goals
  go_in;go_wp2_with (first|(go_at_call 170;refine b.bare fun v b=>?_;obtain⟨h,i,j,l,m,o,p,q,r,s⟩:=cd b.bn;have u:=b.bt)|(go_at_call 171;refine b.named fun v b=>?_;obtain⟨h,i,j,l,m,o,p,q,r,s⟩:=cd b.bn;have u:=b.bt)|(go_at_call 172;with_reducible refine(ajl b.a f.out).mono ?_;rintro e w' ⟨rfl,d⟩;replace b:=b.below d;clear d;obtain⟨h,i,j,l,m,o,p,q,r,s⟩:=cd b.bn;have u:=b.bt)|(go_at_call 169;with_reducible refine(agb b.a f.out).mono ?_;rintro e w' ⟨rfl,d⟩;replace b:=b.below d;clear d;obtain⟨h,i,j,l,m,o,p,q,r,s⟩:=cd b.bn;have u:=b.bt));go_ret;exact⟨rfl,b.bel⟩
theorem alB(k:Int):de k=0\/de k=1\/de k=2\/de k=3\/de k=4\/de k=5\/de k=6:=by
 unfold de
 repeat' split
 all_goals simp
theorem EK(w:World)(b:Nat)(N:Nd)(vn x:Value)(y:Int)(s:∃a n c,vn= .slice a n c)(h:ft w b N vn y x):
  Y T 82 #[er N.k b] w fun e w'=>e= .returned (jf (mz N (de N.k)) (tq vn (de N.k)) (.slice none 0 0))/\X w.heap.size w w':=by
 obtain⟨z,H,A,rfl⟩:=s;unfold ft at h;unfold er;have G:=fun w=>akh b w;have B:=fun w=>asT b w;have C:=fun w=>asF b w;have v:=fun w=>da b w;have E:=ai h;have F:b<w.heap.size+1:=by omega
 have r:∀d g,X w.heap.size w ((w.alloc d).alloc g).drew:=fun d g=>aw (((ah _ w).alloc (ag _) d).alloc (by simp) g);have c:=fun u=>au w b u _ _ _ h;have i:=c 0;have j:=c 1;have m:=c 2;have o:=c 3;have p:=c 6;have q:=c 7;clear c h;unfold jf;rcases alB N.k with hc|hc|hc|hc|hc|hc|hc;all_goals
  simp only[hc,Kw,jy,mz,tq,ej,dt]at i j m o p q⊢;simp at i j m o p q;go_in;go_wp2_with (go_at_call 336;refine dB (v _) ?_);all_goals
   go_region_held3 (fun w'=>w'.cell? ⟨b,0,none⟩=some (.int .i64 N.k)/\w'.cell? ⟨b,1,none⟩=some (.int .i64 N.f)/\w'.cell? ⟨b,2,none⟩=some (.int .i64 N.t)/\w'.cell? ⟨b,3,none⟩=some (.int .i64 N.l)) (go_keep) (fail)
   go_wp2_with fail;all_goals exact aI (eu rfl _ _ w.heap.size _ _ _ _ rfl ((dg _ _ _ (by simp)).trans (aA w _)) Tryz.underlying45 rfl (by kernel_rfl)) rfl ⟨by simp[*],r _ _⟩
theorem JK{s t:ByteArray}(h:s≠t):(s.toList==t.toList)=M:=by
 rw[cG];intro a;apply h;rw[fE,fE]at a;cases s;cases t;simp only at a
 congr 1
 exact Array.toList_inj.1 a
theorem agc{s t:ByteArray}(h:s=t):(s.toList==t.toList)=S:=by subst h;simp
theorem aad(w:World)(B C:Value)(c d:List ByteArray)(n:cu w B c)(o:cu w C d)(x:c.length<=1048576)(y:d.length<=1048576):
  Y T 182 #[B,C] w fun e w'=>e= V (Z (decide (c=d)))/\X w.heap.size w w':=by
 obtain⟨H,J,rfl⟩:=n.form;obtain⟨I,K,rfl⟩:=o.form;by_cases q:c.length=d.length
 ·obtain⟨m,r⟩:=az (decide (c=d));rw[r];obtain⟨f,k⟩:=az c.length;have p:d.length=f:=by rw[<-q];exact k
  have h:=lD k p r;have u:W (cu w (U H f J) c/\cu w (U I f K) d):=⟨by rw[<-k];exact n,by rw[<-p];exact o⟩;rw[k]at x⊢;rw[p];clear n o k p r q y;go_in;go_wp21
  go_loopw [13] (fun t wr=>∃b:Nat,b<=f/\t= O Q b/\W (∀a,a<b->c[a]?=d[a]?)/\X w.heap.size w wr) (fun t _=>f-(A2 t).toNat)
  case atStart=>exact⟨0,by omega,rfl,fun a L=>by omega,ah _ _⟩
  case round=>
   obtain⟨b,ap,rfl,v,j⟩:=hrel;by_cases z:b<f
   ·obtain⟨ad,i⟩:=cy h.1 z;obtain⟨af,l⟩:=cy h.2.1 z;obtain⟨ak,rfl,am⟩:=(u.1.below j).get i;obtain⟨al,rfl,an⟩:=(u.2.below j).get l;by_cases s:ad=af
    ·subst s;have E:W (∀a,a<b+1->c[a]?=d[a]?):=fun a L=>by
      rcases bj a b with g|g
      ·exact v a g
      ·obtain rfl:a=b:=by omega
       rw[i,l]
     clear i l;go_wp21
     go_quiet (fail)
     go_wp21
     exact⟨⟨b+1,by omega,by go_num,E,nB j _⟩,by simp[A2];omega⟩
    ·have F:W (m=M):=by
      show m=M;rw[<-h.out.2.2];refine aC fun e=>s ?_;rw[e,l]at i;exact(bp i).symm
     have ao:=JK s;clear i l;go_wp21
     go_quiet (fail)
     go_wp21
     go_ret;exact⟨by rw[F.out];rfl,nB j _⟩
   ·obtain rfl:b=f:=by omega
    have G:W (m=S):=by
     show m=S;rw[<-h.out.2.2];refine bH (List.ext_getElem? fun a=>?_);rcases bj a b with g|g
     ·exact v a g
     ·rw[jG (by rw[h.out.1];exact g),jG (by rw[h.out.2.1];exact g)]
    go_wp21
    go_ret;exact⟨by rw[G.out];rfl,j⟩
 ·rw[aC (fun e=>q (by rw[e]))];have A:¬(c.length:Int)=(d.length:Int):=by omega
  generalize c.length=ar at A x⊢;generalize d.length=av at A y⊢;clear n o q;go_in;go_wp2;go_ret;exact⟨rfl,ah _ _⟩
def Ah(a N:Nd):Bool:=decide (a.op=N.op/\a.n=N.n/\a.x=N.x/\a.nm=N.nm)
theorem C7(w:World)(b N:Nd)(ad af vn vk:Value)(l:cu w ad b.nm)(m:cu w vn N.nm)(am:∃a n c,af= U a n c)(al:∃a n c,vk= U a n c)(an:b.nm.length<=1048576)(ao:N.nm.length<=1048576):
  Y T 107 #[jf b ad af,jf N vn vk] w fun e w'=>e= V (Z (Ah b N))/\X w.heap.size w w':=by
 have k:∀g h,X w.heap.size w ((w.alloc g).alloc h):=fun g h=>((ah _ w).alloc (ag _) g).alloc (by simp) h;have f:=fun g h=>aad ((w.alloc g).alloc h) ad vn b.nm N.nm (l.below (k g h)) (m.below (k g h)) an ao;obtain⟨a0,a8,rfl⟩:=l.form;obtain⟨a5,a9,rfl⟩:=m.form;obtain⟨a6,bc,ba,rfl⟩:=am;obtain⟨a7,bd,bb,rfl⟩:=al;unfold jf Ah;generalize b.nm.length=ap at f⊢;generalize N.nm.length=ar at f⊢;by_cases i:b.op=N.op
 ·by_cases o:b.n=N.n
  ·by_cases j:b.x=N.x
   ·have e:decide (b.op=N.op/\b.n=N.n/\b.x=N.x/\b.nm=N.nm)=decide (b.nm=N.nm):=by
     by_cases p:b.nm=N.nm
     ·rw[bH p,bH ⟨i,o,j,p⟩]
     ·rw[aC p,aC (fun d=>p d.2.2.2)]
    rw[e];have L:=agc j;generalize decide (b.nm=N.nm)=av at f⊢;clear e j l m;obtain⟨r,q,z,t,y,u,A,v,s⟩:=b;obtain⟨C,B,J,F,I,G,K,H,E⟩:=N;simp only at i o L⊢;go_in;go_wp2_with (go_at_call 182;refine(f _ _).mono ?_;rintro e bf ⟨rfl,ak⟩);go_ret;exact⟨rfl,(k _ _).trans (ak.mono (by simp;omega))⟩
   ·rw[aC (fun d=>j d.2.2.1)];have L:=JK j;clear j l m f;obtain⟨r,q,z,t,y,u,A,v,s⟩:=b;obtain⟨C,B,J,F,I,G,K,H,E⟩:=N;simp only at i o L⊢;go_in;go_wp2;go_ret;exact⟨rfl,k _ _⟩
  ·rw[aC (fun d=>o d.2.1)];clear l m f;obtain⟨r,q,z,t,y,u,A,v,s⟩:=b;obtain⟨C,B,J,F,I,G,K,H,E⟩:=N;simp only at i o⊢;go_in;go_wp2;go_ret;exact⟨rfl,k _ _⟩
 ·rw[aC (fun d=>i d.1)];clear l m f;obtain⟨r,q,z,t,y,u,A,v,s⟩:=b;obtain⟨C,B,J,F,I,G,K,H,E⟩:=N;simp only at i⊢;go_in;go_wp2;go_ret;exact⟨rfl,k _ _⟩
