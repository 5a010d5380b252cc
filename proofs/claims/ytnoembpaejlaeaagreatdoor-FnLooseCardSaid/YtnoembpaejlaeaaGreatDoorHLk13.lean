import Derived.Test.YtnoembpaejlaeaaGreatDoorHLk09
set_option linter.all false
set_option maxRecDepth 100000
set_option maxHeartbeats 25600000
open Bool renaming false->M,true->U
open Go.Value renaming slice->O,string->X,int->Z,string->A0,bool->A2
open Go.RowKit renaming intOf->Q,Hid->S,Below->Ax
open Go.Proofs.Tryz renaming prog->T
open Go.Ending renaming returned->V
open Option renaming some->Y,none->A3
namespace Go.Proofs.YtnoembpaejlaeaaGreatDoor
open Go.RowKit Go.Maps Go.WideMaps
variable{N:Nd}{W w:World}{ks:List Int}{ns:List Nd}{vk vn vt:Value}
def Cb:List Int:=[20,21,22,27,23,24,25,26,28,29,32,30,31,33,34,35,36,37,40,41,42]
def ajt(a:NArg w vt ns N vn vk)(b:∀c∈Cb,N.k≠c):
  Calls T 84 #[.agg #[vt],jl N vn vk] w λe f=>e= V (A2 M)/\Ax w.heap.size w f:=by
 obtain⟨g,j,rfl⟩:=a.t.form;obtain⟨h,l,rfl⟩:=a.n.form;obtain⟨i,m,rfl⟩:=a.k.form;have d:=St.start a;clear a;have o:∀c:Int,20<=c->c<=37->(N.k==c)=M:=λc _ _=>beq_eq_false_iff_ne.2 (b c (by simp[Cb];omega));have p:∀c:Int,40<=c->c<=42->(N.k==c)=M:=λc _ _=>beq_eq_false_iff_ne.2 (b c (by simp[Cb];omega));clear b;unfold jl;go_in;go_wp2;go_ret;exact⟨rfl,d.bel⟩
def Kd(ns:List Nd)(N:Nd):Nat->Nat->Bool
 |0,_=>U
 |f+1,j=>decide (40<=fH ns N j/\fH ns N j<=42)&&Kd ns N f (j+1)
structure amB (ns:List Nd) (N:Nd) (f j:Nat) (R:Bool):Prop where
 out:Kd ns N f j=R
def agk(i:NArg w vt ns N vn vk)(E:N.k=35):
  Calls T 84 #[.agg #[vt],jl N vn vk] w λe m=>e= V (A2 (Kd ns N N.ks.length 0&&bF N M M M M))/\Ax w.heap.size w m:=by
 obtain⟨H,K,rfl⟩:=i.t.form;obtain⟨I,L,rfl⟩:=i.n.form;obtain⟨J,ad,rfl⟩:=i.k.form;have b:=St.start i;have a0:=i.l2;clear i;have a4:=kqf E;have a5:=kqs E;clear E;obtain⟨C,F⟩:=aF (Kd ns N N.ks.length 0);rw[F];have al:amB ns N N.ks.length 0 C:=⟨F⟩;clear F;unfold jl;go_in;go_wp2_with fail;generalize (w.alloc (.cells #[O H ns.length K] 26)).alloc (.cells #[Z .i64 N.k,Z .i64 N.f,Z .i64 N.t,Z .i64 N.l,Z .i64 N.op,Z .i64 N.n,X N.x,O I N.nm.length L,O J N.ks.length ad] 62)=ar at b⊢;go_loopw [6,7,200] (λ_ _ G wr=>∃(c:Nat),G= Z .i64 c/\c<=N.ks.length/\amB ns N (N.ks.length-c) c C/\St w (O H ns.length K) ns N (O I N.nm.length L) (O J N.ks.length ad) wr) (λ_ _ G _=>N.ks.length-(Q G).toNat)
 case atStart=>exact⟨0,rfl,by omega,al,b⟩
 case round=>
  clear b;obtain⟨c,rfl,ax,ak,b⟩:=hrel;obtain⟨o,p,q,r,s,u,v,y,z,A⟩:=be b.bn;have B:=b.bt;have d:=ak.out;by_cases ao:c<N.ks.length
  .rw[show N.ks.length-c=(N.ks.length-(c+1))+1 by omega,Kd]at d;have an:(c:Int)<(N.ks.length:Int):=by omega
   have j:=qC b.a c ao;unfold jl at j;generalize fH ns N c=af at d j;by_cases au:af<40
   .rw[aD (by omega),fw]at d;have h:=aq d;clear d;go_wp2_with (go_at_call 157;refine j.mono ?_;rintro e m ⟨rfl,g⟩;replace b:=b.below g;clear g;obtain⟨o,p,q,r,s,u,v,y,z,A⟩:=be b.bn;have B:=b.bt);go_ret;exact⟨by rw[<-h.out];rfl,b.bel⟩
   by_cases av:42<af
   .rw[aD (by omega),fw]at d;have h:=aq d;clear d;go_wp2_with (go_at_call 157;refine j.mono ?_;rintro e m ⟨rfl,g⟩;replace b:=b.below g;clear g;obtain⟨o,p,q,r,s,u,v,y,z,A⟩:=be b.bn;have B:=b.bt);go_ret;exact⟨by rw[<-h.out];rfl,b.bel⟩
   rw[bp (by omega),gB]at d;have h:amB ns N (N.ks.length-(c+1)) (c+1) C:=⟨d⟩;clear d;go_wp2_with (go_at_call 157;refine j.mono ?_;rintro e m ⟨rfl,g⟩;replace b:=b.below g;clear g;obtain⟨o,p,q,r,s,u,v,y,z,A⟩:=be b.bn;have B:=b.bt);exact⟨⟨c+1,by go_num,by omega,h,b⟩,by simp[Q];omega⟩
  .rw[show N.ks.length-c=0 by omega,Kd]at d;have h:=aq d;have an:¬(c:Int)<(N.ks.length:Int):=by omega
   clear d;go_wp2_with (go_at_call 158;refine b.bare λap b=>?_;obtain⟨o,p,q,r,s,u,v,y,z,A⟩:=be b.bn;have B:=b.bt);go_ret;exact⟨by rw[<-h.out];rfl,b.bel⟩
def jg(ns:List Nd)(N:Nd):Bool:=
 if N.k=20 then(((N.ks.length:Int)==0)&&bF N M M M M)
 else if N.k=21 then(((N.ks.length:Int)==0)&&bF N M M M M)
 else if N.k=22 then(((N.ks.length:Int)==0)&&bF N M M M M)
 else if N.k=27 then(((N.ks.length:Int)==0)&&bF N M M M M)
 else if N.k=23 then(((N.ks.length:Int)==0)&&bF N M U M M)
 else if N.k=24 then(((N.ks.length:Int)==0)&&bF N M M U M&&fok N.x)
 else if N.k=25 then(((N.ks.length:Int)==0)&&bF N M M U M&&decide ((N.x.size:Int)<=4000))
 else if N.k=26 then(((N.ks.length:Int)==0)&&bF N M M U M&&lh N.x)
 else if N.k=28 then(((N.ks.length:Int)==2)&&lE ns N 2 0&&bF N M M M M)
 else if N.k=29 then(((N.ks.length:Int)==2)&&lE ns N 2 0&&bF N M M M M)
 else if N.k=32 then(((N.ks.length:Int)==2)&&lE ns N 2 0&&(fH ns N 0 !=27)&&bF N M M M M)
 else if N.k=30 then(((N.ks.length:Int)==1)&&lE ns N 1 0&&bF N U M M M&&decide ((19:Int)<=N.op)&&decide (N.op<=22))
 else if N.k=31 then(((N.ks.length:Int)==2)&&lE ns N 2 0&&bF N U M M M&&decide ((1:Int)<=N.op)&&decide (N.op<=18))
 else if N.k=33 then(((N.ks.length:Int)==1)&&lE ns N 1 0&&(fH ns N 0 !=27)&&bF N M M U M&&lh N.x)
 else if N.k=34 then(decide ((1:Int)<=(N.ks.length:Int))&&lE ns N N.ks.length 0&&(fH ns N 0 !=27)&&bF N M M M M)
 else if N.k=35 then(Kd ns N N.ks.length 0&&bF N M M M M)
 else if N.k=36 then(((N.ks.length:Int)==1)&&(fH ns N 0==1)&&bF N U M M U&&fE N 0 200&&(N.op==0||N.op==1))
 else if N.k=37 then(((N.ks.length:Int)==1)&&(fH ns N 0==34||fH ns N 0==27)&&bF N M M M M)
 else if N.k=40 then(((N.ks.length:Int)==1)&&lE ns N 1 0&&bF N M M M M)
 else if N.k=41 then(((N.ks.length:Int)==2)&&lE ns N 2 0&&bF N M M M M)
 else if N.k=42 then(((N.ks.length:Int)==1)&&lE ns N 1 0&&bF N M M U M&&lh N.x)
 else M
def amC(h:NArg w vt ns N vn vk)(hK:N.k=20\/N.k=21\/N.k=22\/N.k=27\/N.k=23\/N.k=24\/N.k=25\/N.k=26\/N.k=28\/N.k=29\/N.k=41\/N.k=32\/N.k=30\/N.k=31\/N.k=33\/N.k=34\/N.k=40\/N.k=42\/N.k=36\/N.k=37):
  Calls T 84 #[.agg #[vt],jl N vn vk] w λe B=>e= V (A2 (jg ns N))/\Ax w.heap.size w B:=by
 obtain⟨C,G,rfl⟩:=h.t.form;obtain⟨E,H,rfl⟩:=h.n.form;obtain⟨F,I,rfl⟩:=h.k.form;have a:=St.start h;have A:S (N.x.size<=1100000):=bG h.lx (by decide);clear h;rcases hK with hK|hK|hK|hK|hK|hK|hK|hK|hK|hK|hK|hK|hK|hK|hK|hK|hK|hK|hK|hK;all_goals
  unfold jg;simp only[hK,reduceIte,Int.reduceEq];have K:=kqf hK;have J:=kqs hK;first
  |(have b:N.k=20\/N.k=21\/N.k=22\/N.k=27:=by first|exact .inl hK|exact .inr (.inl hK)|exact .inr (.inr (.inl hK))|exact .inr (.inr (.inr (hK)))
    clear b hK;cases t0:((N.ks.length:Int)==0)
    case' true=>
     cases t1:bF N M M M M)
  |(have b:N.k=23:=hK
    clear b hK;cases t0:((N.ks.length:Int)==0)
    case' true=>
     cases t1:bF N M U M M)
  |(have b:N.k=24:=hK
    clear b hK;cases t0:((N.ks.length:Int)==0)
    case' true=>
     cases t1:bF N M M U M
     case' true=>
      cases t2:fok N.x)
  |(have b:N.k=25:=hK
    clear b hK;cases t0:((N.ks.length:Int)==0)
    case' true=>
     cases t1:bF N M M U M
     case' true=>
      cases t2:decide ((N.x.size:Int)<=4000))
  |(have b:N.k=26:=hK
    clear b hK;cases t0:((N.ks.length:Int)==0)
    case' true=>
     cases t1:bF N M M U M
     case' true=>
      cases t2:lh N.x)
  |(have b:N.k=28\/N.k=29\/N.k=41:=by first|exact .inl hK|exact .inr (.inl hK)|exact .inr (.inr (hK))
    clear b hK;cases t0:((N.ks.length:Int)==2)
    case' true=>
     have c:N.ks.length=2:=by have:=iE t0;omega
     have d:S (2<=N.ks.length):=by show _<=_;omega
     have f:S (0<N.ks.length):=by show _<_;omega
     have y:S (1<N.ks.length):=by show _<_;omega
     clear c;cases t1:lE ns N 2 0
     case' true=>
      cases t2:bF N M M M M)
  |(have b:N.k=32:=hK
    clear b hK;cases t0:((N.ks.length:Int)==2)
    case' true=>
     have c:N.ks.length=2:=by have:=iE t0;omega
     have d:S (2<=N.ks.length):=by show _<=_;omega
     have f:S (0<N.ks.length):=by show _<_;omega
     have y:S (1<N.ks.length):=by show _<_;omega
     clear c;cases t1:lE ns N 2 0
     case' true=>
      cases t2:(fH ns N 0 !=27)
      case' true=>
       cases t3:bF N M M M M)
  |(have b:N.k=30:=hK
    clear b hK;cases t0:((N.ks.length:Int)==1)
    case' true=>
     have c:N.ks.length=1:=by have:=iE t0;omega
     have d:S (1<=N.ks.length):=by show _<=_;omega
     have f:S (0<N.ks.length):=by show _<_;omega
     clear c;cases t1:lE ns N 1 0
     case' true=>
      cases t2:bF N U M M M
      case' true=>
       cases t3:decide ((19:Int)<=N.op)
       case' true=>
        cases t4:decide (N.op<=22))
  |(have b:N.k=31:=hK
    clear b hK;cases t0:((N.ks.length:Int)==2)
    case' true=>
     have c:N.ks.length=2:=by have:=iE t0;omega
     have d:S (2<=N.ks.length):=by show _<=_;omega
     have f:S (0<N.ks.length):=by show _<_;omega
     have y:S (1<N.ks.length):=by show _<_;omega
     clear c;cases t1:lE ns N 2 0
     case' true=>
      cases t2:bF N U M M M
      case' true=>
       cases t3:decide ((1:Int)<=N.op)
       case' true=>
        cases t4:decide (N.op<=18))
  |(have b:N.k=33:=hK
    clear b hK;cases t0:((N.ks.length:Int)==1)
    case' true=>
     have c:N.ks.length=1:=by have:=iE t0;omega
     have d:S (1<=N.ks.length):=by show _<=_;omega
     have f:S (0<N.ks.length):=by show _<_;omega
     clear c;cases t1:lE ns N 1 0
     case' true=>
      cases t2:(fH ns N 0 !=27)
      case' true=>
       cases t3:bF N M M U M
       case' true=>
        cases t4:lh N.x)
  |(have b:N.k=34:=hK
    clear b hK;cases t0:decide ((1:Int)<=(N.ks.length:Int))
    case' true=>
     have f:S (0<N.ks.length):=by show _<_;have:=aE t0;omega
     cases t1:lE ns N N.ks.length 0
     case' true=>
      cases t2:(fH ns N 0 !=27)
      case' true=>
       cases t3:bF N M M M M)
  |(have b:N.k=40:=hK
    clear b hK;cases t0:((N.ks.length:Int)==1)
    case' true=>
     have c:N.ks.length=1:=by have:=iE t0;omega
     have d:S (1<=N.ks.length):=by show _<=_;omega
     have f:S (0<N.ks.length):=by show _<_;omega
     clear c;cases t1:lE ns N 1 0
     case' true=>
      cases t2:bF N M M M M)
  |(have b:N.k=42:=hK
    clear b hK;cases t0:((N.ks.length:Int)==1)
    case' true=>
     have c:N.ks.length=1:=by have:=iE t0;omega
     have d:S (1<=N.ks.length):=by show _<=_;omega
     have f:S (0<N.ks.length):=by show _<_;omega
     clear c;cases t1:lE ns N 1 0
     case' true=>
      cases t2:bF N M M U M
      case' true=>
       cases t3:lh N.x)
  |(have b:N.k=36:=hK
    clear b hK;cases t0:((N.ks.length:Int)==1)
    case' true=>
     have c:N.ks.length=1:=by have:=iE t0;omega
     have d:S (1<=N.ks.length):=by show _<=_;omega
     have f:S (0<N.ks.length):=by show _<_;omega
     clear c;cases t1:(fH ns N 0==1)
     case' true=>
      cases t2:bF N U M M U
      case' true=>
       cases t3:fE N 0 200
       case' true=>
        cases u4:(N.op==0)
        case' false=>cases v4:(N.op==1))
  |(have b:N.k=37:=hK
    clear b hK;cases t0:((N.ks.length:Int)==1)
    case' true=>
     have c:N.ks.length=1:=by have:=iE t0;omega
     have d:S (1<=N.ks.length):=by show _<=_;omega
     have f:S (0<N.ks.length):=by show _<_;omega
     clear c;cases u1:(fH ns N 0==34)
     case' false=>cases v1:(fH ns N 0==27)
     all_goals
      cases t2:bF N M M M M)
 all_goals
  unfold jl;go_in;go_wp2_with (first|(go_at_call 158;with_reducible refine a.bare λg a=>?_;obtain⟨i,j,l,m,o,p,q,r,s,u⟩:=be a.bn;have v:=a.bt)|(go_at_call 159;with_reducible refine a.named λg a=>?_;obtain⟨i,j,l,m,o,p,q,r,s,u⟩:=be a.bn;have v:=a.bt)|(go_at_call 160;(first|with_reducible refine a.ex1 d.out λg a=>?_|with_reducible refine a.ex2 d.out λg a=>?_|with_reducible refine a.exL λg a=>?_);obtain⟨i,j,l,m,o,p,q,r,s,u⟩:=be a.bn;have v:=a.bt)|(go_at_call 157;(first|with_reducible refine a.kid0 f.out λg a=>?_|with_reducible refine a.kid1 y.out λg a=>?_);obtain⟨i,j,l,m,o,p,q,r,s,u⟩:=be a.bn;have v:=a.bt)|(go_at_call 163;refine du (yc _ A.out _) λg z=>?_;replace a:=a.below z;obtain⟨i,j,l,m,o,p,q,r,s,u⟩:=be a.bn;have v:=a.bt)|(go_at_call 162;refine du (JI _ A.out _) λg z=>?_;replace a:=a.below z;obtain⟨i,j,l,m,o,p,q,r,s,u⟩:=be a.bn;have v:=a.bt));go_ret;exact⟨rfl,a.bel⟩
def Dw(k:Int):fC k=0\/fC k=1\/fC k=2\/fC k=3\/fC k=4\/fC k=5\/fC k=6:=by
 unfold fC
 repeat' split
 all_goals simp
def rJ(k:Int)(b:Nat)(w:World):(method 433 (po (fC k)) (.pointer (Y ⟨b,0,A3⟩)) "loop.example/warp/impl.head").run T w= .ok (303,.pointer (Y ⟨b,0,A3⟩)) w:=FC _ b w
def AG(i f:Nat):List UInt8:=(wB i).data.toList++(if f=1 then [42] else if f=2 then [63] else [])
def wS(i f:Nat):ByteArray:=⟨(AG i f).toArray⟩
def wS1(i f:Nat):ByteArray:=⟨((wB i).data.toList++(if f=2 then [63] else [])).toArray⟩
def aq0:∀i f,i<10->f<3->(⟨(Lib.trimSuffix (wS i f).data.toList [42]).toArray⟩:ByteArray)=wS1 i f/\Lib.hasSuffix (wS i f).data.toList [42]=(f==1)
 |0,0,_,_=>⟨rfl,rfl⟩
 |0,1,_,_=>⟨rfl,rfl⟩
 |0,2,_,_=>⟨rfl,rfl⟩
 |1,0,_,_=>⟨rfl,rfl⟩
 |1,1,_,_=>⟨rfl,rfl⟩
 |1,2,_,_=>⟨rfl,rfl⟩
 |2,0,_,_=>⟨rfl,rfl⟩
 |2,1,_,_=>⟨rfl,rfl⟩
 |2,2,_,_=>⟨rfl,rfl⟩
 |3,0,_,_=>⟨rfl,rfl⟩
 |3,1,_,_=>⟨rfl,rfl⟩
 |3,2,_,_=>⟨rfl,rfl⟩
 |4,0,_,_=>⟨rfl,rfl⟩
 |4,1,_,_=>⟨rfl,rfl⟩
 |4,2,_,_=>⟨rfl,rfl⟩
 |5,0,_,_=>⟨rfl,rfl⟩
 |5,1,_,_=>⟨rfl,rfl⟩
 |5,2,_,_=>⟨rfl,rfl⟩
 |6,0,_,_=>⟨rfl,rfl⟩
 |6,1,_,_=>⟨rfl,rfl⟩
 |6,2,_,_=>⟨rfl,rfl⟩
 |7,0,_,_=>⟨rfl,rfl⟩
 |7,1,_,_=>⟨rfl,rfl⟩
 |7,2,_,_=>⟨rfl,rfl⟩
 |8,0,_,_=>⟨rfl,rfl⟩
 |8,1,_,_=>⟨rfl,rfl⟩
 |8,2,_,_=>⟨rfl,rfl⟩
 |9,0,_,_=>⟨rfl,rfl⟩
 |9,1,_,_=>⟨rfl,rfl⟩
 |9,2,_,_=>⟨rfl,rfl⟩
def aq1:∀i f,i<10->f<3->(⟨(Lib.trimSuffix (wS1 i f).data.toList [63]).toArray⟩:ByteArray)=wB i/\Lib.hasSuffix (wS1 i f).data.toList [63]=(f==2)
 |0,0,_,_=>⟨rfl,rfl⟩
 |0,1,_,_=>⟨rfl,rfl⟩
 |0,2,_,_=>⟨rfl,rfl⟩
 |1,0,_,_=>⟨rfl,rfl⟩
 |1,1,_,_=>⟨rfl,rfl⟩
 |1,2,_,_=>⟨rfl,rfl⟩
 |2,0,_,_=>⟨rfl,rfl⟩
 |2,1,_,_=>⟨rfl,rfl⟩
 |2,2,_,_=>⟨rfl,rfl⟩
 |3,0,_,_=>⟨rfl,rfl⟩
 |3,1,_,_=>⟨rfl,rfl⟩
 |3,2,_,_=>⟨rfl,rfl⟩
 |4,0,_,_=>⟨rfl,rfl⟩
 |4,1,_,_=>⟨rfl,rfl⟩
 |4,2,_,_=>⟨rfl,rfl⟩
 |5,0,_,_=>⟨rfl,rfl⟩
 |5,1,_,_=>⟨rfl,rfl⟩
 |5,2,_,_=>⟨rfl,rfl⟩
 |6,0,_,_=>⟨rfl,rfl⟩
 |6,1,_,_=>⟨rfl,rfl⟩
 |6,2,_,_=>⟨rfl,rfl⟩
 |7,0,_,_=>⟨rfl,rfl⟩
 |7,1,_,_=>⟨rfl,rfl⟩
 |7,2,_,_=>⟨rfl,rfl⟩
 |8,0,_,_=>⟨rfl,rfl⟩
 |8,1,_,_=>⟨rfl,rfl⟩
 |8,2,_,_=>⟨rfl,rfl⟩
 |9,0,_,_=>⟨rfl,rfl⟩
 |9,1,_,_=>⟨rfl,rfl⟩
 |9,2,_,_=>⟨rfl,rfl⟩
def acl:∀i f,i<10->f<3->(wS i f).size<=10/\(wS1 i f).size<=10
 |0,0,_,_=>by decide
 |0,1,_,_=>by decide
 |0,2,_,_=>by decide
 |1,0,_,_=>by decide
 |1,1,_,_=>by decide
 |1,2,_,_=>by decide
 |2,0,_,_=>by decide
 |2,1,_,_=>by decide
 |2,2,_,_=>by decide
 |3,0,_,_=>by decide
 |3,1,_,_=>by decide
 |3,2,_,_=>by decide
 |4,0,_,_=>by decide
 |4,1,_,_=>by decide
 |4,2,_,_=>by decide
 |5,0,_,_=>by decide
 |5,1,_,_=>by decide
 |5,2,_,_=>by decide
 |6,0,_,_=>by decide
 |6,1,_,_=>by decide
 |6,2,_,_=>by decide
 |7,0,_,_=>by decide
 |7,1,_,_=>by decide
 |7,2,_,_=>by decide
 |8,0,_,_=>by decide
 |8,1,_,_=>by decide
 |8,2,_,_=>by decide
 |9,0,_,_=>by decide
 |9,1,_,_=>by decide
 |9,2,_,_=>by decide
def aq2(i f:Nat)(b:i<10)(a:f<3)(w:World):Calls T 235 #[X (wS i f),X ⟨#[42]⟩] w λe g=>e= V (.tuple #[X (wS1 i f),A2 (f==1)])/\g=w:=by
 refine ft (Tryz.strings_CutSuffix (wS i f) ⟨#[42]⟩ w (by have:=(acl i f b a).1;omega)) ?_;obtain⟨c,d⟩:=aq0 i f b a;refine⟨?_,rfl⟩;rw[<-c,<-d]
def aq3(i f:Nat)(b:i<10)(a:f<3)(w:World):Calls T 235 #[X (wS1 i f),X ⟨#[63]⟩] w λe g=>e= V (.tuple #[X (wB i),A2 (f==2)])/\g=w:=by
 refine ft (Tryz.strings_CutSuffix (wS1 i f) ⟨#[63]⟩ w (by have:=(acl i f b a).2;omega)) ?_;obtain⟨c,d⟩:=aq1 i f b a;refine⟨?_,rfl⟩;rw[<-c,<-d]
def iL(W:World)(v:Value)(ks:List Int):Prop:=
 (ks=[]/\∃a b,v= O a 0 b)\/∃a b,v= O (Y a) ks.length b/\ks.length<=b/\∀e c,ks[e]?=Y c->∃d,W.cell? (a.add e)=Y (gg c d)/\W.cell? ⟨d,0,A3⟩=Y (Z .i64 c)
def iL.below{a:World}{v:Value}(h:iL W v ks)(b:Ax W.heap.size W a):iL a v ks:=by
 rcases h with h|⟨c,e,i,j,k⟩
 .exact .inl h
 .exact .inr ⟨c,e,i,j,λm n l=>by obtain⟨d,f,g⟩:=k m n l;exact⟨d,ah b f,ah b g⟩⟩
def iL.form{v:Value}(h:iL W v ks):∃a c,v= O a ks.length c:=by
 rcases h with⟨rfl,a,c,h⟩|⟨a,c,b,d⟩
 .exact⟨a,c,h⟩
 .exact⟨_,_,b⟩
def iL.get{a:Option Addr}{n c:Nat}(h:iL W (O a n c) ks){j:Nat}{k:Int}(e:ks[j]?=Y k):∃d b,a=Y d/\W.cell? (d.add j)=Y (gg k b)/\W.cell? ⟨b,0,A3⟩=Y (Z .i64 k):=by
 rcases h with⟨rfl,_⟩|⟨d,m,f,_,l⟩
 .simp at e
 .cases f;obtain⟨b,g,i⟩:=l j k e;exact⟨d,b,rfl,g,i⟩
def I1(i f:Nat)(ks:List Int):Nat:=if f=1 then(ks.takeWhile (ms i)).length else min 1 (ks.takeWhile (ms i)).length
def ga:List (Nat×Nat)->List Int->Bool
 |[],ks=>ks.isEmpty
 |(i,f)::a,ks=>if I1 i f ks=0/\f=0 then M else ga a (ks.drop (I1 i f ks))
structure Dy (ws:List (Nat×Nat)) (ks:List Int) (R:Bool):Prop where
 out:ga ws ks=R
def agl(p:Int->Bool):∀(ks:List Int)(t:Nat),t<=(ks.takeWhile p).length->(t<(ks.takeWhile p).length↔∃k,ks[t]?=Y k/\p k=U)
 |[],t,h=>by simp at h;subst h;simp
 |a::r,t,h=>by
  cases hp:p a with
  |false=>
   rw[Gg (by simp[hp])]at h⊢;simp at h;subst h;simp[hp]
  |true=>
   rw[Gh (by simp[hp])]at h⊢;cases t with
   |zero=>simp[hp]
   |succ t=>
    simp only[bm]at h⊢;have b:=agl p r t (by omega);rw[show(t+1<(r.takeWhile p).length+1)↔t<(r.takeWhile p).length by omega,b];simp
def api(p:Int->Bool)(ks:List Int):(ks.takeWhile p).length<=ks.length:=(List.takeWhile_sublist p).length_le
def amD(i f:Nat)(ks:List Int):I1 i f ks<=ks.length:=by
 have:=api (ms i) ks;unfold I1;split<;>omega
def amE(i f:Nat)(ks:List Int)(t:Nat)(h:t<=I1 i f ks):t<I1 i f ks↔(f=1\/t=0)/\∃k,ks[t]?=Y k/\ms i k=U:=by
 unfold I1 at h⊢;by_cases a:f=1
 .rw[ab a]at h⊢;rw[agl _ ks t h];simp[a]
 .rw[aa a]at h⊢;by_cases b:t=0
  .subst b;have:=agl (ms i) ks 0 (aI _);rw[show(0<min 1 (ks.takeWhile (ms i)).length)↔0<(ks.takeWhile (ms i)).length by omega,this];simp
  .constructor
   .intro h2;omega
   .rintro ⟨h2|h2,_⟩
    .exact absurd h2 a
    .exact absurd h2 b
def oA{i f:Nat}{a:List (Nat×Nat)}{R:Bool}(h:Dy ((i,f)::a) ks R)(b:¬(I1 i f ks=0/\f=0)):Dy a (ks.drop (I1 i f ks)) R:=by
 have:=h.out;rw[ga,aa b]at this;exact⟨this⟩
def AH{i f:Nat}{b:List (Nat×Nat)}{R:Bool}(h:Dy ((i,f)::b) ks R)(a:I1 i f ks=0/\f=0):R=M:=by
 have:=h.out;rw[ga,ab a]at this;exact this.symm
def aef{α:Type}{L:List α}{k:Nat}{x:α}(h:L[k]?=Y x):L.drop k=x::L.drop (k+1):=by
 have a:=(List.getElem?_eq_some_iff.1 h);rw[lp a.1,a.2]
def iL.sl{a:Option Addr}{L c t:Nat}(h:iL W (O a L c) ks)(g:ks.length=L)(ht:t<=L):iL W (O (if c=t then a else Option.map (λx=>x.add t) a) (L-t) (c-t)) (ks.drop t):=by
 subst g;rcases h with⟨rfl,b,f,d⟩|⟨b,f,d,l,i⟩
 .exact .inl ⟨by simp,_,_,by rw[show([]:List Int).length-t=0 by simp]⟩
 .cases d;by_cases m:t=ks.length
  .exact .inl ⟨by rw[lr (by omega)],_,_,by rw[show ks.length-t=0 by omega]⟩
  .refine .inr ⟨b.add t,c-t,?_,by rw[ig];omega,λj k e=>?_⟩
   .rw[aa (by omega),ig];rfl
   .rw[sj]at e;rw[Addr.add_add];exact i (t+j) k e
def wC(w:World)(row:ByteArray)(m:List (Nat×Nat))(v:Value)(ks:List Int)(ca:Lib.fields row.data.toList=m.map λx=>AG x.1 x.2)(ce:∀x∈m,x.1<10/\x.2<3)(cb:row.size<4294967281)(b4:∀(j:Nat) b,row.data.toList[j]?=Y b->b.toNat<128)(cc:Lib.TabIs T w "strings.asciiSpace" .u8 Lib.asciiSpaceTab)(bv:iL w v ks)(b6:ks.length<=1048576)(cd:m.length<=1048576):
  Calls T 198 #[X row,v] w λe ck=>e= V (A2 (ga m ks))/\Ax w.heap.size w ck:=by
 have a6:=Tryz.strings_Fields row w cb b4 cc;rw[ca]at a6;obtain⟨H,br⟩:=aF (ga m ks);rw[br];have b2:Dy m ks H:=⟨br⟩;have ap:Ax w.heap.size w (w.alloc (.cells ((m.map λx=>AG x.1 x.2).map λa2=>A0 ⟨a2.toArray⟩).toArray 9)):=(ai _ w).alloc (ag _) _;have bo:=bv.below ap;have bn:∀g k p,m[g]?=Y (k,p)->(w.alloc (.cells ((m.map λx=>AG x.1 x.2).map λa2=>A0 ⟨a2.toArray⟩).toArray 9)).cell? ⟨w.heap.size,g,A3⟩=Y (X (wS k p)):=λg k p bw=>by
  rw[am _ _ _ _ _ _ (aB w _)];simp[bw,wS]
 obtain⟨a3,bd⟩:=aF m.length;have bk:=aq bd;have b3:=aq ce;have b7:(m.map λx=>AG x.1 x.2).length=a3:=by rw[bi,bd]
 rw[b7]at a6;rw[bd]at cd;obtain⟨cr,cs,rfl⟩:=bv.form;have b1:=aq b6;generalize w.alloc (.cells ((m.map λx=>AG x.1 x.2).map λa2=>A0 ⟨a2.toArray⟩).toArray 9)=cq at a6 ap bo bn;have b0:=aq bn;have bj:=aq bo;generalize cu:ks.length=lk at bj⊢;go_in;go_wp21
 refine a6.mono ?_;rintro e bE ⟨rfl,rfl⟩;go_wp21
 go_loop [1,14] (λcf bh=>∃(g:Nat) (d:List Int),g<=a3/\bh= Z .i64 g/\S (iL bE cf d/\d.length<=1048576)/\Dy (m.drop g) d H) (λ_ bh=>a3-(Q bh).toNat)
 case atStart=>exact⟨0,ks,aI _,rfl,⟨bj,b1⟩,b2⟩
 case round=>
  obtain⟨g,d,bw,rfl,a7,a8⟩:=hrel;obtain⟨I,J,rfl⟩:=a7.1.form;by_cases b8:g<a3
  .have ct:(0:Int)<=(g:Int):=by omega
   obtain⟨⟨k,p⟩,bf⟩:=cA bk.out b8;obtain⟨a5,bb⟩:=b3.out _ (dz bf);simp only at a5 bb;have b5:=b0.out g k p bf;have ad:S (Dy ((k,p)::m.drop (g+1)) d H):=by rw[aef bf]at a8;exact a8
   have ax:=λw=>aq2 k p a5 bb w;have kB:=λw=>aq3 k p a5 bb w;have L:=λc w=>GK k a5 c w;obtain⟨f,ar⟩:=aF d.length;have A:=aq ar;have ba:=a7.2;rw[ar]at ba;have z:S (iL bE (O I f J) d):=by rw[<-ar];exact a7.1
   rw[ar];have bD:=amD k p d;have bA:=amE k p d;obtain⟨C,bs⟩:=aF (I1 k p d);rw[bs]at bD bA;rw[ar]at bD;have B:=aq bs;have a9:=aq bA;generalize wS k p=cl at b5 ax;generalize wS1 k p=cn at ax kB;generalize wB k=cp at kB L;rcases(show p=0\/p=1\/p=2 by omega) with rfl|rfl|rfl
   .go_wp21
    refine(ax _).mono ?_;rintro e q ⟨rfl,rfl⟩;go_wp2_with fail;refine(kB _).mono ?_;rintro e q ⟨rfl,rfl⟩;go_wp2_with fail;go_loop [10] (λG=>∃a:Nat,G= Z .i64 a/\a<=C) (λG=>C-(Q G).toNat)
    case atStart=>exact⟨0,rfl,aI _⟩
    case round=>
     obtain⟨a,rfl,av⟩:=hrel;have K:=a9.out a av;have bx:(0:Int)<=(a:Int):=by omega
     by_cases au:a<C
     .obtain⟨a4,c,n,t⟩:=K.1 au;obtain⟨o,b,rfl,i,al⟩:=z.get n;have E:(a:Int)<(f:Int):=by omega
      obtain rfl:a=0:=by rcases a4 with h|h;exact absurd h (by decide);exact h
      rw[show o.add 0=o from by unfold Addr.add;rw[ab rfl]]at i;have l:=λw=>L c w;rw[t]at l;have u:=λw=>rJ c b w;have y:=λw=>fJ b w;unfold gg at i;generalize po (fC c)=an at i u;go_wp2_with (first|(go_at_call 236;refine(l _).mono ?_;rintro e q ⟨rfl,rfl⟩)|(go_at_call 303;refine(y _).mono ?_;rintro e q ⟨rfl,rfl⟩));go_round
      case rel=>exact⟨0+1,by go_num,by omega⟩
      case measure=>simp[Q];omega
     .obtain rfl:a=C:=by omega
      by_cases ao:a=0
      .subst ao;by_cases E:0<f
       .have F:(0:Int)<(f:Int):=by omega
        obtain⟨c,n⟩:=cA A.out E;have t:ms k c=M:=by
         cases h:ms k c
         .rfl
         .exact absurd (K.2 ⟨.inr rfl,c,n,h⟩) (by omega)
        obtain⟨o,b,af,i,al⟩:=z.get n;subst af;rw[show o.add 0=o from by unfold Addr.add;rw[ab rfl]]at i;have l:=λw=>L c w;rw[t]at l;have u:=λw=>rJ c b w;have y:=λw=>fJ b w;unfold gg at i;generalize po (fC c)=an at i u;go_wp2_with (first|(go_at_call 236;refine(l _).mono ?_;rintro e ak ⟨rfl,rfl⟩)|(go_at_call 303;refine(y _).mono ?_;rintro e ak ⟨rfl,rfl⟩));go_ret;exact⟨by rw[AH ad.out ⟨B.out,rfl⟩];rfl,ap⟩
       .have F:¬(0:Int)<(f:Int):=by omega
        go_wp2_with fail;go_ret;exact⟨by rw[AH ad.out ⟨B.out,rfl⟩];rfl,ap⟩
      .have s:S (Dy (m.drop (g+1)) (d.drop a) H):=by
        have h:=oA ad.out (by rw[B.out];omega);rw[B.out]at h;exact h
       have r:S (iL q (O (if J=a then I else Option.map (λx=>x.add a) I) (f-a) (J-a)) (d.drop a)/\(d.drop a).length<=1048576):=⟨z.sl A (by omega),by rw[ig,A.out];omega⟩;by_cases E:a<f
       .have F:(a:Int)<(f:Int):=by omega
        go_wp2_with fail;exact⟨⟨g+1,d.drop a,by omega,by go_num,r,s⟩,by simp[Q];omega⟩
       .have F:¬(a:Int)<(f:Int):=by omega
        go_wp2_with fail;exact⟨⟨g+1,d.drop a,by omega,by go_num,r,s⟩,by simp[Q];omega⟩
   .go_wp2_with fail;refine(ax _).mono ?_;rintro e q ⟨rfl,rfl⟩;go_wp2_with fail;refine(kB _).mono ?_;rintro e q ⟨rfl,rfl⟩;go_wp2_with fail;go_loop [10] (λG=>∃a:Nat,G= Z .i64 a/\a<=C) (λG=>C-(Q G).toNat)
    case atStart=>exact⟨0,rfl,aI _⟩
    case round=>
     obtain⟨a,rfl,av⟩:=hrel;have K:=a9.out a av;have bx:(0:Int)<=(a:Int):=by omega
     by_cases au:a<C
     .obtain⟨a4,c,n,t⟩:=K.1 au;obtain⟨o,b,rfl,i,al⟩:=z.get n;have E:(a:Int)<(f:Int):=by omega
      have l:=λw=>L c w;rw[t]at l;have u:=λw=>rJ c b w;have y:=λw=>fJ b w;unfold gg at i;generalize po (fC c)=an at i u;go_wp2_with (first|(go_at_call 236;refine(l _).mono ?_;rintro e q ⟨rfl,rfl⟩)|(go_at_call 303;refine(y _).mono ?_;rintro e q ⟨rfl,rfl⟩));go_round
      case rel=>exact⟨a+1,by go_num,by omega⟩
      case measure=>simp[Q];omega
     .obtain rfl:a=C:=by omega
      by_cases ao:a=0
      .subst ao;have s:S (Dy (m.drop (g+1)) d H):=by
        have h:=oA ad.out (by rw[B.out];omega);rw[B.out,jC]at h;exact h
       have r:S (iL q (O I f J) d/\d.length<=1048576):=⟨z.out,by rw[A.out];exact ba⟩;by_cases E:0<f
       .have F:(0:Int)<(f:Int):=by omega
        obtain⟨c,n⟩:=cA A.out E;have t:ms k c=M:=by
         cases h:ms k c
         .rfl
         .exact absurd (K.2 ⟨.inl (by first|rfl|trivial),c,n,h⟩) (by omega)
        obtain⟨o,b,af,i,al⟩:=z.get n;subst af;rw[show o.add 0=o from by unfold Addr.add;rw[ab rfl]]at i;have l:=λw=>L c w;rw[t]at l;have u:=λw=>rJ c b w;have y:=λw=>fJ b w;unfold gg at i;generalize po (fC c)=an at i u;go_wp2_with (first|(go_at_call 236;refine(l _).mono ?_;rintro e ak ⟨rfl,rfl⟩)|(go_at_call 303;refine(y _).mono ?_;rintro e ak ⟨rfl,rfl⟩));exact⟨⟨g+1,d,by omega,by go_num,r,s⟩,by simp[Q];omega⟩
       .have F:¬(0:Int)<(f:Int):=by omega
        go_wp2_with fail;exact⟨⟨g+1,d,by omega,by go_num,r,s⟩,by simp[Q];omega⟩
      .have s:S (Dy (m.drop (g+1)) (d.drop a) H):=by
        have h:=oA ad.out (by rw[B.out];omega);rw[B.out]at h;exact h
       have r:S (iL q (O (if J=a then I else Option.map (λx=>x.add a) I) (f-a) (J-a)) (d.drop a)/\(d.drop a).length<=1048576):=⟨z.sl A (by omega),by rw[ig,A.out];omega⟩;by_cases E:a<f
       .have F:(a:Int)<(f:Int):=by omega
        obtain⟨c,n⟩:=cA A.out E;have t:ms k c=M:=by
         cases h:ms k c
         .rfl
         .exact absurd (K.2 ⟨.inl (by first|rfl|trivial),c,n,h⟩) (by omega)
        obtain⟨o,b,af,i,al⟩:=z.get n;subst af;have l:=λw=>L c w;rw[t]at l;have u:=λw=>rJ c b w;have y:=λw=>fJ b w;unfold gg at i;generalize po (fC c)=an at i u;go_wp2_with (first|(go_at_call 236;refine(l _).mono ?_;rintro e ak ⟨rfl,rfl⟩)|(go_at_call 303;refine(y _).mono ?_;rintro e ak ⟨rfl,rfl⟩));exact⟨⟨g+1,d.drop a,by omega,by go_num,r,s⟩,by simp[Q];omega⟩
       .have F:¬(a:Int)<(f:Int):=by omega
        go_wp2_with fail;exact⟨⟨g+1,d.drop a,by omega,by go_num,r,s⟩,by simp[Q];omega⟩
   .go_wp2_with fail;refine(ax _).mono ?_;rintro e q ⟨rfl,rfl⟩;go_wp2_with fail;refine(kB _).mono ?_;rintro e q ⟨rfl,rfl⟩;go_wp2_with fail;go_loop [10] (λG=>∃a:Nat,G= Z .i64 a/\a<=C) (λG=>C-(Q G).toNat)
    case atStart=>exact⟨0,rfl,aI _⟩
    case round=>
     obtain⟨a,rfl,av⟩:=hrel;have K:=a9.out a av;have bx:(0:Int)<=(a:Int):=by omega
     by_cases au:a<C
     .obtain⟨a4,c,n,t⟩:=K.1 au;obtain⟨o,b,rfl,i,al⟩:=z.get n;have E:(a:Int)<(f:Int):=by omega
      obtain rfl:a=0:=by rcases a4 with h|h;exact absurd h (by decide);exact h
      rw[show o.add 0=o from by unfold Addr.add;rw[ab rfl]]at i;have l:=λw=>L c w;rw[t]at l;have u:=λw=>rJ c b w;have y:=λw=>fJ b w;unfold gg at i;generalize po (fC c)=an at i u;go_wp2_with (first|(go_at_call 236;refine(l _).mono ?_;rintro e q ⟨rfl,rfl⟩)|(go_at_call 303;refine(y _).mono ?_;rintro e q ⟨rfl,rfl⟩));go_round
      case rel=>exact⟨0+1,by go_num,by omega⟩
      case measure=>simp[Q];omega
     .obtain rfl:a=C:=by omega
      by_cases ao:a=0
      .subst ao;have s:S (Dy (m.drop (g+1)) d H):=by
        have h:=oA ad.out (by rw[B.out];omega);rw[B.out,jC]at h;exact h
       have r:S (iL q (O I f J) d/\d.length<=1048576):=⟨z.out,by rw[A.out];exact ba⟩;by_cases E:0<f
       .have F:(0:Int)<(f:Int):=by omega
        obtain⟨c,n⟩:=cA A.out E;have t:ms k c=M:=by
         cases h:ms k c
         .rfl
         .exact absurd (K.2 ⟨.inr rfl,c,n,h⟩) (by omega)
        obtain⟨o,b,af,i,al⟩:=z.get n;subst af;rw[show o.add 0=o from by unfold Addr.add;rw[ab rfl]]at i;have l:=λw=>L c w;rw[t]at l;have u:=λw=>rJ c b w;have y:=λw=>fJ b w;unfold gg at i;generalize po (fC c)=an at i u;go_wp2_with (first|(go_at_call 236;refine(l _).mono ?_;rintro e ak ⟨rfl,rfl⟩)|(go_at_call 303;refine(y _).mono ?_;rintro e ak ⟨rfl,rfl⟩));exact⟨⟨g+1,d,by omega,by go_num,r,s⟩,by simp[Q];omega⟩
       .have F:¬(0:Int)<(f:Int):=by omega
        go_wp2_with fail;exact⟨⟨g+1,d,by omega,by go_num,r,s⟩,by simp[Q];omega⟩
      .have s:S (Dy (m.drop (g+1)) (d.drop a) H):=by
        have h:=oA ad.out (by rw[B.out];omega);rw[B.out]at h;exact h
       have r:S (iL q (O (if J=a then I else Option.map (λx=>x.add a) I) (f-a) (J-a)) (d.drop a)/\(d.drop a).length<=1048576):=⟨z.sl A (by omega),by rw[ig,A.out];omega⟩;by_cases E:a<f
       .have F:(a:Int)<(f:Int):=by omega
        go_wp2_with fail;exact⟨⟨g+1,d.drop a,by omega,by go_num,r,s⟩,by simp[Q];omega⟩
       .have F:¬(a:Int)<(f:Int):=by omega
        go_wp2_with fail;exact⟨⟨g+1,d.drop a,by omega,by go_num,r,s⟩,by simp[Q];omega⟩
  .obtain rfl:g=a3:=by omega
   have bt:=a8.out;rw[lr (by rw[bk.out];exact ag _),ga]at bt;have b9:((d.length:Int)==0)=H:=by
    rw[<-bt];cases d with
    |nil=>rfl
    |cons x cv=>simp;omega
   have bl:=aq b9;generalize d.length=f at bl⊢;go_wp2_with fail;go_ret;exact⟨by rw[<-bl.out];rfl,ap⟩
def Ke{s t:ByteArray}(h:s≠t):(s.toList==t.toList)=M:=by
 rw[dv];intro a;apply h;rw[gy,gy]at a;cases s;cases t;simp only at a
 congr 1
 exact Array.toList_inj.1 a
def agm{s t:ByteArray}(h:s=t):(s.toList==t.toList)=U:=by subst h;simp
def aaB(w:World)(B C:Value)(c d:List ByteArray)(n:dk w B c)(o:dk w C d)(x:c.length<=1048576)(y:d.length<=1048576):
  Calls T 193 #[B,C] w λe ak=>e= V (A2 (decide (c=d)))/\Ax w.heap.size w ak:=by
 obtain⟨H,J,rfl⟩:=n.form;obtain⟨I,K,rfl⟩:=o.form;by_cases q:c.length=d.length
 .obtain⟨m,r⟩:=aF (decide (c=d));rw[r];obtain⟨f,k⟩:=aF c.length;have p:d.length=f:=by rw[<-q];exact k
  have h:=kJ k p r;have u:S (dk w (O H f J) c/\dk w (O I f K) d):=⟨by rw[<-k];exact n,by rw[<-p];exact o⟩;rw[k]at x⊢;rw[p];clear n o k p r q y;go_in;go_wp21
  go_loopw [13] (λt wr=>∃b:Nat,b<=f/\t= Z .i64 b/\S (∀a,a<b->c[a]?=d[a]?)/\Ax w.heap.size w wr) (λt _=>f-(Q t).toNat)
  case atStart=>exact⟨0,by omega,rfl,λa L=>by omega,ai _ _⟩
  case round=>
   obtain⟨b,au,rfl,v,j⟩:=hrel;by_cases z:b<f
   .obtain⟨ad,i⟩:=cA h.1 z;obtain⟨af,l⟩:=cA h.2.1 z;obtain⟨al,rfl,ao⟩:=(u.1.below j).get i;obtain⟨an,rfl,ap⟩:=(u.2.below j).get l;by_cases s:ad=af
    .subst s;have E:S (∀a,a<b+1->c[a]?=d[a]?):=λa L=>by
      rcases bC a b with g|g
      .exact v a g
      .obtain rfl:a=b:=by omega
       rw[i,l]
     clear i l;go_wp21
     go_quiet (fail)
     go_wp21
     exact⟨⟨b+1,by omega,by go_num,E,lK j _⟩,by simp[Q];omega⟩
    .have F:S (m=M):=by
      show m=M;rw[<-h.out.2.2];refine aD λe=>s ?_;rw[e,l]at i;exact(bc i).symm
     have ar:=Ke s;clear i l;go_wp21
     go_quiet (fail)
     go_wp21
     go_ret;exact⟨by rw[F.out];rfl,lK j _⟩
   .obtain rfl:b=f:=by omega
    have G:S (m=U):=by
     show m=U;rw[<-h.out.2.2];refine bp (List.ext_getElem? λa=>?_);rcases bC a b with g|g
     .exact v a g
     .rw[jr (by rw[h.out.1];exact g),jr (by rw[h.out.2.1];exact g)]
    go_wp21
    go_ret;exact⟨by rw[G.out];rfl,j⟩
 .rw[aD (λe=>q (by rw[e]))];have A:¬(c.length:Int)=(d.length:Int):=by omega
  generalize c.length=av at A x⊢;generalize d.length=ax at A y⊢;clear n o q;go_in;go_wp2;go_ret;exact⟨rfl,ai _ _⟩
def AI(a N:Nd):Bool:=decide (a.op=N.op/\a.n=N.n/\a.x=N.x/\a.nm=N.nm)
def Dz(w:World)(b N:Nd)(ad af vn vk:Value)(l:dk w ad b.nm)(m:dk w vn N.nm)(an:∃a n c,af= O a n c)(al:∃a n c,vk= O a n c)(ao:b.nm.length<=1048576)(ap:N.nm.length<=1048576):
  Calls T 127 #[jl b ad af,jl N vn vk] w λe ar=>e= V (A2 (AI b N))/\Ax w.heap.size w ar:=by
 have k:∀g h,Ax w.heap.size w ((w.alloc g).alloc h):=λg h=>((ai _ w).alloc (ag _) g).alloc (by simp) h;have f:=λg h=>aaB ((w.alloc g).alloc h) ad vn b.nm N.nm (l.below (k g h)) (m.below (k g h)) ao ap;obtain⟨a0,a8,rfl⟩:=l.form;obtain⟨a5,a9,rfl⟩:=m.form;obtain⟨a6,bd,ba,rfl⟩:=an;obtain⟨a7,bf,bb,rfl⟩:=al;unfold jl AI;generalize b.nm.length=au at f⊢;generalize N.nm.length=av at f⊢;by_cases i:b.op=N.op
 .by_cases o:b.n=N.n
  .by_cases j:b.x=N.x
   .have e:decide (b.op=N.op/\b.n=N.n/\b.x=N.x/\b.nm=N.nm)=decide (b.nm=N.nm):=by
     by_cases p:b.nm=N.nm
     .rw[bp p,bp ⟨i,o,j,p⟩]
     .rw[aD p,aD (λd=>p d.2.2.2)]
    rw[e];have L:=agm j;generalize decide (b.nm=N.nm)=ax at f⊢;clear e j l m;obtain⟨r,q,z,t,y,u,A,v,s⟩:=b;obtain⟨C,B,J,F,I,G,K,H,E⟩:=N;simp only at i o L⊢;go_in;go_wp2_with (go_at_call 193;refine(f _ _).mono ?_;rintro e bh ⟨rfl,ak⟩);go_ret;exact⟨rfl,(k _ _).trans (ak.mono (by simp;omega))⟩
   .rw[aD (λd=>j d.2.2.1)];have L:=Ke j;clear j l m f;obtain⟨r,q,z,t,y,u,A,v,s⟩:=b;obtain⟨C,B,J,F,I,G,K,H,E⟩:=N;simp only at i o L⊢;go_in;go_wp2;go_ret;exact⟨rfl,k _ _⟩
  .rw[aD (λd=>o d.2.1)];clear l m f;obtain⟨r,q,z,t,y,u,A,v,s⟩:=b;obtain⟨C,B,J,F,I,G,K,H,E⟩:=N;simp only at i o⊢;go_in;go_wp2;go_ret;exact⟨rfl,k _ _⟩
 .rw[aD (λd=>i d.1)];clear l m f;obtain⟨r,q,z,t,y,u,A,v,s⟩:=b;obtain⟨C,B,J,F,I,G,K,H,E⟩:=N;simp only at i⊢;go_in;go_wp2;go_ret;exact⟨rfl,k _ _⟩
attribute [local go_sem] lu
