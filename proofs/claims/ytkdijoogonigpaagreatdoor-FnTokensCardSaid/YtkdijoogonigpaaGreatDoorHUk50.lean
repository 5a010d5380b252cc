import Derived.Test.YtkdijoogonigpaaGreatDoorHUk43
import Derived.Test.YtkdijoogonigpaaGreatDoorHUk41
import Derived.Test.YtkdijoogonigpaaGreatDoorHUk44
import Derived.Test.YtkdijoogonigpaaGreatDoorHUk37
import Derived.Test.YtkdijoogonigpaaGreatDoorHUk45
import Derived.Test.YtkdijoogonigpaaGreatDoorHUk46
import Derived.Test.YtkdijoogonigpaaGreatDoorHUk47
import Derived.Test.YtkdijoogonigpaaGreatDoorHUk48
import Derived.Test.YtkdijoogonigpaaGreatDoorHUk49
set_option linter.all false
set_option maxRecDepth 100000
set_option maxHeartbeats 12800000
open Go.Value renaming slice->O,int->R,string->X
open Option renaming some->Q,none->Z
open Go.IntKind renaming i64->S
open Go renaming World->T,Calls->B0,Value->B3
open ByteArray renaming empty->U
open Go.Proofs.Tryz renaming prog->V
open Go.RowKit renaming Hid->Y,Below->A2,intOf->B2
open Go.Obj renaming cells->Ax
open Go.Ending renaming returned->A0
open Bool renaming false->Br,true->B1
namespace Go.Proofs.YtkdijoogonigpaaGreatDoor
open Go.Lib (strCells strCells_length)
open Go.RowKit Go.Maps Go.WideMaps
section
variable {E : Bs} {W w : World} {y : Int} {v tv : Value} {t : ByteArray} {ts : List Tk}
theorem Lo.conv(a:Lo E W w y v t tv ts):(convert 22 9 v).run V w= .ok (X t) w:=by
 rcases cL a.out with⟨c,rfl⟩|⟨e,d,rfl⟩
 ·have b:t=U:=by
   have:t.data=#[]:=Array.eq_empty_of_size_eq_zero c;cases t;simp_all;first|rfl|done
  rw[b];exact qI w
 ·exact Hc a.out
theorem Lo.cells{a:Option Addr}{n c:Nat}(h:Lo E W w y v t (O a n c) ts)(m:ts.length=n){i:Nat}{d:Tk}(j:ts[i]?=Q d):∃b,a=Q ⟨b,0,Z⟩/\w.cell? ⟨b,i*6,Z⟩=Q (R S d.k)/\w.cell? ⟨b,i*6+1,Z⟩=Q (R S d.f)/\w.cell? ⟨b,i*6+2,Z⟩=Q (R S d.t)/\w.cell? ⟨b,i*6+3,Z⟩=Q (R S d.l)/\w.cell? ⟨b,i*6+4,Z⟩=Q (R S d.n)/\w.cell? ⟨b,i*6+5,Z⟩=Q (X d.x):=by
 subst m;have s:i<ts.length:=(List.getElem?_eq_some_iff.1 j).1;rcases cL h.tok with⟨r,_⟩|⟨b,p,g⟩
 ·omega
 ·have q:=g;cases g;have k:=h.tok;refine⟨b,rfl,?_⟩;have c:∀e,e<6->w.cell? ⟨b,i*6+e,Z⟩=(cTk d)[e]?:=fun e o=>by rw[k.cellAt (i*6+e) (by omega),Ao ts i e d j o]
  exact⟨c 0 (by omega),c 1 (by omega),c 2 (by omega),c 3 (by omega),c 4 (by omega),c 5 (by omega)⟩
end
theorem w5t{s t p:ByteArray}{a:Tk}{n:Nat}(b:a.k=5)(c:uT t+F8 s a<=n)(d:uT p<=10):uT (t++p)<=n:=by
 rw[ft];have:F8 s a=10:=by unfold F8;rw[aa (by omega),ab b]
 omega
theorem w7t{t a p:ByteArray}{n:Nat}(b:uT t+uT a+10<=n)(c:uT p<=10):uT (t++a++p)<=n:=by
 rw[ft,ft];omega
theorem LG(s:ByteArray)(ts:List Tk)(i:Nat):Ar s (ts.take i)<=Ar s ts:=by
 have:Ar s ts=Ar s (ts.take i)+Ar s (ts.drop i):=by unfold Ar;rw[<-List.sum_append,<-eL,qy]
 omega
theorem af1{s t:ByteArray}{ts:List Tk}{i n:Nat}(a:uT t<=Ar s (ts.take i))(b:Ar s ts<=n):uT t<=n:=by
 have:=LG s ts i;omega
theorem aez{E:Bs}{W:T}{y:Int}(a3:Cu E W y)(ev:y<=30000000)(s:ByteArray)(dd:s.size<=65536):B0 V 59 #[cV E,X s] W fun e cn=>∃t:ByteArray,e= A0 (X t)/\(t.size<=1048576/\uT t<=oh 0 (cD s))/\Cu E cn 40000000/\A2 E.base W cn:=by
 have o:=Ap W s dd;have a5:=acx s;have cb:(oz s).1.length<=65537:=by have:=ab0 s;omega
 have a6:=Lk s;unfold TkP at o;generalize (oz s).1=ts at o a5 cb a6;generalize (oz s).2=e3 at o;obtain⟨n,af⟩:=aD ts.length;rw[af]at o cb;go_in;go_wp2_with fail;refine o.mono ?_;rintro e w1 ⟨br,b0,rfl,cc,h⟩;have da:=a3.lo;have cr:Lo E W w1 y (O Z 0 0) ⟨#[]⟩ (O br n b0) ts:=⟨a3.below h a3.lt,dB _ _ _ _,by rw[af];exact rE cc (fun c6 _ ef eg=>⟨rfl,by omega⟩),h.mono da.2⟩;have i:=gy af a5 a6;clear o cc h af a5 a6;go_wp2_with fail;go_loopw [7,20] (fun v a8 wr=>∃(a:Nat) (t:ByteArray) (C:Int),a8= R S a/\a<=n/\Lo E W wr (y+3*a) v t (O br n b0) ts/\0<=C/\(t.size:Int)<=C+10*a/\(∀b,ts[a]?=Q b->C<=b.f)/\C<=65536/\Y (uT t<=Ar s (ts.take a))) (fun _ a8 _=>n-(B2 a8).toNat)
 case atStart=>exact⟨0,⟨#[]⟩,0,rfl,aG _,by simpa using cr,by decide,by decide,fun b j=>(i.out.2.1.each b (dC j)).1,by decide,aG _⟩
 case round=>
  obtain⟨a,t,C,rfl,el,c,ep,eq,df,er,an⟩:=hrel;by_cases ej:a<n
  ·obtain⟨b,j⟩:∃b,ts[a]?=Q b:=⟨_,aF (by have:=i.out.1;omega)⟩;have eh:=i.out.2.1.each b (dC j);have bp:Y (uT t+F8 s b<=Ar s (ts.take (a+1))):=by
    rw[iq,j];show _<=Ar s (ts.take a++[b]);rw[ux];have:=an.out;show _<=_;omega
   have es:=df b j;obtain⟨c6,rfl,b1,c1,cz,d8,d9,ea⟩:=c.cells i.out.1 j;have ek:(0:Int)<=(a:Int):=by omega
   have c9:(a:Int)<(n:Int):=by omega
   have ak:∀a2,ts[a+1]?=Q a2->b.t<=a2.f:=fun a2 c7=>i.out.2.1.at_ j c7;have en:=c.out.1;by_cases a4:b.k=6
   ·rw[a4]at b1;have ds:=fun l=>(c.below (dF wr l)).conv;have bo:=ar fun l=>c.below (dF wr l);go_wp2_with fail;go_ret;exact⟨t,rfl,⟨by omega,af1 an.out i.out.2.2⟩,(bo.out _).cu.wide (by omega),(bo.out _).bel⟩
   have ee:(b.k==6)=Br:=by simpa using a4
   obtain⟨f,b9⟩:=fe (show 0<=b.f by omega);obtain⟨m,ce⟩:=fe (show 0<=b.t by omega);rw[b9]at c1;rw[ce]at cz;have ca:f<=m/\m<=s.size:=by omega
   have c8:(s.extract f m).size<=m-f:=by rw[je];omega
   by_cases L:b.k=5
   ·rw[L]at b1;have u:=ar fun (cm d0:Obj)=>fv (((c.below (dF wr cm)).below (dF (wr.alloc cm) d0)).cu) 6 (by decide) (by decide) (by omega);go_wp2_with fail;refine(u.out _ _).mono ?_;rintro e d3 ⟨p,rfl,ew,bj,H,bs⟩;have ct:=((c.below (dF wr _)).below (dF (wr.alloc _) _)).kb bj H bs;have bE:=H.blk (((dF (wr.alloc _) _).block wr.heap.size (by simp)).trans (ax wr _)) (by decide);have a9:=H.blk (ax (wr.alloc _) _) (by decide);rw[dI]at a9;have dc:=fun a=>ay d3 (wr.heap.size+1) a _ _ _ a9;clear u bj H bs a9;rcases(show p=0\/p=1\/p=2\/p=3\/p=4\/p=5 by omega) with rfl|rfl|rfl|rfl|rfl|rfl;all_goals
     go_wp2_with (at_builtin;refine ct.app _ 5 (by decide) (by omega) rfl _ _ rfl rfl rfl ?_;intro d1 bd d dk r;have K:=r _ _ _ _ bE (by decide);have ck:=fun a=>ay bd wr.heap.size a _ _ _ K);clear dc bE r;refine dz (tH _ _) ?_;go_wp2_with fail;go_roundw
     case rel=>exact⟨a+1,_,b.t,by go_num,by omega,⟨d.cu.wide (by omega),d.out,d.tok,d.bel⟩,by omega,by omega,ak,by omega,w5t L bp.out (by decide)⟩
     case measure=>simp[B2];omega
   ·have ec:(b.k==5)=Br:=by simpa using L
    have b4:=fun l=>c.below (dF wr l);have b7:=fun cF=>ax wr (Ax cF 29);have al:=cH b4 b7;clear b4 b7;go_wp2_with (at_builtin;refine(al.out.1 _).app (s.extract f m) (m-f) c8 (by omega) rfl _ _ rfl rfl rfl ?_;intro d1 bd d dk r;have K:=r _ _ _ _ (al.out.2 _) (by decide);have ck:=fun a=>ay bd wr.heap.size a _ _ _ K);clear r al;have am:=ar (sF s ca.1 ca.2);have cf:F8 s b=uR s f m+Ha b.k:=by
     unfold F8;rw[aa a4,aa L,b9,ce];rfl
    have ap:=cH bp.out cf;clear cf;refine dz (tH _ _) ?_;cases h:Le b.k
    case false=>
     have G:Y (Ha b.k=6):=by show _=_;unfold Ha;rw[h];rfl
     clear h;have B:=Lp d.cu (by omega);go_wp2_with fail;refine B.mono ?_;rintro e d5 ⟨bb,rfl,⟨a7,dg⟩,q,x,z⟩;have a1:=d.kb q x z;clear B q x z;go_wp2_with (at_builtin;refine a1.app bb 5 a7 (by omega) rfl _ _ rfl rfl rfl ?_;intro d2 d6 g dn cq);go_roundw
     case rel=>exact⟨a+1,_,b.t,by go_num,by omega,⟨g.cu.wide (by omega),g.out,g.tok,g.bel⟩,by omega,by omega,ak,by omega,by show _<=_;rw[ft,ft,am.out];have:=ap.out;have:=G.out;omega⟩
     case measure=>simp[B2];omega
    case true=>
     have G:Y (Ha b.k=10):=by show _=_;unfold Ha;rw[h];rfl
     clear h;have cl:=fv d.cu 4 (by decide) (by decide) (by omega);go_wp2_with fail;refine cl.mono ?_;rintro e F ⟨cp,rfl,ex,bl,av,bt⟩;have I:=d.kb bl av bt;have cy:=av.blk K (by decide);have et:=fun a=>ay F wr.heap.size a _ _ _ cy;clear cl bl av bt ck;by_cases b3:cp=0
     ·subst b3;have u:=ar fun (l:Obj)=>fv ((I.below (dF F l)).cu) 3 (by decide) (by decide) (by omega);go_wp2_with fail;refine(u.out _).mono ?_;rintro e d4 ⟨bf,rfl,eF,bn,a0,bw⟩;have cv:=(I.below (dF F _)).kb bn a0 bw;have dx:=a0.blk (ax F _) (by decide);have em:=fun a=>ay d4 F.heap.size a _ _ _ dx;clear u bn a0 bw;rcases(show bf=0\/bf=1\/bf=2 by omega) with rfl|rfl|rfl;all_goals
       go_wp2_with (at_builtin;refine cv.app _ 5 (by decide) (by omega) rfl _ _ rfl rfl rfl ?_;intro e1 e2 J e0 d7);go_roundw
       case rel=>exact⟨a+1,_,b.t,by go_num,by omega,⟨J.cu.wide (by omega),J.out,J.tok,J.bel⟩,by omega,by omega,ak,by omega,w7t (by rw[am.out];have:=ap.out;have:=G.out;omega) (by decide)⟩
       case measure=>simp[B2];omega
     ·have eb:(cp==0)=Br:=by simpa using b3
      have B:=Lp I.cu (by omega);go_wp2_with fail;refine B.mono ?_;rintro e d5 ⟨bb,rfl,⟨a7,dg⟩,q,x,z⟩;have a1:=I.kb q x z;clear B q x z;go_wp2_with (at_builtin;refine a1.app bb 5 a7 (by omega) rfl _ _ rfl rfl rfl ?_;intro d2 d6 g dn cq);go_roundw
      case rel=>exact⟨a+1,_,b.t,by go_num,by omega,⟨g.cu.wide (by omega),g.out,g.tok,g.bel⟩,by omega,by omega,ak,by omega,by show _<=_;rw[ft,ft,am.out];have:=ap.out;have:=G.out;omega⟩
      case measure=>simp[B2];omega
  ·have c9:¬(a:Int)<(n:Int):=by omega
   have ds:=c.conv;go_wp2_with fail;go_ret;exact⟨t,rfl,⟨by omega,af1 an.out i.out.2.2⟩,c.cu.wide (by omega),c.bel⟩
end Go.Proofs.YtkdijoogonigpaaGreatDoor
namespace Go.Proofs.YtkdijoogonigpaaGreatDoor
open Go.RowKit
theorem LH(w0:T)(p1:Addr)(n c1:Nat)(ns:List Nd)(z:bI w0 (O (Q p1) n c1) ns)(C:fI w0 p1 ns)(a8:ns.length=n)(b7:n<=1048576)(tab:Nat)(i:Nat)(b2:i<n)(N:Nd)(x:nodeI ns i=N)(b6:N.ks.length<=1048576)(F:N.k=28)(G:N.k=31->1<=N.op/\N.op<=18)(I:Int)(b5:¬dy N.k N.op<I)(l:ByteArray)(a5:∀vn vk,cj w0 vn N.nm->aJ w0 vk N.ks->Wr w0 (O (Q p1) n c1) tab 139 #[pW w0,cE N vn vk,X ⟨#[32,97,110,100,32]⟩,R S (dy N.k N.op)] l):
  Wr w0 (O (Q p1) n c1) tab 110 #[pW w0,R S (i:Int),R S I] (l):=by
 intro h w j a6;obtain⟨d,M,g,c,a,e,b⟩:=dH z C (show i<ns.length by omega);rw[x]at b;have a7:=j.lt;obtain⟨z0,bx,bE⟩:=j.cells;have a3:=b.hL;have a4:=b.hM;obtain⟨bb,bd,bf,bj,bl,bn,bo,bp,br,_,_⟩:=b.rd w j.bel;have q:Y (Bx w0 (O (Q p1) n c1) tab w N (O d M g) (O c a e) h (w.alloc (fx N (O d M g) (O c a e)))):=Bx.new j N _ _;try simp only[ae]at a6
 have b3:(i:Int)<(n:Int):=by omega
 have b4:(0:Int)<=(i:Int):=by omega
 have p:Y (∀(h:ByteArray)(W:T),Bx w0 (O (Q p1) n c1) tab w N (O d M g) (O c a e) h W->qp W w.heap.size N (O d M g) (O c a e)):=fun h W a2=>a2.cells;have b1:=gE F 28 rfl;have r:Y (∀w:T,B0 V 138 #[cE N (O d M g) (O c a e)] w fun u bs=>u= A0 (R S (dy N.k N.op))/\A2 w.heap.size w bs):=fun w=>dA N _ _ G w;have s:Y (Wr w0 (O (Q p1) n c1) tab 139 _ (l)):=a5 (O d M g) (O c a e) b.nm b.ks;have b0:=ar b;obtain⟨K,L,af,al,am,ap,av,a0,a1⟩:=p.out _ _ q.out;clear j b z C x a8 bE bx a3 a4 F G;unfold cE at r s;generalize a9:dy N.k N.op=b8 at *;clear a9;go_in;go_wp2_with fail;refine lc (r.out _) fun bt B=>?_;have o:Y (Bx w0 (O (Q p1) n c1) tab w N (O d M g) (O c a e) h bt):=q.out.below B;obtain⟨K,L,af,al,am,ap,av,a0,a1⟩:=p.out _ _ o.out;clear B bb bd bf bj bl bn bo bp br z0;go_wp2_with fail;refine(s.out _ _ o.out.pr (by(try simp only[ae]);omega)).mono ?_;rintro u bw ⟨rfl,J,H⟩;have m:Y (Bx w0 (O (Q p1) n c1) tab w N (O d M g) (O c a e) (h++(l)) bw):=o.out.next a7 J H
 obtain⟨K,L,af,al,am,ap,av,a0,a1⟩:=p.out _ _ m.out;clear J H;go_wp2_with fail;go_end0
 refine⟨rfl,?_,m.out.kq⟩;have:=m.out.pr;simpa only[aB] using this
theorem ab7(w0:T)(p1:Addr)(n c1:Nat)(ns:List Nd)(B:bI w0 (O (Q p1) n c1) ns)(F:fI w0 p1 ns)(a8:ns.length=n)(b8:n<=1048576)(tab:Nat)(i:Nat)(b3:i<n)(N:Nd)(z:nodeI ns i=N)(b7:N.ks.length<=1048576)(q:N.k=29)(G:N.k=31->1<=N.op/\N.op<=18)(I:Int)(b6:¬dy N.k N.op<I)(l:ByteArray)(a5:∀vn vk,cj w0 vn N.nm->aJ w0 vk N.ks->Wr w0 (O (Q p1) n c1) tab 139 #[pW w0,cE N vn vk,X ⟨#[32,111,114,32]⟩,R S (dy N.k N.op)] l):
  Wr w0 (O (Q p1) n c1) tab 110 #[pW w0,R S (i:Int),R S I] (l):=by
 intro h w j a6;obtain⟨d,M,g,c,a,e,b⟩:=dH B F (show i<ns.length by omega);rw[z]at b;have a7:=j.lt;obtain⟨z0,bx,bE⟩:=j.cells;have a3:=b.hL;have a4:=b.hM;obtain⟨bb,bd,bf,bj,bl,bn,bo,bp,br,_,_⟩:=b.rd w j.bel;have r:Y (Bx w0 (O (Q p1) n c1) tab w N (O d M g) (O c a e) h (w.alloc (fx N (O d M g) (O c a e)))):=Bx.new j N _ _;try simp only[ae]at a6
 have b4:(i:Int)<(n:Int):=by omega
 have b5:(0:Int)<=(i:Int):=by omega
 have p:Y (∀(h:ByteArray)(W:T),Bx w0 (O (Q p1) n c1) tab w N (O d M g) (O c a e) h W->qp W w.heap.size N (O d M g) (O c a e)):=fun h W a2=>a2.cells;have b1:=bu q 28 rfl;have b2:=gE q 29 rfl;have s:Y (∀w:T,B0 V 138 #[cE N (O d M g) (O c a e)] w fun x bs=>x= A0 (R S (dy N.k N.op))/\A2 w.heap.size w bs):=fun w=>dA N _ _ G w;have u:Y (Wr w0 (O (Q p1) n c1) tab 139 _ (l)):=a5 (O d M g) (O c a e) b.nm b.ks;have b0:=ar b;obtain⟨K,L,af,al,am,ap,av,a0,a1⟩:=p.out _ _ r.out;clear j b B F z a8 bE bx a3 a4 q G;unfold cE at s u;generalize a9:dy N.k N.op=b9 at *;clear a9;go_in;go_wp2_with fail;refine lc (s.out _) fun bt C=>?_;have o:Y (Bx w0 (O (Q p1) n c1) tab w N (O d M g) (O c a e) h bt):=r.out.below C;obtain⟨K,L,af,al,am,ap,av,a0,a1⟩:=p.out _ _ o.out;clear C bb bd bf bj bl bn bo bp br z0;go_wp2_with fail;refine(u.out _ _ o.out.pr (by(try simp only[ae]);omega)).mono ?_;rintro x bw ⟨rfl,J,H⟩;have m:Y (Bx w0 (O (Q p1) n c1) tab w N (O d M g) (O c a e) (h++(l)) bw):=o.out.next a7 J H
 obtain⟨K,L,af,al,am,ap,av,a0,a1⟩:=p.out _ _ m.out;clear J H;go_wp2_with fail;go_end0
 refine⟨rfl,?_,m.out.kq⟩;have:=m.out.pr;simpa only[aB] using this
theorem Ee(w0:T)(p1:Addr)(n c1:Nat)(ns:List Nd)(B:bI w0 (O (Q p1) n c1) ns)(F:fI w0 p1 ns)(a8:ns.length=n)(ca:n<=1048576)(tab:Nat)(i:Nat)(b5:i<n)(N:Nd)(z:nodeI ns i=N)(b9:N.ks.length<=1048576)(l:N.k=30)(G:N.k=31->1<=N.op/\N.op<=18)(I:Int)(b8:¬dy N.k N.op<I)(m:ByteArray)(a5:∀vn vk,cj w0 vn N.nm->aJ w0 vk N.ks->Wr w0 (O (Q p1) n c1) tab 140 #[pW w0,cE N vn vk] m):
  Wr w0 (O (Q p1) n c1) tab 110 #[pW w0,R S (i:Int),R S I] (m):=by
 intro h w j a6;obtain⟨d,M,g,c,a,e,b⟩:=dH B F (show i<ns.length by omega);rw[z]at b;have a7:=j.lt;obtain⟨z0,bx,bE⟩:=j.cells;have a3:=b.hL;have a4:=b.hM;obtain⟨bb,bd,bf,bj,bl,bn,bo,bp,br,_,_⟩:=b.rd w j.bel;have r:Y (Bx w0 (O (Q p1) n c1) tab w N (O d M g) (O c a e) h (w.alloc (fx N (O d M g) (O c a e)))):=Bx.new j N _ _;try simp only[ae]at a6
 have b6:(i:Int)<(n:Int):=by omega
 have b7:(0:Int)<=(i:Int):=by omega
 have q:Y (∀(h:ByteArray)(W:T),Bx w0 (O (Q p1) n c1) tab w N (O d M g) (O c a e) h W->qp W w.heap.size N (O d M g) (O c a e)):=fun h W a2=>a2.cells;have b1:=bu l 28 rfl;have b2:=bu l 29 rfl;have b4:=bu l 31 rfl;have b3:=gE l 30 rfl;have s:Y (∀w:T,B0 V 138 #[cE N (O d M g) (O c a e)] w fun x bs=>x= A0 (R S (dy N.k N.op))/\A2 w.heap.size w bs):=fun w=>dA N _ _ G w;have u:Y (Wr w0 (O (Q p1) n c1) tab 140 _ (m)):=a5 (O d M g) (O c a e) b.nm b.ks;have b0:=ar b;obtain⟨K,L,af,al,am,ap,av,a0,a1⟩:=q.out _ _ r.out;clear j b B F z a8 bE bx a3 a4 l G;unfold cE at s u;generalize a9:dy N.k N.op=cb at *;clear a9;go_in;go_wp2_with fail;refine lc (s.out _) fun bt C=>?_;have p:Y (Bx w0 (O (Q p1) n c1) tab w N (O d M g) (O c a e) h bt):=r.out.below C;obtain⟨K,L,af,al,am,ap,av,a0,a1⟩:=q.out _ _ p.out;clear C bb bd bf bj bl bn bo bp br z0;go_wp2_with fail;refine(u.out _ _ p.out.pr (by(try simp only[ae]);omega)).mono ?_;rintro x bw ⟨rfl,J,H⟩;have o:Y (Bx w0 (O (Q p1) n c1) tab w N (O d M g) (O c a e) (h++(m)) bw):=p.out.next a7 J H
 obtain⟨K,L,af,al,am,ap,av,a0,a1⟩:=q.out _ _ o.out;clear J H;go_wp2_with fail;go_end0
 refine⟨rfl,?_,o.out.kq⟩;have:=o.out.pr;simpa only[aB] using this
theorem Ef(w0:T)(p1:Addr)(n c1:Nat)(ns:List Nd)(B:bI w0 (O (Q p1) n c1) ns)(F:fI w0 p1 ns)(a8:ns.length=n)(cf:n<=1048576)(tab:Nat)(i:Nat)(b9:i<n)(N:Nd)(z:nodeI ns i=N)(ce:N.ks.length<=1048576)(a:N.k=35)(G:N.k=31->1<=N.op/\N.op<=18)(I:Int)(cc:¬dy N.k N.op<I)(m:ByteArray)(a5:∀vn vk,cj w0 vn N.nm->aJ w0 vk N.ks->Wr w0 (O (Q p1) n c1) tab 142 #[pW w0,cE N vn vk] m):
  Wr w0 (O (Q p1) n c1) tab 110 #[pW w0,R S (i:Int),R S I] (m):=by
 intro j w l a6;obtain⟨e,M,h,d,b,g,c⟩:=dH B F (show i<ns.length by omega);rw[z]at c;have a7:=l.lt;obtain⟨z0,bx,bE⟩:=l.cells;have a3:=c.hL;have a4:=c.hM;obtain⟨bb,bd,bf,bj,bl,bn,bo,bp,br,_,_⟩:=c.rd w l.bel;have r:Y (Bx w0 (O (Q p1) n c1) tab w N (O e M h) (O d b g) j (w.alloc (fx N (O e M h) (O d b g)))):=Bx.new l N _ _;try simp only[ae]at a6
 have ca:(i:Int)<(n:Int):=by omega
 have cb:(0:Int)<=(i:Int):=by omega
 have q:Y (∀(j:ByteArray)(W:T),Bx w0 (O (Q p1) n c1) tab w N (O e M h) (O d b g) j W->qp W w.heap.size N (O e M h) (O d b g)):=fun j W a2=>a2.cells;have b1:=bu a 28 rfl;have b2:=bu a 29 rfl;have b4:=bu a 31 rfl;have b3:=bu a 30 rfl;have b5:=bu a 32 rfl;have b6:=bu a 33 rfl;have b7:=bu a 34 rfl;have b8:=gE a 35 rfl;have s:Y (∀w:T,B0 V 138 #[cE N (O e M h) (O d b g)] w fun x bs=>x= A0 (R S (dy N.k N.op))/\A2 w.heap.size w bs):=fun w=>dA N _ _ G w;have u:Y (Wr w0 (O (Q p1) n c1) tab 142 _ (m)):=a5 (O e M h) (O d b g) c.nm c.ks;have b0:=ar c;obtain⟨K,L,af,al,am,ap,av,a0,a1⟩:=q.out _ _ r.out;clear l c B F z a8 bE bx a3 a4 a G;unfold cE at s u;generalize a9:dy N.k N.op=cl at *;clear a9;go_in;go_wp2_with fail;refine lc (s.out _) fun bt C=>?_;have p:Y (Bx w0 (O (Q p1) n c1) tab w N (O e M h) (O d b g) j bt):=r.out.below C;obtain⟨K,L,af,al,am,ap,av,a0,a1⟩:=q.out _ _ p.out;clear C bb bd bf bj bl bn bo bp br z0;go_wp2_with fail;refine(u.out _ _ p.out.pr (by(try simp only[ae]);omega)).mono ?_;rintro x bw ⟨rfl,J,H⟩;have o:Y (Bx w0 (O (Q p1) n c1) tab w N (O e M h) (O d b g) (j++(m)) bw):=p.out.next a7 J H
 obtain⟨K,L,af,al,am,ap,av,a0,a1⟩:=q.out _ _ o.out;clear J H;go_wp2_with fail;go_end0
 refine⟨rfl,?_,o.out.kq⟩;have:=o.out.pr;simpa only[aB] using this
theorem Eg(w0:T)(p1:Addr)(n c1:Nat)(ns:List Nd)(z:bI w0 (O (Q p1) n c1) ns)(C:fI w0 p1 ns)(a8:ns.length=n)(cm:n<=1048576)(tab:Nat)(i:Nat)(cb:i<n)(N:Nd)(x:nodeI ns i=N)(cl:N.ks.length<=1048576)(a5:20<=N.k/\N.k<=27)(F:N.k=31->1<=N.op/\N.op<=18)(H:Int)(cf:¬dy N.k N.op<H)(l:ByteArray)(a4:∀vn vk,cj w0 vn N.nm->aJ w0 vk N.ks->Wr w0 (O (Q p1) n c1) tab 143 #[pW w0,cE N vn vk] l):
  Wr w0 (O (Q p1) n c1) tab 110 #[pW w0,R S (i:Int),R S H] (l):=by
 intro h w j a6;obtain⟨d,M,g,c,a,e,b⟩:=dH z C (show i<ns.length by omega);rw[x]at b;have a7:=j.lt;obtain⟨z0,bx,bE⟩:=j.cells;have a2:=b.hL;have a3:=b.hM;obtain⟨bb,bd,bf,bj,bl,bn,bo,bp,br,_,_⟩:=b.rd w j.bel;have q:Y (Bx w0 (O (Q p1) n c1) tab w N (O d M g) (O c a e) h (w.alloc (fx N (O d M g) (O c a e)))):=Bx.new j N _ _;try simp only[ae]at a6
 have cc:(i:Int)<(n:Int):=by omega
 have ce:(0:Int)<=(i:Int):=by omega
 have p:Y (∀(h:ByteArray)(W:T),Bx w0 (O (Q p1) n c1) tab w N (O d M g) (O c a e) h W->qp W w.heap.size N (O d M g) (O c a e)):=fun h W a1=>a1.cells;have b1:(N.k==28)=Br:=by simp;omega
 have b2:(N.k==29)=Br:=by simp;omega
 have b4:(N.k==31)=Br:=by simp;omega
 have b3:(N.k==30)=Br:=by simp;omega
 have b5:(N.k==32)=Br:=by simp;omega
 have b6:(N.k==33)=Br:=by simp;omega
 have b7:(N.k==34)=Br:=by simp;omega
 have b8:(N.k==35)=Br:=by simp;omega
 have b9:(N.k==36)=Br:=by simp;omega
 have ca:(N.k==37)=Br:=by simp;omega
 have r:Y (∀w:T,B0 V 138 #[cE N (O d M g) (O c a e)] w fun u bs=>u= A0 (R S (dy N.k N.op))/\A2 w.heap.size w bs):=fun w=>dA N _ _ F w;have s:Y (Wr w0 (O (Q p1) n c1) tab 143 _ (l)):=a4 (O d M g) (O c a e) b.nm b.ks;have b0:=ar b;obtain⟨J,K,L,af,al,am,ap,av,a0⟩:=p.out _ _ q.out;clear j b z C x a8 bE bx a2 a3 a5 F;unfold cE at r s;generalize a9:dy N.k N.op=cp at *;clear a9;go_in;go_wp2_with fail;refine lc (r.out _) fun bt B=>?_;have o:Y (Bx w0 (O (Q p1) n c1) tab w N (O d M g) (O c a e) h bt):=q.out.below B;obtain⟨J,K,L,af,al,am,ap,av,a0⟩:=p.out _ _ o.out;clear B bb bd bf bj bl bn bo bp br z0;go_wp2_with fail;refine(s.out _ _ o.out.pr (by(try simp only[ae]);omega)).mono ?_;rintro u bw ⟨rfl,I,G⟩;have m:Y (Bx w0 (O (Q p1) n c1) tab w N (O d M g) (O c a e) (h++(l)) bw):=o.out.next a7 I G
 obtain⟨J,K,L,af,al,am,ap,av,a0⟩:=p.out _ _ m.out;clear I G;go_wp2_with fail;go_end0
 refine⟨rfl,?_,m.out.kq⟩;have:=m.out.pr;simpa only[aB] using this
open Go.Maps Go.WideMaps
structure Mp (w0:T) (p1:Addr) (n c1:Nat) (ns:List Nd):Prop where
 nds:bI w0 (.slice (Q p1) n c1) ns
 cap:fI w0 p1 ns
 len:ns.length=n
 big:n<=3000
 sz:KB ns
 n0:∀i:Int, -9223372036854775808<=(nodeI ns i).n
 n1:∀i:Int,(nodeI ns i).n<=9223372036854775807
abbrev vT(p1:Addr)(n c1:Nat):B3:= O (Q p1) n c1
def OkB(w0:T)(p1:Addr)(n c1:Nat)(ns:List Nd)(f:Nat):Prop:=
 ∀(a b:Nat)(word vn vk),a<f->(nodeI ns a).k=7->b+f<=500000->cj w0 vn (nodeI ns a).nm->aJ w0 vk (nodeI ns a).ks->Wr w0 (vT p1 n c1) b 112 #[pW w0,cE (nodeI ns a) vn vk,X word] (rH ns f a word b)
structure OkA (w0:T) (p1:Addr) (n c1:Nat) (ns:List Nd) (f:Nat):Prop where
 e:∀tab:Nat,tab+f<=500000->Kg w0 (vT p1 n c1) ns (fun k=>sJ ns f k tab) tab f
 s:adL w0 (vT p1 n c1) ns (fun k t=>nF ns f k t) f
 b:OkB w0 p1 n c1 ns f
theorem OkA.zero(w0:T)(p1:Addr)(n c1:Nat)(ns:List Nd):OkA w0 p1 n c1 ns 0:=
 ⟨fun _ _ b _ _ _ a=>absurd a (by omega),fun b _ _ _ a=>absurd a (by omega),fun b _ _ _ _ a=>absurd a (by omega)⟩
section
variable {w0 : World} {p1 : Addr} {n c1 : Nat} {ns : List Nd} (M : Mp w0 p1 n c1 ns) {f : Nat} (A : OkA w0 p1 n c1 ns f)
theorem Wr.expr0(A:OkA w0 p1 n c1 ns f){tab q:Nat}(h:tab+f<=500000)(g:q<f)(c:fj (nodeI ns q).k=B1):Wr w0 (vT p1 n c1) tab 110 #[pW w0,R S (q:Int),R S 0] (sJ ns f q tab):=
 fun a W b d=>(A.e tab h).zero q a W g c b d
theorem Wr.blk(M:Mp w0 p1 n c1 ns)(A:OkA w0 p1 n c1 ns f){tab q:Nat}(m:tab+f<500000)(r:q<=f)(a:q<ns.length)(i:(nodeI ns q).k=1):Wr w0 (vT p1 n c1) tab 107 #[pW w0,R S (q:Int)] (tK (fun k t=>nF ns f k t) (nodeI ns q).ks tab):=by
 intro d W e j;obtain⟨l,p⟩:=il (M.sz.nb q a);have g:=ws l i;refine yu w0 _ ns _ f A.s M.nds (by rw[M.len];have:=M.big;omega) q a (fun u o=>?_) (by omega) tab m d W e j;obtain⟨c,h,rfl⟩:=iB o;obtain⟨y,b⟩:=eD (M.sz.nb q a) a c h;have:=FJ _ 0 g c (by omega) (by omega);rw[b.id]at this⊢;exact⟨y,rfl,by have:=b.lt;omega,b.len,this⟩
theorem Wr.exs(A:OkA w0 p1 n c1 ns f){tab:Nat}(i:tab+f<=500000){a:List Int}(d:Lu ns f a)(h:a.length<=1048576)(v:B3)(j:aJ w0 v a):Wr w0 (vT p1 n c1) tab 109 #[pW w0,v] (bv (a.map fun k=>sJ ns f k tab)):=
 fun b W c g=>Hf w0 _ v ns _ tab f (A.e tab i) a j d h b W c g
theorem Wr.nms(N:Nd){tab:Nat}(d:N.nm.length<=1048576)(v:B3)(e:cj w0 v N.nm):Wr w0 (vT p1 n c1) tab 108 #[pW w0,v] (bv N.nm):=
 fun a W b c=>yr w0 _ v N.nm a tab W b e d c
theorem Wr.bod(M:Mp w0 p1 n c1 ns)(A:OkA w0 p1 n c1 ns f){tab q:Nat}(r:tab+f<500000)(H:q<=f)(b:q<ns.length)(l:(nodeI ns q).k=36):Wr w0 (vT p1 n c1) tab 111 #[pW w0,R S (q:Int)] (wj ns (fun k t=>nF ns f k t) (nodeI ns q) tab):=by
 intro g W h m;obtain⟨o,F⟩:=il (M.sz.nb q b);obtain⟨z,d,B,C⟩:=Kz o l;obtain⟨y,a⟩:=eD (M.sz.nb q b) b 0 (by omega);rw[a.id]at d;obtain⟨p,G⟩:=il (M.sz.nb y a.len);have i:=ws p d;refine Lx w0 _ ns _ f A.s M.nds (by rw[M.len];have:=M.big;omega) q b y a.at_ a.len (fun I u=>?_) (by omega) (by omega) (by omega) tab r g W h m;obtain⟨e,j,rfl⟩:=iB u;obtain⟨x,c⟩:=eD (M.sz.nb y a.len) a.len e j;have:=FJ _ 0 i e (by omega) (by omega);rw[c.id]at this⊢;exact⟨x,rfl,by have:=c.lt;have:=a.lt;omega,c.len,this⟩
theorem ml(M:Mp w0 p1 n c1 ns){i:Nat}(d:i<ns.length)(o:i<=f){a m:Nat}(g:∀j,a<=j->j<a+m->fj (nodeI ns (bz (nodeI ns i) j)).k=B1)(p:a+m<=(nodeI ns i).ks.length):Lu ns f (((nodeI ns i).ks.drop a).take m):=by
 intro q l;obtain⟨j,h,c⟩:=gp l;rw[jh,jg]at h;rw[List.getElem_take,List.getElem_drop]at c;obtain⟨y,b⟩:=eD (M.sz.nb i d) d (a+j) (by omega);have e:=wz (N:=nodeI ns i) (j:=a+j) (by omega);rw[e,b.id]at c;have:=g (a+j) (by omega) (by omega);rw[b.id]at this;exact⟨y,c.symm,by have:=b.lt;omega,b.len,this⟩
end
section
variable {w0 : World} {p1 : Addr} {n c1 : Nat} {ns : List Nd} {f : Nat}
theorem Wr.bas(M:Mp w0 p1 n c1 ns)(A:OkA w0 p1 n c1 ns f){tab q:Nat}(i:tab+f<=500000)(g:q<f)(h:q<ns.length)(c:fj (nodeI ns q).k=B1):Wr w0 (vT p1 n c1) tab 141 #[pW w0,R S (q:Int)] (Hr ns (fun k=>sJ ns f k tab) q):=
 fun a W b d=>Kh w0 _ ns _ tab f (A.e tab i) M.nds (by rw[M.len];have:=M.big;omega) q g h c a W b d
theorem CF(M:Mp w0 p1 n c1 ns)(A:OkA w0 p1 n c1 ns f)(tab i:Nat)(bs:tab+f<500000)(bj:i<=f)(J:i<ns.length)(bp:fj (nodeI ns i).k=B1)(o:Int)(x:¬dy (nodeI ns i).k (nodeI ns i).op<o):
  Wr w0 (vT p1 n c1) tab 110 #[pW w0,R S (i:Int),R S o] (prE ns (fun q=>sJ ns f q tab) (fun q t=>nF ns f q t) (nodeI ns i) tab):=by
 have bE:=M.big;have b3:=M.len;obtain⟨F,b1⟩:=il (M.sz.nb i J);have bt:=DK (M.sz.nb i J);have B:=fun G av=>eD (M.sz.nb i J) J G av;have l:(nodeI ns i).k=31->1<=(nodeI ns i).op/\(nodeI ns i).op<=18:=fun e=>(ja F (by omega)).2.2 e;have u:i<n:=by omega
 have p:n<=1048576:=by omega
 have h:(nodeI ns i).ks.length<=1048576:=by omega
 have b0:=aI bp;have a9:∀(a5:ByteArray)(g d:B3),cj w0 g (nodeI ns i).nm->aJ w0 d (nodeI ns i).ks->((nodeI ns i).k=28\/(nodeI ns i).k=29\/(nodeI ns i).k=31)->
   Wr w0 (vT p1 n c1) tab 139 #[pW w0,cE (nodeI ns i) g d,X a5,R S (dy (nodeI ns i).k (nodeI ns i).op)] (tJ ns (fun q=>sJ ns f q tab) (nodeI ns i) a5 (dy (nodeI ns i).k (nodeI ns i).op)):=by
  intro a5 g d z j br L W ap a0;obtain⟨H,c,I⟩:=ja F (by omega);obtain⟨a,b⟩:=B 0 (by omega);obtain⟨af,s⟩:=B 1 (by omega);have r:=iA 2 0 c 0 (by omega) (by omega);have C:=iA 2 0 c 1 (by omega) (by omega);rw[b.id]at r;rw[s.id]at C;have b4:=wl (nodeI ns i).k (nodeI ns i).op;exact G0 w0 _ ns _ tab f (A.e tab (by omega)) (nodeI ns i) g d j a af b.at_ s.at_ (by have:=b.lt;omega) (by have:=s.lt;omega) r C h (fun ak al=>by rcases br with e|e|e;exact absurd e al;exact absurd e ak;exact I e) a5 _ (by omega) (by omega) L W ap a0
 unfold prE;by_cases ak:(nodeI ns i).k=28
 ·rw[ab ak];exact LH w0 p1 n c1 ns M.nds M.cap M.len p tab i u _ rfl h ak l o x _ (fun g d z j=>a9 _ g d z j (by omega))
 rw[aa ak];by_cases al:(nodeI ns i).k=29
 ·rw[ab al];exact ab7 w0 p1 n c1 ns M.nds M.cap M.len p tab i u _ rfl h al l o x _ (fun g d z j=>a9 _ g d z j (by omega))
 rw[aa al];by_cases am:(nodeI ns i).k=31
 ·rw[ab am];exact Ls w0 p1 n c1 ns M.nds M.cap M.len p tab i u _ rfl h am l o x (l am) (Cp (l am)) _ (fun g d z j=>a9 _ g d z j (by omega))
 rw[aa am];by_cases a1:(nodeI ns i).k=30
 ·rw[ab a1];obtain⟨H,c,I⟩:=jD F (by omega);obtain⟨a,b⟩:=B 0 (by omega);rw[b.id]at c;exact Ee w0 p1 n c1 ns M.nds M.cap M.len p tab i u _ rfl h a1 l o x _ (fun g d z j L W ap a0=>G6 w0 _ ns _ tab f (A.e tab (by omega)) M.nds (by omega) _ g d j a b.at_ (by have:=b.lt;omega) b.len h c (I a1) L W ap a0)
 rw[aa a1];by_cases a7:(nodeI ns i).k=32
 ·rw[ab a7];obtain⟨H,c,I⟩:=ja F (by omega);obtain⟨a,b⟩:=B 0 (by omega);obtain⟨af,s⟩:=B 1 (by omega);have r:=iA 2 0 c 0 (by omega) (by omega);have C:=iA 2 0 c 1 (by omega) (by omega);rw[b.id]at r⊢;rw[s.id]at C⊢;exact Ea w0 p1 n c1 ns M.nds M.cap M.len p tab i u _ rfl h a7 l o x a b.at_ _ (Wr.bas M A (by omega) (by have:=b.lt;omega) b.len r) af s.at_ _ (Wr.expr0 A (by omega) (by have:=s.lt;omega) C)
 rw[aa a7];by_cases a8:(nodeI ns i).k=33
 ·rw[ab a8];obtain⟨H,c,I⟩:=jD F (by omega);obtain⟨a,b⟩:=B 0 (by omega);rw[b.id]at c⊢;exact Eb w0 p1 n c1 ns M.nds M.cap M.len p tab i u _ rfl h a8 l o x a b.at_ _ (Wr.bas M A (by omega) (by have:=b.lt;omega) b.len c)
 rw[aa a8];by_cases a2:(nodeI ns i).k=34
 ·rw[ab a2];obtain⟨H,c⟩:=Al F a2;obtain⟨a,b⟩:=B 0 (by omega);have r:=iA _ 0 c 0 (by omega) (by omega);have bf:=ml M J bj (a:=1) (m:=(nodeI ns i).ks.length-1) (fun G I bx=>iA _ 0 c G (by omega) (by omega)) (by omega);rw[cC (by rw[jg];exact ag _)]at bf;rw[b.id]at r⊢;exact G4 w0 p1 n c1 ns M.nds M.cap M.len p tab i u _ rfl h a2 l o x a b.at_ _ (Wr.bas M A (by omega) (by have:=b.lt;omega) b.len r) _ (fun v j=>Wr.exs A (by omega) bf (by rw[jg];omega) v j)
 rw[aa a2];by_cases a3:(nodeI ns i).k=35
 ·rw[ab a3];have H:=wo F a3;refine Ef w0 p1 n c1 ns M.nds M.cap M.len p tab i u _ rfl h a3 l o x _ (fun g d z j=>Hj w0 p1 n c1 ns M.nds M.cap M.len p _ tab _ g d j h (fun b6 bw=>?_));obtain⟨G,av,rfl⟩:=iB bw;obtain⟨y,K⟩:=B G av;have c:=FK _ 0 H G (by omega) (by omega);rw[K.id]at c⊢;refine⟨y,rfl,K.len,?_⟩;obtain⟨bl,b2⟩:=il (M.sz.nb y K.len);have bb:=fun G av=>eD (M.sz.nb y K.len) K.len G av;have b5:=K.lt;by_cases bd:(nodeI ns y).k=41
  ·obtain⟨bn,an,bo⟩:=ja bl (by omega);obtain⟨a,b⟩:=bb 0 (by omega);obtain⟨af,s⟩:=bb 1 (by omega);have r:=iA 2 0 an 0 (by omega) (by omega);have C:=iA 2 0 an 1 (by omega) (by omega);rw[b.id]at r;rw[s.id]at C;exact .inl ⟨bd,a,af,b.at_,s.at_,Wr.expr0 A (by omega) (by have:=b.lt;omega) r,Wr.expr0 A (by omega) (by have:=s.lt;omega) C⟩
  ·obtain⟨bn,an,bo⟩:=jD bl (by omega);obtain⟨a,b⟩:=bb 0 (by omega);rw[b.id]at an;exact .inr ⟨bd,a,b.at_,Wr.expr0 A (by omega) (by have:=b.lt;omega) an⟩
 rw[aa a3];by_cases a4:(nodeI ns i).k=36
 ·rw[ab a4];exact ab2 w0 p1 n c1 ns M.nds M.cap M.len p tab i u _ rfl h a4 l o x _ (Wr.bod M A bs bj J a4)
 rw[aa a4];by_cases a6:(nodeI ns i).k=37
 ·rw[ab a6];obtain⟨H,c,I⟩:=jD F (by omega);obtain⟨a,b⟩:=B 0 (by omega);rw[b.id]at c⊢;exact Lz w0 p1 n c1 ns M.nds M.cap M.len p tab i u _ rfl h a6 l o x a b.at_ _ (Wr.expr0 A (by omega) (by have:=b.lt;omega) c)
 rw[aa a6];exact Eg w0 p1 n c1 ns M.nds M.cap M.len p tab i u _ rfl h (by omega) l o x _ (fun g d z j L W ap a0=>GK w0 _ g d _ L tab W ap (by omega) (M.n0 i) (M.n1 i) (fun _=>bt) a0)
theorem Hm(M:Mp w0 p1 n c1 ns)(A:OkA w0 p1 n c1 ns f)(r:f<ns.length)(tab:Nat)(B:tab+(f+1)<=500000):Kg w0 (vT p1 n c1) ns (fun k=>sJ ns (f+1) k tab) tab (f+1):=by
 intro k c e W s g o p h a;have q:=M.big;have x:=M.len;obtain⟨m,u⟩:=il (M.sz.nb k (by omega));have l:(nodeI ns k).k=31->1<=(nodeI ns k).op/\(nodeI ns k).op<=18:=fun i=>(ja m (by omega)).2.2 i;have j:sJ ns (f+1) k tab=prE ns (fun d=>sJ ns f d tab) (fun d t=>nF ns f d t) (nodeI ns k) tab:=by rw[sJ]
 unfold ik at a⊢;simp only[j]at a⊢;by_cases b:dy (nodeI ns k).k (nodeI ns k).op<c
 ·rw[ab b]at a⊢;have z:=wl (nodeI ns k).k (nodeI ns k).op;exact Lt w0 p1 n c1 ns M.nds M.cap M.len (by omega) tab k (by omega) _ rfl l c b _ (CF M A tab k (by omega) (by omega) (by omega) g 0 (by omega)) e W h a
 ·rw[aa b]at a⊢;exact CF M A tab k (by omega) (by omega) (by omega) g c b e W h a
end
section
variable {w0 : World} {p1 : Addr} {n c1 : Nat} {ns : List Nd} {f : Nat}
theorem wD(M:Mp w0 p1 n c1 ns)(A:OkA w0 p1 n c1 ns f)(tab i:Nat)(G:tab+f<500000)(a1:i<=f)(u:i<ns.length)(K:(nodeI ns i).k=7)(j:ByteArray)(vn vk:B3)(a4:cj w0 vn (nodeI ns i).nm)(x:aJ w0 vk (nodeI ns i).ks):
  Wr w0 (vT p1 n c1) tab 112 #[pW w0,cE (nodeI ns i) vn vk,X j] (wk ns (fun q=>sJ ns f q tab) (fun q t=>nF ns f q t) (fun q w=>rH ns f q w tab) (nodeI ns i) j tab):=by
 intro o W p a;have a0:=M.big;have a3:=M.len;obtain⟨af,a2⟩:=il (M.sz.nb i u);have z:=fun al J=>eD (M.sz.nb i u) u al J;obtain⟨ap,av,C,F,H⟩:=KE af K;obtain⟨l,e⟩:=z 0 (by omega);obtain⟨m,b⟩:=z 1 (by omega);have a5:=e.lt;have a6:=b.lt;rw[e.id]at C;rw[b.id]at F;have s:=Wr.expr0 A (tab:=tab) (by omega) (show l<f by omega) C;have r:=Wr.blk M A G (show m<=f by omega) b.len F;unfold wk at a⊢;rw[e.id,b.id]at a⊢;rcases be (nodeI ns i).ks.length 3 with g|g
 ·rw[ab g]at a⊢;rw[show ∀B:ByteArray,B++U=B from fun B=>ByteArray.append_empty]at a⊢;exact D9 w0 _ _ _ tab _ vn vk x l m e.at_ b.at_ g s r j o W p a
 ·rw[aa (by omega)]at a⊢;obtain⟨d,c⟩:=z 2 (by omega);have wc:=c.lt;rw[c.id]at H a⊢;by_cases h:(nodeI ns d).k=7
  ·rw[ab h]at a⊢;exact As w0 p1 n c1 ns M.nds M.len (by omega) _ _ _ tab _ vn vk x l m e.at_ b.at_ d c.at_ (by have:=c.len;omega) h (fun an am L ak=>A.b d tab _ an am (by omega) h (by omega) L ak) s r j o W p a
  ·rw[aa h]at a⊢;have I:=Wr.blk M A G (show d<=f by omega) c.len (show(nodeI ns d).k=1 by omega);exact Au w0 p1 n c1 ns M.nds M.len (by omega) _ _ _ tab _ vn vk x l m e.at_ b.at_ d c.at_ (by have:=c.len;omega) h I s r j o W p a
theorem LI{N:Nd}(a:N.nm.length=1):N.nm[0]?=Q (nm0 N):=by
 unfold nm0;rw[bF,aF (by omega)];rfl
theorem LJ(M:Mp w0 p1 n c1 ns)(A:OkA w0 p1 n c1 ns f)(tab i:Nat)(G:tab+f<500000)(F:i<=f)(s:i<ns.length)(bp:jE (nodeI ns i).k=B1):
  Wr w0 (vT p1 n c1) tab 80 #[pW w0,R S (i:Int)] (prS ns (fun q=>sJ ns f q tab) (fun q t=>nF ns f q t) (fun _ w=>wk ns (fun q=>sJ ns f q tab) (fun q t=>nF ns f q t) (fun q w=>rH ns f q w tab) (nodeI ns i) w tab) (nodeI ns i) tab):=by
 have bt:=M.big;have bE:=M.len;obtain⟨u,bx⟩:=il (M.sz.nb i s);have x:=fun r bj=>eD (M.sz.nb i s) s r bj;have l:i<n:=by omega
 have o:n<=1048576:=by omega
 have j:(nodeI ns i).ks.length<=1048576:=by omega
 have bw:=aI bp;have bd:∀k:Int,k=34->fj k=B1:=fun k e=>by rw[e];rfl
 unfold prS;by_cases ak:(nodeI ns i).k=1
 ·rw[ab ak];exact Cy w0 p1 n c1 ns M.nds M.cap M.len o tab i l _ rfl ak j _ (Wr.blk M A G F s ak)
 rw[aa ak];by_cases L:(nodeI ns i).k=2
 ·rw[ab L];obtain⟨h1,b⟩:=KD u L;have C:=fun v g=>Wr.nms (w0:=w0) (p1:=p1) (n:=n) (c1:=c1) (nodeI ns i) (tab:=tab) (by omega) v g;by_cases B:(nodeI ns i).ks=[]
  ·rw[ab B,show ∀I:ByteArray,I++U=I from fun I=>ByteArray.append_empty];exact D8 w0 p1 n c1 ns M.nds M.cap M.len o tab i l _ rfl L j C (by rw[B];rfl)
  ·rw[aa B];have p:=ml M s F (a:=0) (m:=(nodeI ns i).ks.length) (fun r h H=>iA _ 0 h1 r (by omega) (by omega)) (by omega);rw[jI,cC (ag _)]at p;exact Hd w0 p1 n c1 ns M.nds M.cap M.len o tab i l _ rfl L j C (by rcases jk (nodeI ns i).ks.length with e|e;exact absurd (jd e) B;exact e) _ (fun v g=>Wr.exs A (by omega) p j v g)
 rw[aa L];by_cases an:(nodeI ns i).k=3
 ·rw[ab an];obtain⟨h1,b,h⟩:=wu u an;obtain⟨a,c⟩:=x 0 (by omega);have J:=c.lt;rw[c.id]at b⊢;exact CB w0 p1 n c1 ns M.nds M.cap M.len o tab i l _ rfl an j _ (LI h) a c.at_ _ (Wr.expr0 A (by omega) (by omega) b)
 rw[aa an];by_cases ap:(nodeI ns i).k=4
 ·rw[ab ap];obtain⟨h1,b,h⟩:=D0 u ap;obtain⟨a,c⟩:=x 0 (by omega);have J:=c.lt;rw[c.id]at b⊢;exact Ly w0 p1 n c1 ns M.nds M.cap M.len o tab i l _ rfl ap j _ (LI h) a c.at_ _ (Wr.bod M A G (by omega) c.len b)
 rw[aa ap];by_cases av:(nodeI ns i).k=5
 ·rw[ab av];obtain⟨h1,b,h,H⟩:=aec u av;obtain⟨m,bl⟩:∃m:Nat,(nodeI ns i).n=(m:Int):=⟨(nodeI ns i).n.toNat,by omega⟩;have bn:(nodeI ns i).n.toNat=m:=by omega
  rw[bn]at h H⊢;have p:=ml M s F (a:=0) (m:=m) (fun r a3 a4=>act _ 0 h r (by omega) (by omega)) (by omega);rw[jI]at p;have bf:=ml M s F (a:=m) (m:=(nodeI ns i).ks.length-m) (fun r a3 a4=>iA _ m H r (by omega) (by omega)) (by omega);rw[cC (by rw[jg];exact ag _)]at bf;exact Kr w0 p1 n c1 ns M.nds M.cap M.len o tab i l _ rfl av j m bl (by omega) (by omega) _ (fun v g=>Wr.exs A (by omega) p (by rw[jh];omega) v g) _ (fun v g=>Wr.exs A (by omega) bf (by rw[jg];omega) v g)
 rw[aa av];by_cases a8:(nodeI ns i).k=6
 ·rw[ab a8];obtain⟨h1,b⟩:=yy u (by omega);obtain⟨a,c⟩:=x 0 (by omega);have J:=c.lt;rw[c.id]at b⊢;exact ab1 w0 p1 n c1 ns M.nds M.cap M.len o tab i l _ rfl a8 j a c.at_ _ (Wr.expr0 A (by omega) (by omega) (bd _ b))
 rw[aa a8];by_cases a0:(nodeI ns i).k=7
 ·rw[ab a0];exact Lq w0 p1 n c1 ns M.nds M.cap M.len o tab i l _ rfl a0 j _ (fun bs br bo g=>wD M A tab i G F s a0 _ bs br bo g)
 rw[aa a0];by_cases a1:(nodeI ns i).k=8
 ·rw[ab a1];obtain⟨h1,b,h⟩:=wv u a1;obtain⟨a,c⟩:=x 0 (by omega);obtain⟨z,d⟩:=x 1 (by omega);have J:=c.lt;have a5:=d.lt;rw[c.id]at b⊢;rw[d.id]at h⊢;exact Ci w0 p1 n c1 ns M.nds M.cap M.len o tab i l _ rfl a1 j a c.at_ _ (Wr.expr0 A (by omega) (by omega) b) z d.at_ _ (Wr.blk M A G (by omega) d.len h)
 rw[aa a1];by_cases bb:(nodeI ns i).k=9\/(nodeI ns i).k=10
 ·rw[ab bb];by_cases a9:(nodeI ns i).k=10
  ·rw[aa (by omega)];obtain⟨h1,b,h,H⟩:=Am u a9;rw[h1];have C:=fun v g=>Wr.nms (w0:=w0) (p1:=p1) (n:=n) (c1:=c1) (nodeI ns i) (tab:=tab) (by omega) v g;have p:=ml M s F (a:=0) (m:=1) (fun r a3 a4=>by have e:r=0:=(by omega);subst e;exact b) (by omega);rw[jI]at p;obtain⟨z,d⟩:=x 1 (by omega);have a5:=d.lt;show Wr _ _ _ _ _ (_++_++_++_++_++tK _ (nodeI ns (bz (nodeI ns i) 1)).ks tab);rw[d.id]at h⊢;exact He w0 p1 n c1 ns M.nds M.cap M.len o tab i l _ rfl a9 j C h1 _ (fun v g=>Wr.exs A (by omega) p (by rw[jh];omega) v g) z d.at_ _ (Wr.blk M A G (by omega) d.len h)
  ·have a2:(nodeI ns i).k=9:=by omega
   rw[ab a2];obtain⟨h1,b,h,H⟩:=D1 u a2;have C:=fun v g=>Wr.nms (w0:=w0) (p1:=p1) (n:=n) (c1:=c1) (nodeI ns i) (tab:=tab) (by omega) v g;rcases h1 with h1|h1
   ·rw[h1]at b h⊢;have p:=ml M s F (a:=0) (m:=2) (fun r a3 a4=>iA _ 0 b r (by omega) (by omega)) (by omega);rw[jI]at p;obtain⟨z,d⟩:=x 2 (by omega);have a5:=d.lt;have af:(nodeI ns (bz (nodeI ns i) 2)).k=1:=h;show Wr _ _ _ _ _ (_++_++_++_++_++tK _ (nodeI ns (bz (nodeI ns i) 2)).ks tab);rw[d.id]at af⊢;exact Hh w0 p1 n c1 ns M.nds M.cap M.len o tab i l _ rfl a2 j C h1 _ (fun v g=>Wr.exs A (by omega) p (by rw[jh];omega) v g) z d.at_ _ (Wr.blk M A G (by omega) d.len af)
   ·rw[h1]at b h⊢;have p:=ml M s F (a:=0) (m:=3) (fun r a3 a4=>iA _ 0 b r (by omega) (by omega)) (by omega);rw[jI]at p;obtain⟨z,d⟩:=x 3 (by omega);have a5:=d.lt;have af:(nodeI ns (bz (nodeI ns i) 3)).k=1:=h;show Wr _ _ _ _ _ (_++_++_++_++_++tK _ (nodeI ns (bz (nodeI ns i) 3)).ks tab);rw[d.id]at af⊢;exact Hi w0 p1 n c1 ns M.nds M.cap M.len o tab i l _ rfl a2 j C h1 _ (fun v g=>Wr.exs A (by omega) p (by rw[jh];omega) v g) z d.at_ _ (Wr.blk M A G (by omega) d.len af)
 rw[aa bb];by_cases a6:(nodeI ns i).k=11
 ·rw[ab a6];exact DF w0 p1 n c1 ns M.nds M.cap M.len o tab i l _ rfl a6 j
 rw[aa a6];by_cases a7:(nodeI ns i).k=12
 ·rw[ab a7];exact G2 w0 p1 n c1 ns M.nds M.cap M.len o tab i l _ rfl a7 j
 rw[aa a7];by_cases K:(nodeI ns i).k=13
 ·rw[ab K];have h1:=aed u K;by_cases B:(nodeI ns i).ks=[]
  ·rw[ab B,show ∀I:ByteArray,I++U=I from fun I=>ByteArray.append_empty];exact DH w0 p1 n c1 ns M.nds M.cap M.len o tab i l _ rfl K j (by rw[B];rfl)
  ·rw[aa B];have p:=ml M s F (a:=0) (m:=(nodeI ns i).ks.length) (fun r h H=>iA _ 0 h1 r (by omega) (by omega)) (by omega);rw[jI,cC (ag _)]at p;exact G3 w0 p1 n c1 ns M.nds M.cap M.len o tab i l _ rfl K j (by rcases jk (nodeI ns i).ks.length with e|e;exact absurd (jd e) B;exact e) _ (fun v g=>Wr.exs A (by omega) p j v g)
 rw[aa K];by_cases al:(nodeI ns i).k=14
 ·rw[ab al];obtain⟨h1,b,h,H⟩:=D2 u al;have C:=fun v g=>Wr.nms (w0:=w0) (p1:=p1) (n:=n) (c1:=c1) (nodeI ns i) (tab:=tab) (by omega) v g;obtain⟨a,c⟩:=x 0 (by omega);obtain⟨z,d⟩:=x 1 (by omega);have J:=c.lt;have a5:=d.lt;rw[c.id]at b⊢;rw[d.id]at h⊢;exact Hg w0 p1 n c1 ns M.nds M.cap M.len o tab i l _ rfl al j C a c.at_ _ (Wr.blk M A G (by omega) c.len b) z d.at_ _ (Wr.blk M A G (by omega) d.len h)
 rw[aa al];by_cases am:(nodeI ns i).k=15
 ·rw[ab am];obtain⟨h1,b⟩:=ww u am;obtain⟨a,c⟩:=x 0 (by omega);have J:=c.lt;rw[c.id]at b⊢;exact Cz w0 p1 n c1 ns M.nds M.cap M.len o tab i l _ rfl am j a c.at_ _ (Wr.expr0 A (by omega) (by omega) b)
 rw[aa am,ab (by omega)];obtain⟨h1,b⟩:=yy u (by omega);obtain⟨a,c⟩:=x 0 (by omega);have J:=c.lt;rw[c.id]at b⊢;exact CA w0 p1 n c1 ns M.nds M.cap M.len o tab i l _ rfl (by omega) j a c.at_ _ (Wr.expr0 A (by omega) (by omega) (bd _ b))
theorem LK(M:Mp w0 p1 n c1 ns)(A:OkA w0 p1 n c1 ns f)(i:f<ns.length):OkA w0 p1 n c1 ns (f+1):=
 ⟨fun b e=>Hm M A i b e,
  fun g b c W j l e d a=>by
  simp only[nF]at a⊢;exact LJ M A b g (by omega) (by omega) (by omega) l c W d a,
  fun g b q p o j h e k m c W d a=>by
  simp only[rH]at a⊢;exact wD M A b g (by omega) (by omega) (by omega) h q p o k m c W d a⟩
theorem okA(M:Mp w0 p1 n c1 ns):∀f,f<=ns.length->OkA w0 p1 n c1 ns f
 |0,_=>OkA.zero w0 p1 n c1 ns
 |f+1,a=>LK M (okA M f (by omega)) (by omega)
end
open Go.Lib (strCells strCells_length)
theorem Ay(a:ByteArray):strCells a=B8 (qh a.data.toList):=by
 unfold strCells B8 qh;rw[List.map_map];rfl
theorem Hn{w:T}{base c n b:Nat}{a:ByteArray}(d:w.ownsRow base 5 1 (O (Q ⟨c,0,Z⟩) n b) n (strCells a)):
  (convert 22 9 (O (Q ⟨c,0,Z⟩) n b)).run V w= .ok (X a) w:=by
 rw[Ay]at d;rw[ir d,sy]
def jb(ns:List Nd):ByteArray:=if(fy ns).1=0 then Af ns else⟨#[]⟩
theorem fI.below{w W:T}{p1:Addr}{n c1:Nat}{ns:List Nd}(i:fI w p1 ns)(j:bI w (O (Q p1) n c1) ns)(k:A2 w.heap.size w W):fI W p1 ns:=by
 intro l a b c g e;obtain⟨o,h,p,m,d⟩:=j.get g;cases h;have:=bm k d.c8;rw[this]at e;obtain rfl:m= O b a.ks.length c:=by simpa using e
 exact i l a b c g d.c8
theorem aeA{ns:List Nd}(a:(fy ns).1=0):0<ns.length/\ns.length<=3000/\(nodeI ns ((ns.length:Int)-1)).k=1:=by
 have g:=rL a;have:=g.len;unfold fy at a;by_cases c:iz ns=B1
 ·rw[ab c]at a;exact absurd a (by decide)
 ·have d:iz ns=Br:=by simpa using c
  have e:=na d;refine⟨by omega,by omega,?_⟩;by_cases b:(ns.getD (ns.length-1) zNd).k=1
  ·unfold nodeI;rw[show((ns.length:Int)-1).toNat=ns.length-1 by omega];rw[bF,aF (by omega)]at b⊢;exact b
  ·exact absurd (.inr (.inr b)) e
theorem Pr.new(a:T)(b:B3):Pr a b U 0 (a.alloc (Ax #[b,O Z 0 0,R S 0] 105)):=
 ⟨(aq _ a).alloc (ag _) _,O Z 0 0,ax a _,dB _ _ _ _⟩
theorem xv(w:T)(p1:Addr)(n c:Nat)(ns:List Nd)(bj:bI w (O (Q p1) n c) ns)(cb:fI w p1 ns)(a3:ns.length=n)(ep:n<=1048576)(c6:∀N∈ns,rJ N)(cc:∀N∈ns,acf N):
  B0 V 60 #[.agg #[O (Q p1) n c]] w fun e d7=>e= A0 (X (jb ns))/\A2 w.heap.size w d7:=by
 have b8:∀r,A2 w.heap.size w (w.alloc r):=fun r=>(aq _ w).alloc (ag _) r;have m:=wI bj cb cc a3;have bt:=fun r=>DJ (w.alloc r) (O (Q p1) n c) ns (bj.below (b8 r)) (by omega) c6;obtain⟨b1,bo⟩:=aD ((fy ns).1);obtain⟨j,b6⟩:=aD ((fy ns).2);rw[bo,b6]at bt;have J:=ar bo;clear bj c6 cc a3 bo b6 cb;go_in;go_wp2_with fail;have b0:=ax w (Ax #[O (Q p1) n c] 76);have d2:(w.alloc (Ax #[O (Q p1) n c] 76)).heap.size=w.heap.size+1:=dI _ _;refine lc (bt _) fun w1 C=>?_;have I:=(C.block _ (by omega)).trans b0;have F:A2 w.heap.size w w1:=(b8 _).trans (C.mono (by omega));clear b0 C bt;by_cases B:b1=0
 ·subst B;have c1:=kL I;have eq:=au I;have dg:((0:Int)!=0)=Br:=rfl;have a1:A2 w1.heap.size w1 (w1.alloc (Ax #[R S 0,R S j] 101)):=(aq _ w1).alloc (ag _) _;have k:A2 w.heap.size w (w1.alloc (Ax #[R S 0,R S j] 101)):=F.trans (a1.mono F.size);have af:(w1.alloc (Ax #[R S 0,R S j] 101)).cell? ⟨w.heap.size,0,Z⟩=Q (O (Q p1) n c):=bm a1 c1;obtain⟨d6,c4,bx⟩:=aeA J.out;have a3:=m.out.2.2.2;obtain⟨b,rfl⟩:∃b,n=b+1:=⟨n-1,by omega⟩;have bp:nodeI ns ((ns.length:Int)-1)=nodeI ns (b:Int):=by congr 1;omega
  rw[bp]at bx;obtain⟨ec,d9,ef,b3,i,b4,L⟩:=dH m.out.1 m.out.2.1 (show b<ns.length by omega);have bf:=(L.rd _ (k.trans (((aq _ _).alloc (ag _) (Ax #[O (Q p1) (b+1) c,O Z 0 0,R S 0] 105)).mono k.size))).c8;have eg:((b:Int)+1)-1=(b:Int):=by omega
  have er:(0:Int)<=(b:Int):=by omega
  have es:(b:Int)<(b:Int)+1:=by omega
  have M:Mp (w1.alloc (Ax #[R S 0,R S j] 101)) p1 (b+1) c ns:=by
   refine⟨m.out.1.below k,m.out.2.1.below m.out.1 k,a3,by omega,KC J.out,fun cz=>?_,fun cz=>?_⟩;all_goals
    unfold nodeI;rw[bF];cases e:ns[cz.toNat]? with
    |none=>decide
    |some N=>have:=(m.out.2.2.1 N (dC e)).n;simp only[ga];omega
  have cl:=D3 M.sz M.n1 (by omega) (by omega);have a7:=Pr.new (w1.alloc (Ax #[R S 0,R S j] 101)) (O (Q p1) (b+1) c);have a8:=ar a7;have bd:((w1.alloc (Ax #[R S 0,R S j] 101)).alloc (Ax #[O (Q p1) (b+1) c,O Z 0 0,R S 0] 105)).cell? ⟨w.heap.size,0,Z⟩=Q (O (Q p1) (b+1) c):=bm ((aq _ _).alloc (ag _) _) af;generalize ds:w1.alloc (Ax #[R S 0,R S j] 101)=o at M a8 a7 bd af bf k a1;have A:=okA M ns.length (ag _);obtain⟨cq,d0⟩:=il (M.sz.nb b (by omega));have ca:=ws cq bx;have br:=L.hL;obtain⟨q,u⟩:=aD ((nodeI ns (b:Int)).ks);obtain⟨d,a2⟩:∃d,(q.map fun a=>nF ns ns.length a 0++(⟨#[10]⟩:ByteArray))=d:=⟨_,rfl⟩;have cf:iL ns=fw d:=by unfold iL;rw[bp,u,a2]
  have ct:∀x∈q,∃g:Nat,x=(g:Int)/\g<ns.length/\jE (nodeI ns g).k=B1:=by
   intro x a5;rw[<-u]at a5;obtain⟨cF,dx,rfl⟩:=iB a5;obtain⟨y,cu⟩:=eD (M.sz.nb b (by omega)) (by omega) cF dx;have:=FJ _ 0 ca cF (by omega) (by omega);rw[cu.id]at this⊢;exact⟨y,rfl,cu.len,this⟩
  have ce:aJ o (O b3 i b4) q:=by rw[<-u];exact L.ks.below k
  have h:Y (OkA o p1 (b+1) c ns ns.length/\aJ o (O b3 i b4) q/\(∀x∈q,∃g:Nat,x=(g:Int)/\g<ns.length/\jE (nodeI ns g).k=B1)/\q.length=i/\(q.map fun a=>nF ns ns.length a 0++(⟨#[10]⟩:ByteArray))=d/\iL ns=fw d/\(iL ns).size<=6000000000/\ns.length<=3000/\d.length=i):=⟨A,ce,ct,by rw[<-u];exact br,a2,cf,cl,c4,by rw[<-a2,du,<-u];exact br⟩;have ej:i<=200:=by omega
  have a6:=ar k;subst ds;clear A cq ca br u a2 cf ct ce cl M a7 L bp d6 c4 bx d0 I a1 F d2 k;go_wp2_with fail;have bs:(w1.alloc (Ax #[R S 0,R S j] 101)).heap.size=w1.heap.size+1:=dI _ _;generalize w1.alloc (Ax #[R S 0,R S j] 101)=o at a8 h a6 af bd bf bs⊢;have a9:=ar bs;clear bs;go_loopw [25] (fun v wr=>∃a:Nat,a<=i/\v= R S a/\Y (Pr o (O (Q p1) (b+1) c) (fw (d.take a)) 0 wr)) (fun v _=>i-(B2 v).toNat)
  case atStart=>exact⟨0,by omega,rfl,a8.out⟩
  case round=>
   clear bd bf af c1;obtain⟨a,ek,rfl,z⟩:=hrel;by_cases d1:a<i
   ·obtain⟨x,a4⟩:=eA h.out.2.2.2.1 d1;obtain⟨g,rfl,cm,cp⟩:=h.out.2.2.1 x (dC a4);obtain⟨eb,rfl,dd⟩:=(h.out.2.1.below z.out.bel).get a4;have en:(a:Int)<(i:Int):=by omega
    have el:(0:Int)<=(a:Int):=by omega
    have cr:d[a]?=Q (nF ns ns.length g 0++⟨#[10]⟩):=by rw[<-h.out.2.2.2.2.1,dj,a4];rfl
    have bl:=ta d a _ cr;have bn:=FG d (a+1);have b5:=h.out.2.2.2.2.2.2.1;rw[h.out.2.2.2.2.2.1]at b5;rw[bl]at bn;simp only[ae]at bn;have a5:(fw (d.take a)).size+((nF ns ns.length g 0).size+1)<=6000000000:=by
     have e:(⟨#[10]⟩:ByteArray).size=1:=rfl;omega
    have H:=h.out.1.s g 0 (fw (d.take a)) wr cm cp (by have:=h.out.2.2.2.2.2.2.2.1;omega) z.out (by show _+(nF ns ns.length g 0).size<=_;omega);have b2:=ar bl;simp only at H;obtain⟨ea,b7⟩:=aD (nF ns ns.length g 0);rw[b7]at H b2 a5;rw[a9.out]at H;clear bl bn b5 a4 cr b7 cm cp;go_wp2_with fail;refine H.mono ?_;rintro e et ⟨rfl,c5,d3⟩;have c7:=ar c5;clear c5 d3 dd H;go_wp2_with fail;have c0:=az o _ _ ⟨#[10]⟩ _ _ c7.out (by rw[ae];show _+_+1<=_;omega);rw[a9.out]at c0;refine c0.mono ?_;rintro e ev ⟨rfl,bE,d4⟩;rw[aB,<-b2.out]at bE;have c9:=ar bE;clear bE d4;go_wp2_with fail;exact⟨⟨a+1,by omega,by go_num,c9.out⟩,by simp[B2];omega⟩
   ·obtain rfl:a=i:=by omega
    have ap:d.take a=d:=cC (by rw[h.out.2.2.2.2.2.2.2.2];exact ag _);rw[ap,<-h.out.2.2.2.2.2.1]at z;have bb:A2 w.heap.size w wr:=a6.out.trans (z.out.bel.mono a6.out.size);obtain⟨r,a0,p⟩:=z.out.row;have l:Y (jb ns=if 65536<(iL ns).size then U else iL ns):=by show _=_;unfold jb Af;rw[ab J.out]
    have cy:=h.out.2.2.2.2.2.2.1;obtain⟨D,am⟩:=aD (iL ns);rw[am]at p l cy;obtain⟨al,G⟩:=aD D.size;rw[G]at p l cy;obtain⟨dc,df,rfl⟩:=ey p;have d8:wr.cell? ⟨o.heap.size,1,Z⟩=Q (O dc al df):=by rw[ay _ _ _ _ _ _ a0];rfl
    rw[a9.out]at d8;by_cases b9:65536<al
    ·have K:Y (jb ns=U):=by show _=_;rw[l.out,ab b9]
     have C:(65536:Int)<(al:Int):=by omega
     clear ap am l p a0 G;go_wp2_with fail;go_ret;exact⟨by rw[K.out];rfl,bb⟩
    ·have K:Y (jb ns=D):=by show _=_;rw[l.out,aa b9]
     have C:¬(65536:Int)<(al:Int):=by omega
     rcases cL p with⟨B,e⟩|⟨eh,ee,e⟩
     ·cases e;have dk:D=⟨#[]⟩:=by
       apply lF;have:D.data.size=0:=G;exact Array.eq_empty_of_size_eq_zero this
      have d5:(convert 22 9 (O Z 0 0)).run V wr= .ok (X ⟨#[]⟩) wr:=by kernel_rfl
      clear ap am l p a0 G;go_wp2_with fail;go_ret;exact⟨by rw[K.out,dk];rfl,bb⟩
     ·cases e;have d5:=Hn p;clear ap am l a0 G;go_wp2_with fail;go_ret;exact⟨by rw[K.out];rfl,bb⟩
 ·have dg:(b1 !=0)=B1:=by rw[uf];exact B
  have c1:=kL I;have da:Y (jb ns=⟨#[]⟩):=by show _=_;unfold jb;rw[aa (by rw[J.out];exact B)]
  clear B;go_wp2_with fail;go_ret;exact⟨by rw[da.out];rfl,F.trans (((aq _ w1).alloc (ag _) _).mono F.size)⟩
end Go.Proofs.YtkdijoogonigpaaGreatDoor
namespace Go.Proofs.YtkdijoogonigpaaGreatDoor
open Go.RowKit Go.Maps Go.WideMaps
theorem Lw.kcap{w:T}{r a n c:Nat}{b:List Mb}(e:Lw w r (O (Q ⟨a,0,Z⟩) n c) b)(p:b.length=n):fI w ⟨a,0,Z⟩ (b.map Mb.N):=fun d N s u h g=>by
 subst p;rw[dj]at h;obtain⟨y,i,rfl⟩:=Option.map_eq_some_iff.1 h;obtain⟨_,_,_,_,_,_,_,_,m⟩:=pl e.row i;have o:(⟨((⟨a,0,Z⟩:Addr).add (d*9)).block,((⟨a,0,Z⟩:Addr).add (d*9)).off+8,Z⟩:Addr)=⟨a,d*9+8,Z⟩:=by
  unfold Addr.add;split<;>simp_all
 rw[o,m]at g;have q:=dr g;have j:=(e.each y (dC i)).2;rw[q]at j;rcases j.2 with⟨k,l⟩|⟨B,x,z,k,_,_,l,_⟩
 ·omega
 ·cases k;exact l
theorem sj.small{N:Nd}(a:sj N):rJ N:=⟨by have:=a.nm;omega,by have:=a.ks;omega,by have:=a.x.size;omega,fun c b=>by have:=(a.s c b).sz;omega⟩
theorem CG(ns:List Nd):(jb ns).size<=65536:=by
 unfold jb;split
 ·unfold Af;split
  ·decide
  ·omega
 ·decide
theorem CH(a:List Mb)(e:∀y∈a,sj y.N):(oh 0 (cD (jb (a.map Mb.N))):Int)<=150*(a.length:Int)+8000*(bigs a:Int):=by
 unfold jb;split
 ·rename_i b;unfold Af;split
  ·show((0:Nat):Int)<=_;omega
  ·obtain⟨i,c,d⟩:=LF b (fun N g=>by obtain⟨y,h,rfl⟩:=List.mem_map.1 g;exact e y h);rw[aer]at d;have:=(c.out 0 (by decide)).1;omega
 ·show((0:Nat):Int)<=_;omega
theorem aeB{E:Bs}{W:T}{y:Int}(ak:Cu E W y)(d:y<=10):B0 V 29 #[cV E] W fun e l=>∃(t:ByteArray) (m:Nat),e= A0 (X t)/\(t.size<=1048576/\uT t<=39750+8000*m)/\Cu {E with g:=m} l 40000000/\A2 E.base W l:=by
 have J:=afI ak d;go_in;go_wp2_with fail;refine J.mono ?_;rintro e w1 ⟨p,n,F,a,rfl,k,al,r,i,q,H⟩;have s:∀c,B0 V 60 #[.agg #[O (Q ⟨p,0,Z⟩) n F]] (w1.alloc c) fun e l=>e= A0 (X (jb (a.map Mb.N)))/\A2 (w1.alloc c).heap.size (w1.alloc c) l:=fun c=>by
  have z:=dF w1 c;have nd:=r.nds;exact xv (w1.alloc c) ⟨p,0,Z⟩ n F (a.map Mb.N) (nd.below z) ((r.kcap k).below nd z) (by rw[du,k]) (by omega)
   (fun af b=>by obtain⟨y,d,rfl⟩:=List.mem_map.1 b;exact(i y d).small) (fun af b=>by obtain⟨y,d,rfl⟩:=List.mem_map.1 b;exact(i y d).int)
 have G:=CG (a.map Mb.N);have j:=CH a i;rw[k]at j;generalize jb (a.map Mb.N)=P at s G j;obtain⟨m,b⟩:=aD (bigs a);rw[b]at j q;have g:=cH q H;have L:Y (oh 0 (cD P)<=39750+8000*m):=by show _<=_;omega
 clear J r i q H k al j b;go_wp2_with fail;refine lc (s _) fun an B=>?_;have o:=(dF w1 _).trans (B.mono (dF w1 _).size);have u:=g.out.1.below o g.out.1.lt;have am:=aez u (by decide) P G;have K:=ar (g.out.2.trans (o.mono g.out.1.lo.2));clear s B o u;go_wp2_with fail;refine am.mono ?_;rintro e ap ⟨t,rfl,I,x,C⟩;have h:=gy I x C;clear x C I;go_wp2_with fail;go_ret;exact⟨t,m,rfl,⟨h.out.1.1,by have:=h.out.1.2;have:=L.out;omega⟩,h.out.2.1,K.out.trans h.out.2.2⟩
