import Derived.Test.YtnoojdbdapljoaaGreatDoorHOk14
import Derived.Test.YtnoojdbdapljoaaGreatDoorHOk39
set_option linter.all false
set_option maxRecDepth 100000
set_option maxHeartbeats 12800000
open Go.RowKit renaming intOf->M,Hid->V
open Go.Value renaming slice->N,string->Q,string->U,int->W,pointer->Z
open Option renaming some->O,none->Y
open Go.Proofs.Tryz renaming prog->S
open Go renaming World->T,Value->X
namespace Go.Proofs.YtnoojdbdapljoaaGreatDoor
open Go.RowKit
theorem wh(k:Int):fJ k=0\/fJ k=1\/fJ k=2\/fJ k=3\/fJ k=4\/fJ k=5\/fJ k=6:=by
 unfold fJ
 repeat' split
 all_goals simp
theorem ma(k:Int)(b:Nat)(w:T):(method 377 (lG (fJ k)) (Z (O ⟨b,0,Y⟩)) "loop.example/warp/impl.head").run S w= .ok (234,Z (O ⟨b,0,Y⟩)) w:=ajL _ b w
def xa(i a:Nat):List UInt8:=(wB i).data.toList++(if a=1 then [42] else if a=2 then [63] else [])
def wS(i a:Nat):ByteArray:=⟨(xa i a).toArray⟩
def wS1(i a:Nat):ByteArray:=⟨((wB i).data.toList++(if a=2 then [63] else [])).toArray⟩
theorem akx:∀i a,i<10->a<3->(⟨(Lib.trimSuffix (wS i a).data.toList [42]).toArray⟩:ByteArray)=wS1 i a/\Lib.hasSuffix (wS i a).data.toList [42]=(a==1)
 |0,0,_,_=>⟨rfl,rfl⟩
 |0,1,_,_=>⟨rfl,rfl⟩
 |0,2,_,_=>⟨rfl,rfl⟩
 |1,0,_,_=>⟨rfl,rfl⟩
 |1,1,_,_=>⟨rfl,rfl⟩
 |1,2,_,_=>⟨rfl,rfl⟩
 |2,0,_,_=>⟨rfl,rfl⟩
 |2,1,_,_=>⟨rfl,rfl⟩
 |2,2,_,_=>⟨rfl,rfl⟩
 |3,0,_,_=>⟨rfl,rfl⟩
 |3,1,_,_=>⟨rfl,rfl⟩
 |3,2,_,_=>⟨rfl,rfl⟩
 |4,0,_,_=>⟨rfl,rfl⟩
 |4,1,_,_=>⟨rfl,rfl⟩
 |4,2,_,_=>⟨rfl,rfl⟩
 |5,0,_,_=>⟨rfl,rfl⟩
 |5,1,_,_=>⟨rfl,rfl⟩
 |5,2,_,_=>⟨rfl,rfl⟩
 |6,0,_,_=>⟨rfl,rfl⟩
 |6,1,_,_=>⟨rfl,rfl⟩
 |6,2,_,_=>⟨rfl,rfl⟩
 |7,0,_,_=>⟨rfl,rfl⟩
 |7,1,_,_=>⟨rfl,rfl⟩
 |7,2,_,_=>⟨rfl,rfl⟩
 |8,0,_,_=>⟨rfl,rfl⟩
 |8,1,_,_=>⟨rfl,rfl⟩
 |8,2,_,_=>⟨rfl,rfl⟩
 |9,0,_,_=>⟨rfl,rfl⟩
 |9,1,_,_=>⟨rfl,rfl⟩
 |9,2,_,_=>⟨rfl,rfl⟩
theorem aky:∀i a,i<10->a<3->(⟨(Lib.trimSuffix (wS1 i a).data.toList [63]).toArray⟩:ByteArray)=wB i/\Lib.hasSuffix (wS1 i a).data.toList [63]=(a==2)
 |0,0,_,_=>⟨rfl,rfl⟩
 |0,1,_,_=>⟨rfl,rfl⟩
 |0,2,_,_=>⟨rfl,rfl⟩
 |1,0,_,_=>⟨rfl,rfl⟩
 |1,1,_,_=>⟨rfl,rfl⟩
 |1,2,_,_=>⟨rfl,rfl⟩
 |2,0,_,_=>⟨rfl,rfl⟩
 |2,1,_,_=>⟨rfl,rfl⟩
 |2,2,_,_=>⟨rfl,rfl⟩
 |3,0,_,_=>⟨rfl,rfl⟩
 |3,1,_,_=>⟨rfl,rfl⟩
 |3,2,_,_=>⟨rfl,rfl⟩
 |4,0,_,_=>⟨rfl,rfl⟩
 |4,1,_,_=>⟨rfl,rfl⟩
 |4,2,_,_=>⟨rfl,rfl⟩
 |5,0,_,_=>⟨rfl,rfl⟩
 |5,1,_,_=>⟨rfl,rfl⟩
 |5,2,_,_=>⟨rfl,rfl⟩
 |6,0,_,_=>⟨rfl,rfl⟩
 |6,1,_,_=>⟨rfl,rfl⟩
 |6,2,_,_=>⟨rfl,rfl⟩
 |7,0,_,_=>⟨rfl,rfl⟩
 |7,1,_,_=>⟨rfl,rfl⟩
 |7,2,_,_=>⟨rfl,rfl⟩
 |8,0,_,_=>⟨rfl,rfl⟩
 |8,1,_,_=>⟨rfl,rfl⟩
 |8,2,_,_=>⟨rfl,rfl⟩
 |9,0,_,_=>⟨rfl,rfl⟩
 |9,1,_,_=>⟨rfl,rfl⟩
 |9,2,_,_=>⟨rfl,rfl⟩
theorem JI:∀i a,i<10->a<3->(wS i a).size<=10/\(wS1 i a).size<=10
 |0,0,_,_=>by decide
 |0,1,_,_=>by decide
 |0,2,_,_=>by decide
 |1,0,_,_=>by decide
 |1,1,_,_=>by decide
 |1,2,_,_=>by decide
 |2,0,_,_=>by decide
 |2,1,_,_=>by decide
 |2,2,_,_=>by decide
 |3,0,_,_=>by decide
 |3,1,_,_=>by decide
 |3,2,_,_=>by decide
 |4,0,_,_=>by decide
 |4,1,_,_=>by decide
 |4,2,_,_=>by decide
 |5,0,_,_=>by decide
 |5,1,_,_=>by decide
 |5,2,_,_=>by decide
 |6,0,_,_=>by decide
 |6,1,_,_=>by decide
 |6,2,_,_=>by decide
 |7,0,_,_=>by decide
 |7,1,_,_=>by decide
 |7,2,_,_=>by decide
 |8,0,_,_=>by decide
 |8,1,_,_=>by decide
 |8,2,_,_=>by decide
 |9,0,_,_=>by decide
 |9,1,_,_=>by decide
 |9,2,_,_=>by decide
theorem akz(i a:Nat)(c:i<10)(b:a<3)(w:T):Calls S 167 #[Q (wS i a),Q ⟨#[42]⟩] w fun e g=>e= .returned (.tuple #[Q (wS1 i a),.bool (a==1)])/\g=w:=by
 refine ee (Tryz.strings_CutSuffix (wS i a) ⟨#[42]⟩ w (by have:=(JI i a c b).1;omega)) ?_;obtain⟨d,f⟩:=akx i a c b;refine⟨?_,rfl⟩;rw[<-d,<-f]
theorem akA(i a:Nat)(c:i<10)(b:a<3)(w:T):Calls S 167 #[Q (wS1 i a),Q ⟨#[63]⟩] w fun e g=>e= .returned (.tuple #[Q (wB i),.bool (a==2)])/\g=w:=by
 refine ee (Tryz.strings_CutSuffix (wS1 i a) ⟨#[63]⟩ w (by have:=(JI i a c b).2;omega)) ?_;obtain⟨d,f⟩:=aky i a c b;refine⟨?_,rfl⟩;rw[<-d,<-f]
def gq(d:T)(v:X)(ks:List Int):Prop:=
 (ks=[]/\∃a b,v= N a 0 b)\/∃a b,v= N (O a) ks.length b/\ks.length<=b/\∀f c,ks[f]?=O c->∃e,d.cell? (a.add f)=O (gy c e)/\d.cell? ⟨e,0,Y⟩=O (W .i64 c)
theorem gq.below{a b:T}{v:X}{ks:List Int}(h:gq a v ks)(c:Below a.heap.size a b):gq b v ks:=by
 rcases h with h|⟨d,f,j,k,l⟩
 ·exact .inl h
 ·exact .inr ⟨d,f,j,k,fun n o m=>by obtain⟨e,g,i⟩:=l n o m;exact⟨e,cell_kept c g,cell_kept c i⟩⟩
theorem gq.form{b:T}{v:X}{ks:List Int}(h:gq b v ks):∃a c,v= N a ks.length c:=by
 rcases h with⟨rfl,a,c,h⟩|⟨a,c,d,e⟩
 ·exact⟨a,c,h⟩
 ·exact⟨_,_,d⟩
theorem gq.get{e:T}{a:Option Addr}{n c:Nat}{ks:List Int}(h:gq e (N a n c) ks){j:Nat}{k:Int}(f:ks[j]?=O k):∃d b,a=O d/\e.cell? (d.add j)=O (gy k b)/\e.cell? ⟨b,0,Y⟩=O (W .i64 k):=by
 rcases h with⟨rfl,_⟩|⟨d,o,g,_,m⟩
 ·simp at f
 ·cases g;obtain⟨b,i,l⟩:=m j k f;exact⟨d,b,rfl,i,l⟩
def Ea(i a:Nat)(ks:List Int):Nat:=if a=1 then(ks.takeWhile (ms i)).length else min 1 (ks.takeWhile (ms i)).length
def eA:List (Nat×Nat)->List Int->Bool
 |[],ks=>ks.isEmpty
 |(i,a)::b,ks=>if Ea i a ks=0/\a=0 then false else eA b (ks.drop (Ea i a ks))
structure Ak (ws:List (Nat×Nat)) (ks:List Int) (R:Bool):Prop where
 out:eA ws ks=R
theorem adE(p:Int->Bool):∀(ks:List Int)(t:Nat),t<=(ks.takeWhile p).length->(t<(ks.takeWhile p).length↔∃k,ks[t]?=O k/\p k=true)
 |[],t,h=>by simp at h;subst h;simp
 |a::r,t,h=>by
  cases hp:p a with
  |false=>
   rw[Cq (by simp[hp])]at h⊢;simp at h;subst h;simp[hp]
  |true=>
   rw[Cr (by simp[hp])]at h⊢;cases t with
   |zero=>simp[hp]
   |succ t=>
    simp only[di]at h⊢;have b:=adE p r t (by omega);rw[show(t+1<(r.takeWhile p).length+1)↔t<(r.takeWhile p).length by omega,b];simp
theorem aj8(p:Int->Bool)(ks:List Int):(ks.takeWhile p).length<=ks.length:=(List.takeWhile_sublist p).length_le
theorem aiH(i a:Nat)(ks:List Int):Ea i a ks<=ks.length:=by
 have:=aj8 (ms i) ks;unfold Ea;split<;>omega
theorem aiI(i a:Nat)(ks:List Int)(t:Nat)(h:t<=Ea i a ks):t<Ea i a ks↔(a=1\/t=0)/\∃k,ks[t]?=O k/\ms i k=true:=by
 unfold Ea at h⊢;by_cases b:a=1
 ·rw[ab b]at h⊢;rw[adE _ ks t h];simp[b]
 ·rw[aa b]at h⊢;by_cases c:t=0
  ·subst c;have:=adE (ms i) ks 0 (be _);rw[show(0<min 1 (ks.takeWhile (ms i)).length)↔0<(ks.takeWhile (ms i)).length by omega,this];simp
  ·constructor
   ·intro h2;omega
   ·rintro ⟨h2|h2,_⟩
    ·exact absurd h2 b
    ·exact absurd h2 c
theorem lE{i a:Nat}{b:List (Nat×Nat)}{ks:List Int}{R:Bool}(h:Ak ((i,a)::b) ks R)(c:¬(Ea i a ks=0/\a=0)):Ak b (ks.drop (Ea i a ks)) R:=by
 have:=h.out;rw[eA,aa c]at this;exact⟨this⟩
theorem xc{i a:Nat}{c:List (Nat×Nat)}{ks:List Int}{R:Bool}(h:Ak ((i,a)::c) ks R)(b:Ea i a ks=0/\a=0):R=false:=by
 have:=h.out;rw[eA,ab b]at this;exact this.symm
theorem aal{c:Type}{a:List c}{k:Nat}{x:c}(h:a[k]?=O x):a.drop k=x::a.drop (k+1):=by
 have b:=(List.getElem?_eq_some_iff.1 h);rw[mg b.1,b.2]
theorem gq.sl{d:T}{a:Option Addr}{b c t:Nat}{ks:List Int}(h:gq d (N a b c) ks)(j:ks.length=b)(p:t<=b):gq d (N (if c=t then a else Option.map (fun x=>x.add t) a) (b-t) (c-t)) (ks.drop t):=by
 subst j;rcases h with⟨rfl,e,i,f⟩|⟨e,i,f,n,k⟩
 ·exact .inl ⟨by simp,_,_,by rw[show([]:List Int).length-t=0 by simp]⟩
 ·cases f;by_cases o:t=ks.length
  ·exact .inl ⟨by rw[pt (by omega)],_,_,by rw[show ks.length-t=0 by omega]⟩
  ·refine .inr ⟨e.add t,c-t,?_,by rw[gJ];omega,fun l m g=>?_⟩
   ·rw[aa (by omega),gJ];rfl
   ·rw[px]at g;rw[Addr.add_add];exact k (t+l) m g
theorem sy(w:T)(row:ByteArray)(q:List (Nat×Nat))(v:X)(ks:List Int)(b9:Lib.fields row.data.toList=q.map fun x=>xa x.1 x.2)(ck:∀x∈q,x.1<10/\x.2<3)(ca:row.size<4294967281)(b4:∀(j:Nat) b,row.data.toList[j]?=O b->b.toNat<128)(cc:Lib.TabIs S w "strings.asciiSpace" .u8 Lib.asciiSpaceTab)(bE:gq w v ks)(b5:ks.length<=1048576)(cq:q.length<=1048576):
  Calls S 131 #[Q row,v] w fun e cs=>e= .returned (.bool (eA q ks))/\Below w.heap.size w cs:=by
 have a7:=Tryz.strings_Fields row w ca b4 cc;rw[b9]at a7;obtain⟨J,bw⟩:=aA (eA q ks);rw[bw];have b2:Ak q ks J:=⟨bw⟩;have a4:Below w.heap.size w (w.alloc (.cells ((q.map fun x=>xa x.1 x.2).map fun a8=>U ⟨a8.toArray⟩).toArray 9)):=(aj _ w).alloc (ah _) _;have bs:=bE.below a4;have br:∀f m s,q[f]?=O (m,s)->(w.alloc (.cells ((q.map fun x=>xa x.1 x.2).map fun a8=>U ⟨a8.toArray⟩).toArray 9)).cell? ⟨w.heap.size,f,Y⟩=O (Q (wS m s)):=fun f m s b8=>by
  rw[az _ _ _ _ _ _ (aw w _)];simp[b8,wS]
 obtain⟨ar,bl⟩:=aA q.length;have b1:=aq bl;have co:=aq ck;have b6:(q.map fun x=>xa x.1 x.2).length=ar:=by rw[dv,bl]
 rw[b6]at a7;rw[bl]at cq;obtain⟨cy,cz,rfl⟩:=bE.form;have cn:=aq b5;clear bw b9 ck ca b4 cc bE bl b6 b5;generalize w.alloc (.cells ((q.map fun x=>xa x.1 x.2).map fun a8=>U ⟨a8.toArray⟩).toArray 9)=cx at a7 a4 bs br;have cm:=aq br;have bo:=aq bs;clear br bs;generalize c3:ks.length=lk at bo⊢;go_in;go_wp2_with fail;refine a7.mono ?_;rintro e cl ⟨rfl,rfl⟩;clear a7;go_wp2_with fail;go_loop [1,14] (fun cr b0=>∃(f:Nat) (d:List Int),f<=ar/\b0= W .i64 f/\V (gq cl cr d/\d.length<=1048576)/\Ak (q.drop f) d J) (fun _ b0=>ar-(M b0).toNat)
 case atStart=>exact⟨0,ks,be _,rfl,⟨bo.out,cn.out⟩,b2⟩
 case round=>
  obtain⟨f,d,b8,rfl,a9,a2⟩:=hrel;clear b2 bo;obtain⟨K,L,rfl⟩:=a9.out.1.form;by_cases cp:f<ar
  ·have c2:(f:Int)<(ar:Int):=by omega
   have cB:(0:Int)<=(f:Int):=by omega
   obtain⟨⟨m,s⟩,bn⟩:=bj b1.out cp;obtain⟨bf,bA⟩:=co.out _ (bC bn);simp only at bf bA;have bb:=cm.out f m s bn;have ak:V (Ak ((m,s)::q.drop (f+1)) d J):=by rw[aal bn]at a2;exact a2
   have ad:=fun w=>akz m s bf bA w;have af:=fun w=>akA m s bf bA w;have n:=fun c w=>Dd m bf c w;obtain⟨g,ap⟩:=aA d.length;have C:=aq ap;have bt:=a9.out.2;rw[ap]at bt;have B:V (gq cl (N K g L) d):=by rw[<-ap];exact a9.out.1
   rw[ap];have cf:=aiH m s d;have bF:=aiI m s d;obtain⟨F,bx⟩:=aA (Ea m s d);rw[bx]at cf bF;rw[ap]at cf;have E:=aq bx;have bp:=aq bF;clear bn a2 a9 ap bx bF;generalize wS m s=ct at bb ad;generalize wS1 m s=cu at ad af;generalize wB m=cv at af n;rcases(show s=0\/s=1\/s=2 by omega) with rfl|rfl|rfl
   ·go_wp2_with fail;refine(ad _).mono ?_;rintro e t ⟨rfl,rfl⟩;go_wp2_with fail;refine(af _).mono ?_;rintro e t ⟨rfl,rfl⟩;clear ad af bb;go_wp2_with fail;go_loop [10] (fun I=>∃a:Nat,I= W .i64 a/\a<=F) (fun I=>F-(M I).toNat)
    case atStart=>exact⟨0,rfl,be _⟩
    case round=>
     obtain⟨a,rfl,a6⟩:=hrel;have l:=bp.out a a6;have cb:(0:Int)<=(a:Int):=by omega
     by_cases a5:a<F
     ·obtain⟨bd,c,k,o⟩:=l.1 a5;obtain⟨r,b,rfl,i,ao⟩:=B.out.get k;have G:(a:Int)<(g:Int):=by omega
      obtain rfl:a=0:=by rcases bd with h|h;exact absurd h (by decide);exact h
      rw[show r.add 0=r from by unfold Addr.add;rw[ab rfl]]at i;have p:=fun w=>n c w;rw[o]at p;have z:=fun w=>ma c b w;have A:=fun w=>eK b w;unfold gy at i;generalize lG (fJ c)=av at i z;clear k o n l;go_wp2_with (first|(go_at_call 168;refine(p _).mono ?_;rintro e t ⟨rfl,rfl⟩)|(go_at_call 234;refine(A _).mono ?_;rintro e t ⟨rfl,rfl⟩));go_round
      case rel=>exact⟨0+1,by go_num,by omega⟩
      case measure=>simp[M];omega
     ·obtain rfl:a=F:=by omega
      by_cases a3:a=0
      ·subst a3;by_cases G:0<g
       ·have H:(0:Int)<(g:Int):=by omega
        obtain⟨c,k⟩:=bj C.out G;have o:ms m c=false:=by
         cases h:ms m c
         ·rfl
         ·exact absurd (l.2 ⟨.inr rfl,c,k,h⟩) (by omega)
        obtain⟨r,b,am,i,ao⟩:=B.out.get k;subst am;rw[show r.add 0=r from by unfold Addr.add;rw[ab rfl]]at i;have p:=fun w=>n c w;rw[o]at p;have z:=fun w=>ma c b w;have A:=fun w=>eK b w;unfold gy at i;generalize lG (fJ c)=av at i z;clear k o n l;go_wp2_with (first|(go_at_call 168;refine(p _).mono ?_;rintro e an ⟨rfl,rfl⟩)|(go_at_call 234;refine(A _).mono ?_;rintro e an ⟨rfl,rfl⟩));go_ret;exact⟨by rw[xc ak.out ⟨E.out,rfl⟩];rfl,a4⟩
       ·have H:¬(0:Int)<(g:Int):=by omega
        clear l n;go_wp2_with fail;go_ret;exact⟨by rw[xc ak.out ⟨E.out,rfl⟩];rfl,a4⟩
      ·have y:V (Ak (q.drop (f+1)) (d.drop a) J):=by
        have h:=lE ak.out (by rw[E.out];omega);rw[E.out]at h;exact h
       have u:V (gq t (N (if L=a then K else Option.map (fun x=>x.add a) K) (g-a) (L-a)) (d.drop a)/\(d.drop a).length<=1048576):=⟨B.out.sl C.out (by omega),by rw[gJ,C.out];omega⟩;have ce:¬(a:Int)=0:=by omega
       by_cases G:a<g
       ·have H:(a:Int)<(g:Int):=by omega
        clear l n;go_wp2_with fail;exact⟨⟨f+1,d.drop a,by omega,by go_num,u.out,y.out⟩,by simp[M];omega⟩
       ·have H:¬(a:Int)<(g:Int):=by omega
        clear l n;go_wp2_with fail;exact⟨⟨f+1,d.drop a,by omega,by go_num,u.out,y.out⟩,by simp[M];omega⟩
   ·go_wp2_with fail;refine(ad _).mono ?_;rintro e t ⟨rfl,rfl⟩;go_wp2_with fail;refine(af _).mono ?_;rintro e t ⟨rfl,rfl⟩;clear ad af bb;go_wp2_with fail;go_loop [10] (fun I=>∃a:Nat,I= W .i64 a/\a<=F) (fun I=>F-(M I).toNat)
    case atStart=>exact⟨0,rfl,be _⟩
    case round=>
     obtain⟨a,rfl,a6⟩:=hrel;have l:=bp.out a a6;have cb:(0:Int)<=(a:Int):=by omega
     by_cases a5:a<F
     ·obtain⟨bd,c,k,o⟩:=l.1 a5;obtain⟨r,b,rfl,i,ao⟩:=B.out.get k;have G:(a:Int)<(g:Int):=by omega
      have p:=fun w=>n c w;rw[o]at p;have z:=fun w=>ma c b w;have A:=fun w=>eK b w;unfold gy at i;generalize lG (fJ c)=av at i z;clear k o n l;go_wp2_with (first|(go_at_call 168;refine(p _).mono ?_;rintro e t ⟨rfl,rfl⟩)|(go_at_call 234;refine(A _).mono ?_;rintro e t ⟨rfl,rfl⟩));go_round
      case rel=>exact⟨a+1,by go_num,by omega⟩
      case measure=>simp[M];omega
     ·obtain rfl:a=F:=by omega
      by_cases a3:a=0
      ·subst a3;have y:V (Ak (q.drop (f+1)) d J):=by
        have h:=lE ak.out (by rw[E.out];omega);rw[E.out,jl]at h;exact h
       have u:V (gq t (N K g L) d/\d.length<=1048576):=⟨B.out,by rw[C.out];exact bt⟩;by_cases G:0<g
       ·have H:(0:Int)<(g:Int):=by omega
        obtain⟨c,k⟩:=bj C.out G;have o:ms m c=false:=by
         cases h:ms m c
         ·rfl
         ·exact absurd (l.2 ⟨.inl (by first|rfl|trivial),c,k,h⟩) (by omega)
        obtain⟨r,b,am,i,ao⟩:=B.out.get k;subst am;rw[show r.add 0=r from by unfold Addr.add;rw[ab rfl]]at i;have p:=fun w=>n c w;rw[o]at p;have z:=fun w=>ma c b w;have A:=fun w=>eK b w;unfold gy at i;generalize lG (fJ c)=av at i z;clear k o n l;go_wp2_with (first|(go_at_call 168;refine(p _).mono ?_;rintro e an ⟨rfl,rfl⟩)|(go_at_call 234;refine(A _).mono ?_;rintro e an ⟨rfl,rfl⟩));exact⟨⟨f+1,d,by omega,by go_num,u.out,y.out⟩,by simp[M];omega⟩
       ·have H:¬(0:Int)<(g:Int):=by omega
        clear l n;go_wp2_with fail;exact⟨⟨f+1,d,by omega,by go_num,u.out,y.out⟩,by simp[M];omega⟩
      ·have y:V (Ak (q.drop (f+1)) (d.drop a) J):=by
        have h:=lE ak.out (by rw[E.out];omega);rw[E.out]at h;exact h
       have u:V (gq t (N (if L=a then K else Option.map (fun x=>x.add a) K) (g-a) (L-a)) (d.drop a)/\(d.drop a).length<=1048576):=⟨B.out.sl C.out (by omega),by rw[gJ,C.out];omega⟩;have ce:¬(a:Int)=0:=by omega
       by_cases G:a<g
       ·have H:(a:Int)<(g:Int):=by omega
        obtain⟨c,k⟩:=bj C.out G;have o:ms m c=false:=by
         cases h:ms m c
         ·rfl
         ·exact absurd (l.2 ⟨.inl (by first|rfl|trivial),c,k,h⟩) (by omega)
        obtain⟨r,b,am,i,ao⟩:=B.out.get k;subst am;have p:=fun w=>n c w;rw[o]at p;have z:=fun w=>ma c b w;have A:=fun w=>eK b w;unfold gy at i;generalize lG (fJ c)=av at i z;clear k o n l;go_wp2_with (first|(go_at_call 168;refine(p _).mono ?_;rintro e an ⟨rfl,rfl⟩)|(go_at_call 234;refine(A _).mono ?_;rintro e an ⟨rfl,rfl⟩));exact⟨⟨f+1,d.drop a,by omega,by go_num,u.out,y.out⟩,by simp[M];omega⟩
       ·have H:¬(a:Int)<(g:Int):=by omega
        clear l n;go_wp2_with fail;exact⟨⟨f+1,d.drop a,by omega,by go_num,u.out,y.out⟩,by simp[M];omega⟩
   ·go_wp2_with fail;refine(ad _).mono ?_;rintro e t ⟨rfl,rfl⟩;go_wp2_with fail;refine(af _).mono ?_;rintro e t ⟨rfl,rfl⟩;clear ad af bb;go_wp2_with fail;go_loop [10] (fun I=>∃a:Nat,I= W .i64 a/\a<=F) (fun I=>F-(M I).toNat)
    case atStart=>exact⟨0,rfl,be _⟩
    case round=>
     obtain⟨a,rfl,a6⟩:=hrel;have l:=bp.out a a6;have cb:(0:Int)<=(a:Int):=by omega
     by_cases a5:a<F
     ·obtain⟨bd,c,k,o⟩:=l.1 a5;obtain⟨r,b,rfl,i,ao⟩:=B.out.get k;have G:(a:Int)<(g:Int):=by omega
      obtain rfl:a=0:=by rcases bd with h|h;exact absurd h (by decide);exact h
      rw[show r.add 0=r from by unfold Addr.add;rw[ab rfl]]at i;have p:=fun w=>n c w;rw[o]at p;have z:=fun w=>ma c b w;have A:=fun w=>eK b w;unfold gy at i;generalize lG (fJ c)=av at i z;clear k o n l;go_wp2_with (first|(go_at_call 168;refine(p _).mono ?_;rintro e t ⟨rfl,rfl⟩)|(go_at_call 234;refine(A _).mono ?_;rintro e t ⟨rfl,rfl⟩));go_round
      case rel=>exact⟨0+1,by go_num,by omega⟩
      case measure=>simp[M];omega
     ·obtain rfl:a=F:=by omega
      by_cases a3:a=0
      ·subst a3;have y:V (Ak (q.drop (f+1)) d J):=by
        have h:=lE ak.out (by rw[E.out];omega);rw[E.out,jl]at h;exact h
       have u:V (gq t (N K g L) d/\d.length<=1048576):=⟨B.out,by rw[C.out];exact bt⟩;by_cases G:0<g
       ·have H:(0:Int)<(g:Int):=by omega
        obtain⟨c,k⟩:=bj C.out G;have o:ms m c=false:=by
         cases h:ms m c
         ·rfl
         ·exact absurd (l.2 ⟨.inr rfl,c,k,h⟩) (by omega)
        obtain⟨r,b,am,i,ao⟩:=B.out.get k;subst am;rw[show r.add 0=r from by unfold Addr.add;rw[ab rfl]]at i;have p:=fun w=>n c w;rw[o]at p;have z:=fun w=>ma c b w;have A:=fun w=>eK b w;unfold gy at i;generalize lG (fJ c)=av at i z;clear k o n l;go_wp2_with (first|(go_at_call 168;refine(p _).mono ?_;rintro e an ⟨rfl,rfl⟩)|(go_at_call 234;refine(A _).mono ?_;rintro e an ⟨rfl,rfl⟩));exact⟨⟨f+1,d,by omega,by go_num,u.out,y.out⟩,by simp[M];omega⟩
       ·have H:¬(0:Int)<(g:Int):=by omega
        clear l n;go_wp2_with fail;exact⟨⟨f+1,d,by omega,by go_num,u.out,y.out⟩,by simp[M];omega⟩
      ·have y:V (Ak (q.drop (f+1)) (d.drop a) J):=by
        have h:=lE ak.out (by rw[E.out];omega);rw[E.out]at h;exact h
       have u:V (gq t (N (if L=a then K else Option.map (fun x=>x.add a) K) (g-a) (L-a)) (d.drop a)/\(d.drop a).length<=1048576):=⟨B.out.sl C.out (by omega),by rw[gJ,C.out];omega⟩;have ce:¬(a:Int)=0:=by omega
       by_cases G:a<g
       ·have H:(a:Int)<(g:Int):=by omega
        clear l n;go_wp2_with fail;exact⟨⟨f+1,d.drop a,by omega,by go_num,u.out,y.out⟩,by simp[M];omega⟩
       ·have H:¬(a:Int)<(g:Int):=by omega
        clear l n;go_wp2_with fail;exact⟨⟨f+1,d.drop a,by omega,by go_num,u.out,y.out⟩,by simp[M];omega⟩
  ·obtain rfl:f=ar:=by omega
   have bD:=a2.out;rw[pt (by rw[b1.out];exact ah _),eA]at bD;have b7:((d.length:Int)==0)=J:=by
    rw[<-bD];cases d with
    |nil=>rfl
    |cons x c4=>simp;omega
   have b3:=aq b7;clear b7 bD a2;generalize d.length=g at b3⊢;go_wp2_with fail;go_ret;exact⟨by rw[<-b3.out];rfl,a4⟩
