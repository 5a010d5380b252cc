import Derived.Test.YtcbmoiabehpliaaGreatDoorHPk01
import Derived.Test.YtcbmoiabehpliaaGreatDoorHPk12
import Derived.Test.YtcbmoiabehpliaaGreatDoorHPk37
import Derived.DataElems
set_option linter.unusedVariables false
set_option maxRecDepth 100000
set_option maxHeartbeats 12800000
namespace Go.Proofs.YtcbmoiabehpliaaGreatDoor
open Go.RowKit
theorem oW(k:Int):aY k=0\/aY k=1\/aY k=2\/aY k=3\/aY k=4\/aY k=5\/aY k=6:=by
 unfold aY
 repeat' split
 all_goals simp
theorem gw(k:Int)(b:Nat)(w:World):(method 412 (eK (aY k)) (.pointer (some ⟨b,0,none⟩)) "loop.example/warp/impl.head").run Tryz.prog w= .ok (265,.pointer (some ⟨b,0,none⟩)) w:=qF _ b w
def my(i f:Nat):List UInt8:=(wB i).data.toList++(if f=1 then [42] else if f=2 then [63] else [])
def wS(i f:Nat):ByteArray:=⟨(my i f).toArray⟩
def F5(i f:Nat):ByteArray:=⟨((wB i).data.toList++(if f=2 then [63] else [])).toArray⟩
theorem Kl:∀i f,i<10->f<3->(⟨(Lib.trimSuffix (wS i f).data.toList [42]).toArray⟩:ByteArray)=F5 i f/\Lib.hasSuffix (wS i f).data.toList [42]=(f==1)
 |0,0,_,_=>⟨rfl,rfl⟩
 |0,1,_,_=>⟨rfl,rfl⟩
 |0,2,_,_=>⟨rfl,rfl⟩
 |1,0,_,_=>⟨rfl,rfl⟩
 |1,1,_,_=>⟨rfl,rfl⟩
 |1,2,_,_=>⟨rfl,rfl⟩
 |2,0,_,_=>⟨rfl,rfl⟩
 |2,1,_,_=>⟨rfl,rfl⟩
 |2,2,_,_=>⟨rfl,rfl⟩
 |3,0,_,_=>⟨rfl,rfl⟩
 |3,1,_,_=>⟨rfl,rfl⟩
 |3,2,_,_=>⟨rfl,rfl⟩
 |4,0,_,_=>⟨rfl,rfl⟩
 |4,1,_,_=>⟨rfl,rfl⟩
 |4,2,_,_=>⟨rfl,rfl⟩
 |5,0,_,_=>⟨rfl,rfl⟩
 |5,1,_,_=>⟨rfl,rfl⟩
 |5,2,_,_=>⟨rfl,rfl⟩
 |6,0,_,_=>⟨rfl,rfl⟩
 |6,1,_,_=>⟨rfl,rfl⟩
 |6,2,_,_=>⟨rfl,rfl⟩
 |7,0,_,_=>⟨rfl,rfl⟩
 |7,1,_,_=>⟨rfl,rfl⟩
 |7,2,_,_=>⟨rfl,rfl⟩
 |8,0,_,_=>⟨rfl,rfl⟩
 |8,1,_,_=>⟨rfl,rfl⟩
 |8,2,_,_=>⟨rfl,rfl⟩
 |9,0,_,_=>⟨rfl,rfl⟩
 |9,1,_,_=>⟨rfl,rfl⟩
 |9,2,_,_=>⟨rfl,rfl⟩
theorem Km:∀i f,i<10->f<3->(⟨(Lib.trimSuffix (F5 i f).data.toList [63]).toArray⟩:ByteArray)=wB i/\Lib.hasSuffix (F5 i f).data.toList [63]=(f==2)
 |0,0,_,_=>⟨rfl,rfl⟩
 |0,1,_,_=>⟨rfl,rfl⟩
 |0,2,_,_=>⟨rfl,rfl⟩
 |1,0,_,_=>⟨rfl,rfl⟩
 |1,1,_,_=>⟨rfl,rfl⟩
 |1,2,_,_=>⟨rfl,rfl⟩
 |2,0,_,_=>⟨rfl,rfl⟩
 |2,1,_,_=>⟨rfl,rfl⟩
 |2,2,_,_=>⟨rfl,rfl⟩
 |3,0,_,_=>⟨rfl,rfl⟩
 |3,1,_,_=>⟨rfl,rfl⟩
 |3,2,_,_=>⟨rfl,rfl⟩
 |4,0,_,_=>⟨rfl,rfl⟩
 |4,1,_,_=>⟨rfl,rfl⟩
 |4,2,_,_=>⟨rfl,rfl⟩
 |5,0,_,_=>⟨rfl,rfl⟩
 |5,1,_,_=>⟨rfl,rfl⟩
 |5,2,_,_=>⟨rfl,rfl⟩
 |6,0,_,_=>⟨rfl,rfl⟩
 |6,1,_,_=>⟨rfl,rfl⟩
 |6,2,_,_=>⟨rfl,rfl⟩
 |7,0,_,_=>⟨rfl,rfl⟩
 |7,1,_,_=>⟨rfl,rfl⟩
 |7,2,_,_=>⟨rfl,rfl⟩
 |8,0,_,_=>⟨rfl,rfl⟩
 |8,1,_,_=>⟨rfl,rfl⟩
 |8,2,_,_=>⟨rfl,rfl⟩
 |9,0,_,_=>⟨rfl,rfl⟩
 |9,1,_,_=>⟨rfl,rfl⟩
 |9,2,_,_=>⟨rfl,rfl⟩
theorem yC:∀i f,i<10->f<3->(wS i f).size<=10/\(F5 i f).size<=10
 |0,0,_,_=>by decide
 |0,1,_,_=>by decide
 |0,2,_,_=>by decide
 |1,0,_,_=>by decide
 |1,1,_,_=>by decide
 |1,2,_,_=>by decide
 |2,0,_,_=>by decide
 |2,1,_,_=>by decide
 |2,2,_,_=>by decide
 |3,0,_,_=>by decide
 |3,1,_,_=>by decide
 |3,2,_,_=>by decide
 |4,0,_,_=>by decide
 |4,1,_,_=>by decide
 |4,2,_,_=>by decide
 |5,0,_,_=>by decide
 |5,1,_,_=>by decide
 |5,2,_,_=>by decide
 |6,0,_,_=>by decide
 |6,1,_,_=>by decide
 |6,2,_,_=>by decide
 |7,0,_,_=>by decide
 |7,1,_,_=>by decide
 |7,2,_,_=>by decide
 |8,0,_,_=>by decide
 |8,1,_,_=>by decide
 |8,2,_,_=>by decide
 |9,0,_,_=>by decide
 |9,1,_,_=>by decide
 |9,2,_,_=>by decide
theorem Kn(i f:Nat)(a:i<10)(b:f<3)(w:World):Calls Tryz.prog 201 #[.string (wS i f),.string ⟨#[42]⟩] w fun e c=>e= .returned (.tuple #[.string (F5 i f),.bool (f==1)])/\c=w:=by
 refine bc (Tryz.strings_CutSuffix (wS i f) ⟨#[42]⟩ w (by have:=(yC i f a b).1;omega)) ?_;obtain⟨g,d⟩:=Kl i f a b;refine⟨?_,rfl⟩;rw[<-g,<-d]
theorem Ko(i f:Nat)(a:i<10)(b:f<3)(w:World):Calls Tryz.prog 201 #[.string (F5 i f),.string ⟨#[63]⟩] w fun e c=>e= .returned (.tuple #[.string (wB i),.bool (f==2)])/\c=w:=by
 refine bc (Tryz.strings_CutSuffix (F5 i f) ⟨#[63]⟩ w (by have:=(yC i f a b).2;omega)) ?_;obtain⟨g,d⟩:=Km i f a b;refine⟨?_,rfl⟩;rw[<-g,<-d]
def cd(W:World)(v:Value)(ks:List Int):Prop:=
 (ks=[]/\∃b a,v= .slice b 0 a)\/∃b a,v= .slice (some b) ks.length a/\ks.length<=a/\∀e c,ks[e]?=some c->∃d,W.cell? (b.add e)=some (bi c d)/\W.cell? ⟨d,0,none⟩=some (.int .i64 c)
theorem cd.below{W a:World}{v:Value}{ks:List Int}(h:cd W v ks)(b:Below W.heap.size W a):cd a v ks:=by
 rcases h with h|⟨j,f,n,l,g⟩
 ·exact .inl h
 ·exact .inr ⟨j,f,n,l,fun k d i=>by obtain⟨m,e,c⟩:=g k d i;exact⟨m,aa b e,aa b c⟩⟩
theorem cd.form{W:World}{v:Value}{ks:List Int}(h:cd W v ks):∃a c,v= .slice a ks.length c:=by
 rcases h with⟨rfl,a,c,h⟩|⟨a,c,b,d⟩
 ·exact⟨a,c,h⟩
 ·exact⟨_,_,b⟩
theorem cd.get{W:World}{a:Option Addr}{n c:Nat}{ks:List Int}(h:cd W (.slice a n c) ks){j:Nat}{k:Int}(e:ks[j]?=some k):∃d b,a=some d/\W.cell? (d.add j)=some (bi k b)/\W.cell? ⟨b,0,none⟩=some (.int .i64 k):=by
 rcases h with⟨rfl,_⟩|⟨d,m,i,_,l⟩
 ·simp at e
 ·cases i;obtain⟨b,g,f⟩:=l j k e;exact⟨d,b,rfl,g,f⟩
def sI(i f:Nat)(ks:List Int):Nat:=if f=1 then(ks.takeWhile (ms i)).length else min 1 (ks.takeWhile (ms i)).length
def bq:List (Nat×Nat)->List Int->Bool
 |[],ks=>ks.isEmpty
 |(i,f)::a,ks=>if sI i f ks=0/\f=0 then false else bq a (ks.drop (sI i f ks))
structure oX (ws:List (Nat×Nat)) (ks:List Int) (R:Bool):Prop where
 out:bq ws ks=R
theorem CS(p:Int->Bool):∀(ks:List Int)(t:Nat),t<=(ks.takeWhile p).length->(t<(ks.takeWhile p).length↔∃k,ks[t]?=some k/\p k=true)
 |[],t,h=>by simp at h;subst h;simp
 |a::r,t,h=>by
  cases hp:p a with
  |false=>
   rw[List.takeWhile_cons_of_neg (by simp[hp])]at h⊢;simp at h;subst h;simp[hp]
  |true=>
   rw[List.takeWhile_cons_of_pos (by simp[hp])]at h⊢;cases t with
   |zero=>simp[hp]
   |succ t=>
    simp only[List.length_cons]at h⊢;have b:=CS p r t (by omega);rw[show(t+1<(r.takeWhile p).length+1)↔t<(r.takeWhile p).length by omega,b];simp
theorem Jr(p:Int->Bool)(ks:List Int):(ks.takeWhile p).length<=ks.length:=(List.takeWhile_sublist p).length_le
theorem Hx(i f:Nat)(ks:List Int):sI i f ks<=ks.length:=by
 have:=Jr (ms i) ks;unfold sI;split<;>omega
theorem Hy(i f:Nat)(ks:List Int)(t:Nat)(h:t<=sI i f ks):t<sI i f ks↔(f=1\/t=0)/\∃k,ks[t]?=some k/\ms i k=true:=by
 unfold sI at h⊢;by_cases a:f=1
 ·rw[if_pos a]at h⊢;rw[CS _ ks t h];simp[a]
 ·rw[if_neg a]at h⊢;by_cases b:t=0
  ·subst b;have:=CS (ms i) ks 0 (Nat.zero_le _);rw[show(0<min 1 (ks.takeWhile (ms i)).length)↔0<(ks.takeWhile (ms i)).length by omega,this];simp
  ·constructor
   ·intro h2;omega
   ·rintro ⟨h2|h2,_⟩
    ·exact absurd h2 a
    ·exact absurd h2 b
theorem eD{i f:Nat}{a:List (Nat×Nat)}{ks:List Int}{R:Bool}(h:oX ((i,f)::a) ks R)(b:¬(sI i f ks=0/\f=0)):oX a (ks.drop (sI i f ks)) R:=by
 have:=h.out;rw[bq,if_neg b]at this;exact⟨this⟩
theorem mz{i f:Nat}{a:List (Nat×Nat)}{ks:List Int}{R:Bool}(h:oX ((i,f)::a) ks R)(b:sI i f ks=0/\f=0):R=false:=by
 have:=h.out;rw[bq,if_pos b]at this;exact this.symm
theorem zU{α:Type}{a:List α}{k:Nat}{x:α}(h:a[k]?=some x):a.drop k=x::a.drop (k+1):=by
 have b:=(List.getElem?_eq_some_iff.1 h);rw[List.drop_eq_getElem_cons b.1,b.2]
theorem cd.sl{W:World}{a:Option Addr}{b c t:Nat}{ks:List Int}(h:cd W (.slice a b c) ks)(l:ks.length=b)(n:t<=b):cd W (.slice (if c=t then a else Option.map (fun x=>x.add t) a) (b-t) (c-t)) (ks.drop t):=by
 subst l;rcases h with⟨rfl,d,i,e⟩|⟨d,i,e,m,k⟩
 ·exact .inl ⟨by simp,_,_,by rw[show([]:List Int).length-t=0 by simp]⟩
 ·cases e;by_cases o:t=ks.length
  ·exact .inl ⟨by rw[List.drop_of_length_le (by omega)],_,_,by rw[show ks.length-t=0 by omega]⟩
  ·refine .inr ⟨d.add t,c-t,?_,by rw[List.length_drop];omega,fun g j f=>?_⟩
   ·rw[if_neg (by omega),List.length_drop];rfl
   ·rw[List.getElem?_drop]at f;rw[Addr.add_add];exact k (t+g) j f
theorem jn(w:World)(row:ByteArray)(q:List (Nat×Nat))(v:Value)(ks:List Int)(bE:Lib.fields row.data.toList=q.map fun x=>my x.1 x.2)(bD:∀x∈q,x.1<10/\x.2<3)(bN:row.size<4294967281)(bl:∀(j:Nat) b,row.data.toList[j]?=some b->b.toNat<128)(b2:Lib.TabIs Tryz.prog w "strings.asciiSpace" .u8 Lib.asciiSpaceTab)(a5:cd w v ks)(bA:ks.length<=1048576)(b8:q.length<=1048576):
  Calls Tryz.prog 178 #[.string row,v] w fun e b3=>e= .returned (.bool (bq q ks))/\Below w.heap.size w b3:=by
 have Y:=Tryz.strings_Fields row w bN bl b2;rw[bE]at Y;obtain⟨J,a6⟩:=ah (bq q ks);rw[a6];have bt:oX q ks J:=⟨a6⟩;have ak:Below w.heap.size w (w.alloc (.cells ((q.map fun x=>my x.1 x.2).map fun W=>Value.string ⟨W.toArray⟩).toArray 9)):=(Below.refl _ w).alloc (Nat.le_refl _) _;have bb:=a5.below ak;have bh:∀f n s,q[f]?=some (n,s)->(w.alloc (.cells ((q.map fun x=>my x.1 x.2).map fun W=>Value.string ⟨W.toArray⟩).toArray 9)).cell? ⟨w.heap.size,f,none⟩=some (.string (wS n s)):=fun f n s b0=>by
  rw[cell_of_row _ _ _ _ _ _ (heap_alloc_new w _)];simp[b0,wS]
 obtain⟨S,al⟩:=ah q.length;have b1:=ab al;have b9:=ab bD;have bk:(q.map fun x=>my x.1 x.2).length=S:=by rw[List.length_map,al]
 rw[bk]at Y;rw[al]at b8;obtain⟨cg,cl,rfl⟩:=a5.form;have b7:=ab bA;clear a6 bE bD bN bl b2 a5 al bk bA;generalize w.alloc (.cells ((q.map fun x=>my x.1 x.2).map fun W=>Value.string ⟨W.toArray⟩).toArray 9)=ch at Y ak bb bh;have b5:=ab bh;have av:=ab bb;clear bh bb;generalize cb:ks.length=lk at av⊢;go_in;go_wp2_with fail;refine Y.mono ?_;rintro e bs ⟨rfl,rfl⟩;clear Y;go_wp2_with fail;go_loop [1,14] (fun b4 a2=>∃(f:Nat) (d:List Int),f<=S/\a2= .int .i64 f/\Hid (cd bs b4 d/\d.length<=1048576)/\oX (q.drop f) d J) (fun _ a2=>S-(intOf a2).toNat)
 case atStart=>exact⟨0,ks,Nat.zero_le _,rfl,⟨av.out,b7.out⟩,bt⟩
 case round=>
  obtain⟨f,d,b0,rfl,ap,af⟩:=hrel;clear bt av;obtain⟨L,K,rfl⟩:=ap.out.1.form;by_cases b6:f<S
  ·have cf:(f:Int)<(S:Int):=by omega
   have ck:(0:Int)<=(f:Int):=by omega
   obtain⟨⟨n,s⟩,an⟩:=aF b1.out b6;obtain⟨ao,a4⟩:=b9.out _ (List.mem_of_getElem? an);simp only at ao a4;have ar:=b5.out f n s an;have N:Hid (oX ((n,s)::q.drop (f+1)) d J):=by rw[zU an]at af;exact af
   have M:=fun w=>Kn n s ao a4 w;have kB:=fun w=>Ko n s ao a4 w;have m:=fun c w=>rf n ao c w;obtain⟨g,U⟩:=ah d.length;have C:=ab U;have bd:=ap.out.2;rw[U]at bd;have F:Hid (cd bs (.slice L g K) d):=by rw[<-U];exact ap.out.1
   rw[U];have bo:=Hx n s d;have a9:=Hy n s d;obtain⟨B,a8⟩:=ah (sI n s d);rw[a8]at bo a9;rw[U]at bo;have G:=ab a8;have a7:=ab a9;clear an af ap U a8 a9;generalize wS n s=cm at ar M;generalize F5 n s=ca at M kB;generalize wB n=cc at kB m;rcases(show s=0\/s=1\/s=2 by omega) with rfl|rfl|rfl
   ·go_wp2_with fail;refine(M _).mono ?_;rintro e t ⟨rfl,rfl⟩;go_wp2_with fail;refine(kB _).mono ?_;rintro e t ⟨rfl,rfl⟩;clear M kB ar;go_wp2_with fail;go_loop [10] (fun H=>∃a:Nat,H= .int .i64 a/\a<=B) (fun H=>B-(intOf H).toNat)
    case atStart=>exact⟨0,rfl,Nat.zero_le _⟩
    case round=>
     obtain⟨a,rfl,V⟩:=hrel;have k:=a7.out a V;have bn:(0:Int)<=(a:Int):=by omega
     by_cases X:a<B
     ·obtain⟨am,c,l,p⟩:=k.1 X;obtain⟨r,b,rfl,i,T⟩:=F.out.get l;have E:(a:Int)<(g:Int):=by omega
      obtain rfl:a=0:=by rcases am with h|h;exact absurd h (by decide);exact h
      rw[show r.add 0=r from by unfold Addr.add;rw[if_pos rfl]]at i;have o:=fun w=>m c w;rw[p]at o;have z:=fun w=>gw c b w;have A:=fun w=>bm b w;unfold bi at i;generalize eK (aY c)=R at i z;clear l p m k;go_wp2_with (first|(go_at_call 202;refine(o _).mono ?_;rintro e t ⟨rfl,rfl⟩)|(go_at_call 265;refine(A _).mono ?_;rintro e t ⟨rfl,rfl⟩));go_round
      case rel=>exact⟨0+1,by go_num,by omega⟩
      case measure=>simp[intOf];omega
     ·obtain rfl:a=B:=by omega
      by_cases Z:a=0
      ·subst Z;by_cases E:0<g
       ·have I:(0:Int)<(g:Int):=by omega
        obtain⟨c,l⟩:=aF C.out E;have p:ms n c=false:=by
         cases h:ms n c
         ·rfl
         ·exact absurd (k.2 ⟨.inr rfl,c,l,h⟩) (by omega)
        obtain⟨r,b,Q,i,T⟩:=F.out.get l;subst Q;rw[show r.add 0=r from by unfold Addr.add;rw[if_pos rfl]]at i;have o:=fun w=>m c w;rw[p]at o;have z:=fun w=>gw c b w;have A:=fun w=>bm b w;unfold bi at i;generalize eK (aY c)=R at i z;clear l p m k;go_wp2_with (first|(go_at_call 202;refine(o _).mono ?_;rintro e O ⟨rfl,rfl⟩)|(go_at_call 265;refine(A _).mono ?_;rintro e O ⟨rfl,rfl⟩));go_ret;exact⟨by rw[mz N.out ⟨G.out,rfl⟩];rfl,ak⟩
       ·have I:¬(0:Int)<(g:Int):=by omega
        clear k m;go_wp2_with fail;go_ret;exact⟨by rw[mz N.out ⟨G.out,rfl⟩];rfl,ak⟩
      ·have y:Hid (oX (q.drop (f+1)) (d.drop a) J):=by
        have h:=eD N.out (by rw[G.out];omega);rw[G.out]at h;exact h
       have u:Hid (cd t (.slice (if K=a then L else Option.map (fun x=>x.add a) L) (g-a) (K-a)) (d.drop a)/\(d.drop a).length<=1048576):=⟨F.out.sl C.out (by omega),by rw[List.length_drop,C.out];omega⟩;have br:¬(a:Int)=0:=by omega
       by_cases E:a<g
       ·have I:(a:Int)<(g:Int):=by omega
        clear k m;go_wp2_with fail;exact⟨⟨f+1,d.drop a,by omega,by go_num,u.out,y.out⟩,by simp[intOf];omega⟩
       ·have I:¬(a:Int)<(g:Int):=by omega
        clear k m;go_wp2_with fail;exact⟨⟨f+1,d.drop a,by omega,by go_num,u.out,y.out⟩,by simp[intOf];omega⟩
   ·go_wp2_with fail;refine(M _).mono ?_;rintro e t ⟨rfl,rfl⟩;go_wp2_with fail;refine(kB _).mono ?_;rintro e t ⟨rfl,rfl⟩;clear M kB ar;go_wp2_with fail;go_loop [10] (fun H=>∃a:Nat,H= .int .i64 a/\a<=B) (fun H=>B-(intOf H).toNat)
    case atStart=>exact⟨0,rfl,Nat.zero_le _⟩
    case round=>
     obtain⟨a,rfl,V⟩:=hrel;have k:=a7.out a V;have bn:(0:Int)<=(a:Int):=by omega
     by_cases X:a<B
     ·obtain⟨am,c,l,p⟩:=k.1 X;obtain⟨r,b,rfl,i,T⟩:=F.out.get l;have E:(a:Int)<(g:Int):=by omega
      have o:=fun w=>m c w;rw[p]at o;have z:=fun w=>gw c b w;have A:=fun w=>bm b w;unfold bi at i;generalize eK (aY c)=R at i z;clear l p m k;go_wp2_with (first|(go_at_call 202;refine(o _).mono ?_;rintro e t ⟨rfl,rfl⟩)|(go_at_call 265;refine(A _).mono ?_;rintro e t ⟨rfl,rfl⟩));go_round
      case rel=>exact⟨a+1,by go_num,by omega⟩
      case measure=>simp[intOf];omega
     ·obtain rfl:a=B:=by omega
      by_cases Z:a=0
      ·subst Z;have y:Hid (oX (q.drop (f+1)) d J):=by
        have h:=eD N.out (by rw[G.out];omega);rw[G.out,List.drop_zero]at h;exact h
       have u:Hid (cd t (.slice L g K) d/\d.length<=1048576):=⟨F.out,by rw[C.out];exact bd⟩;by_cases E:0<g
       ·have I:(0:Int)<(g:Int):=by omega
        obtain⟨c,l⟩:=aF C.out E;have p:ms n c=false:=by
         cases h:ms n c
         ·rfl
         ·exact absurd (k.2 ⟨.inl (by first|rfl|trivial),c,l,h⟩) (by omega)
        obtain⟨r,b,Q,i,T⟩:=F.out.get l;subst Q;rw[show r.add 0=r from by unfold Addr.add;rw[if_pos rfl]]at i;have o:=fun w=>m c w;rw[p]at o;have z:=fun w=>gw c b w;have A:=fun w=>bm b w;unfold bi at i;generalize eK (aY c)=R at i z;clear l p m k;go_wp2_with (first|(go_at_call 202;refine(o _).mono ?_;rintro e O ⟨rfl,rfl⟩)|(go_at_call 265;refine(A _).mono ?_;rintro e O ⟨rfl,rfl⟩));exact⟨⟨f+1,d,by omega,by go_num,u.out,y.out⟩,by simp[intOf];omega⟩
       ·have I:¬(0:Int)<(g:Int):=by omega
        clear k m;go_wp2_with fail;exact⟨⟨f+1,d,by omega,by go_num,u.out,y.out⟩,by simp[intOf];omega⟩
      ·have y:Hid (oX (q.drop (f+1)) (d.drop a) J):=by
        have h:=eD N.out (by rw[G.out];omega);rw[G.out]at h;exact h
       have u:Hid (cd t (.slice (if K=a then L else Option.map (fun x=>x.add a) L) (g-a) (K-a)) (d.drop a)/\(d.drop a).length<=1048576):=⟨F.out.sl C.out (by omega),by rw[List.length_drop,C.out];omega⟩;have br:¬(a:Int)=0:=by omega
       by_cases E:a<g
       ·have I:(a:Int)<(g:Int):=by omega
        obtain⟨c,l⟩:=aF C.out E;have p:ms n c=false:=by
         cases h:ms n c
         ·rfl
         ·exact absurd (k.2 ⟨.inl (by first|rfl|trivial),c,l,h⟩) (by omega)
        obtain⟨r,b,Q,i,T⟩:=F.out.get l;subst Q;have o:=fun w=>m c w;rw[p]at o;have z:=fun w=>gw c b w;have A:=fun w=>bm b w;unfold bi at i;generalize eK (aY c)=R at i z;clear l p m k;go_wp2_with (first|(go_at_call 202;refine(o _).mono ?_;rintro e O ⟨rfl,rfl⟩)|(go_at_call 265;refine(A _).mono ?_;rintro e O ⟨rfl,rfl⟩));exact⟨⟨f+1,d.drop a,by omega,by go_num,u.out,y.out⟩,by simp[intOf];omega⟩
       ·have I:¬(a:Int)<(g:Int):=by omega
        clear k m;go_wp2_with fail;exact⟨⟨f+1,d.drop a,by omega,by go_num,u.out,y.out⟩,by simp[intOf];omega⟩
   ·go_wp2_with fail;refine(M _).mono ?_;rintro e t ⟨rfl,rfl⟩;go_wp2_with fail;refine(kB _).mono ?_;rintro e t ⟨rfl,rfl⟩;clear M kB ar;go_wp2_with fail;go_loop [10] (fun H=>∃a:Nat,H= .int .i64 a/\a<=B) (fun H=>B-(intOf H).toNat)
    case atStart=>exact⟨0,rfl,Nat.zero_le _⟩
    case round=>
     obtain⟨a,rfl,V⟩:=hrel;have k:=a7.out a V;have bn:(0:Int)<=(a:Int):=by omega
     by_cases X:a<B
     ·obtain⟨am,c,l,p⟩:=k.1 X;obtain⟨r,b,rfl,i,T⟩:=F.out.get l;have E:(a:Int)<(g:Int):=by omega
      obtain rfl:a=0:=by rcases am with h|h;exact absurd h (by decide);exact h
      rw[show r.add 0=r from by unfold Addr.add;rw[if_pos rfl]]at i;have o:=fun w=>m c w;rw[p]at o;have z:=fun w=>gw c b w;have A:=fun w=>bm b w;unfold bi at i;generalize eK (aY c)=R at i z;clear l p m k;go_wp2_with (first|(go_at_call 202;refine(o _).mono ?_;rintro e t ⟨rfl,rfl⟩)|(go_at_call 265;refine(A _).mono ?_;rintro e t ⟨rfl,rfl⟩));go_round
      case rel=>exact⟨0+1,by go_num,by omega⟩
      case measure=>simp[intOf];omega
     ·obtain rfl:a=B:=by omega
      by_cases Z:a=0
      ·subst Z;have y:Hid (oX (q.drop (f+1)) d J):=by
        have h:=eD N.out (by rw[G.out];omega);rw[G.out,List.drop_zero]at h;exact h
       have u:Hid (cd t (.slice L g K) d/\d.length<=1048576):=⟨F.out,by rw[C.out];exact bd⟩;by_cases E:0<g
       ·have I:(0:Int)<(g:Int):=by omega
        obtain⟨c,l⟩:=aF C.out E;have p:ms n c=false:=by
         cases h:ms n c
         ·rfl
         ·exact absurd (k.2 ⟨.inr rfl,c,l,h⟩) (by omega)
        obtain⟨r,b,Q,i,T⟩:=F.out.get l;subst Q;rw[show r.add 0=r from by unfold Addr.add;rw[if_pos rfl]]at i;have o:=fun w=>m c w;rw[p]at o;have z:=fun w=>gw c b w;have A:=fun w=>bm b w;unfold bi at i;generalize eK (aY c)=R at i z;clear l p m k;go_wp2_with (first|(go_at_call 202;refine(o _).mono ?_;rintro e O ⟨rfl,rfl⟩)|(go_at_call 265;refine(A _).mono ?_;rintro e O ⟨rfl,rfl⟩));exact⟨⟨f+1,d,by omega,by go_num,u.out,y.out⟩,by simp[intOf];omega⟩
       ·have I:¬(0:Int)<(g:Int):=by omega
        clear k m;go_wp2_with fail;exact⟨⟨f+1,d,by omega,by go_num,u.out,y.out⟩,by simp[intOf];omega⟩
      ·have y:Hid (oX (q.drop (f+1)) (d.drop a) J):=by
        have h:=eD N.out (by rw[G.out];omega);rw[G.out]at h;exact h
       have u:Hid (cd t (.slice (if K=a then L else Option.map (fun x=>x.add a) L) (g-a) (K-a)) (d.drop a)/\(d.drop a).length<=1048576):=⟨F.out.sl C.out (by omega),by rw[List.length_drop,C.out];omega⟩;have br:¬(a:Int)=0:=by omega
       by_cases E:a<g
       ·have I:(a:Int)<(g:Int):=by omega
        clear k m;go_wp2_with fail;exact⟨⟨f+1,d.drop a,by omega,by go_num,u.out,y.out⟩,by simp[intOf];omega⟩
       ·have I:¬(a:Int)<(g:Int):=by omega
        clear k m;go_wp2_with fail;exact⟨⟨f+1,d.drop a,by omega,by go_num,u.out,y.out⟩,by simp[intOf];omega⟩
  ·obtain rfl:f=S:=by omega
   have a3:=af.out;rw[List.drop_of_length_le (by rw[b1.out];exact Nat.le_refl _),bq]at a3;have bx:((d.length:Int)==0)=J:=by
    rw[<-a3];cases d with
    |nil=>rfl
    |cons x cn=>simp;omega
   have bw:=ab bx;clear bx a3 af;generalize d.length=g at bw⊢;go_wp2_with fail;go_ret;exact⟨by rw[<-bw.out];rfl,ak⟩
end Go.Proofs.YtcbmoiabehpliaaGreatDoor
