import Derived.Test.YtnoojdbdapljoaaGreatDoorHOk12
import Derived.Test.YtnoojdbdapljoaaGreatDoorHOk13
import Derived.Test.YtnoojdbdapljoaaGreatDoorHOk27
set_option linter.all false
set_option maxRecDepth 100000
set_option maxHeartbeats 6400000
open Go.Value renaming slice->M,int->X,string->A4,int->A5
open Option renaming some->O,none->Q
open Go renaming World->R,Calls->A2,Value->A3,maxLen->A6
open Go.Proofs.Tryz renaming prog->S
open Go.IntKind renaming i64->U
open Go.Ending renaming returned->V
open Go.RowKit renaming Below->Z,Hid->Ax
open Bool renaming false->A0
open Go.Obj renaming cells->A1
namespace Go.Proofs.YtnoojdbdapljoaaGreatDoor
open Go.RowKit Go.Maps Go.WideMaps
structure Cu (E:Bs) (W:R) (y:Int):Prop where
 lo:E.base<=E.cb/\E.base<=W.heap.size
 hl:E.len<=1048576
 code:Code E.base W E.a0 E.len
 cur:∃p q r,eL E.cb W E.a0 E.len E.cap p q r/\0<=p/\p<=y/\0<=r/\r<=3
section
variable {E : Bs} {W W' : World} {y z : Int}
theorem Cu.wide(h:Cu E W y)(i:y<=z):Cu E W z:=by
 obtain⟨d,e,f,a,b,g,c⟩:=h.cur;exact⟨h.lo,h.hl,h.code,d,e,f,a,b,by omega,c⟩
theorem Cu.below(h:Cu E W y){b:Nat}(a:Z b W W')(e:E.cb<b):Cu E W' y:=by
 obtain⟨f,g,i,c,d⟩:=h.cur;exact⟨⟨h.lo.1,bz h.lo.2 a.size⟩,h.hl,h.code.below (a.mono (by have:=h.lo.1;omega)),f,g,i,c.below a e,d⟩
theorem Cu.lt(h:Cu E W y):E.cb<W.heap.size:=by
 obtain⟨b,c,d,a,_⟩:=h.cur;exact a.lt
theorem zH(h:Cu E W y)(k:Int)(j:2<=k)(l:k<=200)(r:y<=900000000):
  A2 S 58 #[cV E,X U k] W fun e w'=>∃z:Int,e= V (X U z)/\(0<=z/\z<k)/\Cu E w' (y+1)/\Kb W w'/\Z E.base W w':=by
 obtain⟨d,o,f,b,n,s,m⟩:=h.cur;refine(Ed k j l E.cb E.base W E.a0 E.len E.cap d o f b h.code n (by omega) h.hl).mono ?_;rintro e w' ⟨z,z0,q,i,p,g,c⟩;have a:=ua c h.lo.1 h.lo.2;exact⟨z,i,⟨z0,q⟩,⟨⟨h.lo.1,bz h.lo.2 a.size⟩,h.hl,h.code.below a,d+1,p,f,g,by omega,by omega,m⟩,Kb.grown c b (.inr (.inr rfl)),a⟩
theorem Cu.start(h:Cu E W y)(n:y<=50)(c:Int)(r:Rwx)(i:TO r.t)(g:W.ownsRow E.base r.t 1 r.v r.xs.length r.xs):Bd ⟨E.base,E.cb,W.heap.size,E.a0,E.len,E.cap,50⟩ (W.alloc (A1 #[cV E,M Q 0 0,X U c] 123)) [] c 0 [r]:=by
 have a:=bel1 W (A1 #[cV E,M Q 0 0,X U c] 123);obtain⟨j,k,l,d,e,m,f⟩:=h.cur;exact⟨⟨h.lo.1,h.lo.2⟩,⟨h.hl,(by decide:(50:Int)<=100)⟩,h.code.below (a.mono h.lo.2),⟨j,k,l,d.below a h.lt,e,by simp;omega,f⟩,⟨_,aw W _,bk _ _ _ _⟩,fun z b=>(by cases b),fun z b=>by rw[List.mem_singleton.1 b];exact⟨i,aG g a⟩,by simp[bR,bL];cases r.v.ownBlock<;>simp⟩
end
def TrP(E:Bs)(W:R)(e:Ending)(w':R):Prop:=
 ∃(d a c:Nat) (b:List Mb),e= V (.agg #[M (O ⟨d,0,Q⟩) a c])/\b.length=a/\a<=30000/\Lw w' E.base (M (O ⟨d,0,Q⟩) a c) b/\(∀y∈b,Je y.N)/\Cu E w' 20000000/\Z E.base W w'
theorem Cu.same{E a:Bs}{W:R}{y:Int}(h:Cu a W y)(e:a.base=E.base/\a.cb=E.cb/\a.a0=E.a0/\a.len=E.len/\a.cap=E.cap):Cu E W y:=by
 obtain⟨c,d,f,b,l⟩:=e;obtain⟨g,i,j,n,o,p,k,m⟩:=h;rw[c,d]at g;rw[b]at i;rw[c,f,b]at j;rw[d,f,b,l]at k;exact⟨g,i,j,n,o,p,k,m⟩
theorem acJ{c:Bs}{wr f:R}{a:List Mb}{J:Int}{q h s:Nat}{b r:Option Addr}{ks:List Int}{L:A3}
  (H:Bd c wr a J 2 (⟨9,M Q 0 0,([]:List ByteArray).map Value.string⟩::⟨3,M b ks.length h,ks.map (A5 U)⟩::[⟨25,M (O ⟨q,0,Q⟩) 1 1,[M Q 0 0]⟩]))
  (C:wr.heap[c.bb]?=O (A1 #[cV c,M r a.length s,X U J] 123 (0,0))) (ap:Je (dN 1 0 0 ⟨#[]⟩ [] ks)) (bn:a.length<=25000)
  (x:f.ownsRow c.base 35 9 L (a.length+1) (jn a++(dw (dN 1 0 0 ⟨#[]⟩ [] ks) (M Q 0 0) (M b ks.length h)).toList))
  (a1:(wr.alloc (A1 (dw (dN 1 0 0 ⟨#[]⟩ [] ks) (M Q 0 0) (M b ks.length h)) 35)).grownBy f (Value.slice r a.length s).ownBlock):
  ∃e d,L= M (O ⟨e,0,Q⟩) (a.length+1) d/\f.cell? ⟨c.bb,1,Q⟩=O (M r a.length s)/\f.frozen? ⟨c.bb,1,Q⟩=A0/\f.cell? ⟨q,0,Q⟩=O (M Q 0 0)/\f.frozen? ⟨q,0,Q⟩=A0/\q≠c.bb/\c.bb≠q/\
   Ax (∀j,j=(f.setCell ⟨c.bb,1,Q⟩ (M (O ⟨e,0,Q⟩) (a.length+1) d)).setCell ⟨q,0,Q⟩ (M (O ⟨e,0,Q⟩) (a.length+1) d)->
    Lw j c.base (M (O ⟨e,0,Q⟩) (a.length+1) d) (a++[⟨dN 1 0 0 ⟨#[]⟩ [] ks,M Q 0 0,M b ks.length h⟩])/\(∀y∈a++[(⟨dN 1 0 0 ⟨#[]⟩ [] ks,M Q 0 0,M b ks.length h⟩:Mb)],Je y.N)/\Cu c j 20000000/\Z c.base wr j/\j.heap[q]?=O (A1 #[M (O ⟨e,0,Q⟩) (a.length+1) d] 25 (0,0))):=by
 have l:=bel1 wr (A1 (dw (dN 1 0 0 ⟨#[]⟩ [] ks) (M Q 0 0) (M b ks.length h)) 35);have ao:=H.below l;have a4:=(l.block _ (ax C)).trans C;rcases bq x with⟨bl,_⟩|⟨e,d,rfl⟩
 ·omega
 have am:jn a++(dw (dN 1 0 0 ⟨#[]⟩ [] ks) (M Q 0 0) (M b ks.length h)).toList=jn (a++[⟨dN 1 0 0 ⟨#[]⟩ [] ks,M Q 0 0,M b ks.length h⟩]):=by rw[uq];show _=jn a++(cMb _++[]);rw[dA];rfl
 rw[am]at x;obtain⟨K,ad,p⟩:=Bd.push (N:=dN 1 0 0 ⟨#[]⟩ [] ks) ao a4 rfl x a1 ap;have a3:=(K.rows _ cH).2;obtain⟨i,m,a0⟩:∃i,(f.setCell ⟨c.bb,1,Q⟩ (M (O ⟨e,0,Q⟩) (a.length+1) d)).heap[q]?=O (A1 i 25 (0,0))/\i=#[M Q 0 0]:=by
  rcases a3.2 with⟨k,_⟩|⟨bf,bd,i,k,_,ar,F,G,n,u⟩
  ·cases k
  ·cases k;refine⟨i,ar,?_⟩;have:i.toList=[M Q 0 0]:=by
    have an:i.toList.take (1*1)=[M Q 0 0]:=u;rw[<-an,cw];rw[iq,n];exact ah _
   exact Array.toList_inj.1 this
 subst a0;have o:q≠c.bb:=fun k=>by
  rw[k,cD _ c.bb 1 _ _ _ p]at m;simp only[gg,jh]at m;exact absurd m.2.1 (by decide)
 have I:f.heap[q]?=O (A1 #[M Q 0 0] 25 (0,0)):=(bh _ _ _ _ o).symm.trans m;refine⟨e,d,rfl,by rw[az _ _ _ _ _ _ p];rfl,du _ _ _ _ _ p,by rw[az _ _ _ _ _ _ I];rfl,du _ _ _ _ _ I,o,o.symm,?_⟩;rintro j rfl;obtain⟨g,af⟩:=K.hot (r':=⟨25,M Q 0 0,[]⟩) (vv (tL _ q) 0 (M (O ⟨e,0,Q⟩) (a.length+1) d)) (by show TO 25;decide) (bk _ _ _ _) (fun b l=>by cases l);have a2:=cD (f.setCell ⟨c.bb,1,Q⟩ (M (O ⟨e,0,Q⟩) (a.length+1) d)) q 0 _ _ (M (O ⟨e,0,Q⟩) (a.length+1) d) m;obtain⟨a9,B,a7⟩:=g.row;have ak:a9= M (O ⟨e,0,Q⟩) (a.length+1) d:=by
  rw[bh _ _ _ _ o.symm,cD _ c.bb 1 _ _ _ p]at B;simp at B;exact B.symm
 subst ak;obtain⟨a5,a6,a8,F,G,n,u⟩:=g.cur;refine⟨⟨by simpa using a7,fun y A=>(g.each y A).1⟩,fun y A=>(g.each y A).2,⟨⟨g.lo.1,g.lt.2.2.1⟩,g.hl.1,g.code,a5,a6,a8,F,G,?_,u⟩,((l.mono H.lt.2.2.1).trans ad).trans af,a2⟩;have:=g.hl.2;rw[aC]at n;simp at n;omega
theorem ajH{E:Bs}{W:R}{y:Int}(h:Cu E W y)(dk:y<=10):A2 S 30 #[cV E] W (TrP E W):=by
 have cc:=h.lt;have K:=aq fun (cp:Obj)=>zH (h.below (bel1 W cp) cc) 120 (by decide) (by decide) (by omega);go_in;go_wp2_with fail;refine(K.out _).mono ?_;rintro r w1 ⟨z,rfl,a9,l,L,af⟩;have a7:=L.blk (aw W _) (by decide);have ar:Z E.base W w1:=((bel1 W _).mono h.lo.2).trans af;have a4:w1.ownsRow E.base 25 1 (.slice (O ⟨W.heap.size,0,Q⟩) 1 1) 1 [.slice Q 0 0]:=⟨rfl,.inr ⟨W.heap.size,1,#[.slice Q 0 0],rfl,h.lo.2,a7,ah _,by unfold A6;omega,rfl,rfl⟩⟩;have o:=l.start (by omega) (20+z) ⟨25,.slice (O ⟨W.heap.size,0,Q⟩) 1 1,[.slice Q 0 0]⟩ (by show TO 25;decide) a4;have df:IntKind.i64.wrap (20+z)=20+z:=by rw[cJ];omega
 have ce:=l.lt;have J:=aq ar;clear K L a7 af ar a4;go_wp2_with fail;obtain⟨cr,x⟩:=aA (w1.alloc (.cells #[cV E,.slice Q 0 0,.int .i64 (20+z)] 123));have A:=bel1 w1 (.cells #[cV E,.slice Q 0 0,.int .i64 (20+z)] 123);obtain⟨a,hF⟩:=aA (⟨E.base,E.cb,w1.heap.size,E.a0,E.len,E.cap,50⟩:Bs);have m:a.base=E.base/\a.cb=E.cb/\w1.heap.size=a.bb/\a.a0=E.a0/\a.len=E.len/\a.cap=E.cap:=by rw[<-hF];exact⟨rfl,rfl,rfl,rfl,rfl,rfl⟩
 have ao:cV E=cV a:=by show Value.pointer _=Value.pointer _;rw[m.2.1]
 rw[hF,x]at o;rw[x]at A⊢;have j:=dx (J.out.trans (A.mono l.lo.2)) m;rw[m.2.2.1,ao];clear x A hF ce ao J l m;have bl:=mI o 5 (by decide) (by decide) (by decide) (by decide);refine bl.mono ?_;rintro r ds ⟨q,ct,cu,rfl,H,_,ak⟩;have bn:=mI H 8 (by decide) (by decide) (by decide) (by decide);have c9:IntKind.i64.wrap (1+q)=1+q:=by rw[cJ];omega
 have bs:=aq (j.out.1.trans (by rw[<-j.out.2.1];exact ak));clear bl ak o H;go_wp2_with fail;refine bn.mono ?_;rintro r G ⟨bp,co,dn,rfl,I,_,am⟩;obtain⟨bp,rfl⟩:=ir co;have bt:=aq (bs.out.trans (by rw[<-j.out.2.1];exact am));have F:qr a G [] (20+z) 2 [⟨25,.slice (O ⟨W.heap.size,0,Q⟩) 1 1,[.slice Q 0 0]⟩] 1101:=⟨I.wide (by decide),by simp;omega,by omega,by decide,by decide⟩;have hS:=abF (d:=1+q) (by omega);clear bn am I;go_wp2_with fail;go_loopw [5,6] (fun v C wr=>∃(b:Nat) (e:List Mb) (c:List Int),C= .int .i64 b/\c.length+b<=7/\Pl c/\At a G [] (20+z) 2 wr e 2 (⟨3,v,c.map (A5 .i64)⟩::[⟨25,.slice (O ⟨W.heap.size,0,Q⟩) 1 1,[.slice Q 0 0]⟩])/\ -1400<=20+z-e.length) (fun _ C _=>(intOf C).toNat)
 case atStart=>exact⟨bp,[],[],rfl,by simp;omega,(fun z a9=>by cases a9),F.at.nil toI,by simp;omega⟩
 case round=>
  obtain⟨b,e,c,rfl,B,n,f,c0⟩:=hrel;have b0:=f.c2;have c3:b<=7:=by omega
  by_cases a1:0<b/\5<20+z-e.length
  ·have b8:(0:Int)<(b:Int):=by omega
   have ca:=a1.2;have bo:=f.sub F hS (by decide) (by omega) (by decide);have p:=dx B n;clear B n;go_wp2_with fail;refine bo.mono ?_;rintro r cq ⟨bx,br,rfl,bf,cB,bA,ap⟩;unfold Lf at ap;clear bo b0;go_wp2_with (at_builtin;refine bA.app br rfl (by have:=p.out.1;omega) rfl _ _ rfl rfl rfl ?_;intro ad an dz bD);go_roundw
   case rel=>exact⟨b-1,bx,c++[br],by go_num,by have:=p.out.1;simp;omega,p.out.2.add bf.1 bf.2,bD,by omega⟩
   case measure=>simp[intOf];omega
  ·obtain⟨bE,bF,rfl⟩:=f.formI;have c4:=f.len F;have i:=(f.nil EJ).bd;rw[fd]at i;obtain⟨v,s,u⟩:=i.row;obtain⟨ad,an,rfl⟩:=bI u;have cs:wr.cell? ⟨a.bb,1,Q⟩=O (.slice ad e.length an):=by rw[az _ _ _ _ _ _ s];rfl
   have b6:Je (dN 1 0 0 ⟨#[]⟩ [] c):=mw (by decide) (by decide) (by decide) (by decide) (by decide) ur (by omega) n;have c6:=i.lt;have k:=tI i s u f.bel;obtain⟨cf,ck,cl,cm,cn⟩:=dC yE;clear n B i s u;by_cases b8:0<b;all_goals
    first
    |(have b9:(0:Int)<(b:Int):=by omega
      have ca:¬5<20+z-e.length:=by omega)
    |(have b9:¬(0:Int)<(b:Int):=by omega)
    clear a1;go_wp2_with (at_builtin;refine wpList_append_own_at _ rfl _ _ 23 rfl a.base 35 cf _ 9 112 Tryz.underlying23 ck cl cm cn rfl (by decide) _ _ _ rfl (aG k.out.2.2.1 (bel1 wr _)) ⟨wr.heap.size,0,Q⟩ 1 1 (dw (dN 1 0 0 ⟨#[]⟩ [] c) (.slice Q 0 0) (.slice bE c.length bF)).toList rfl rfl (World.news_of_block (aw wr _)) (by intro dp a8;simp at a8;rcases a8 with rfl|rfl|rfl|rfl|rfl|rfl|rfl|rfl|rfl<;>rfl) (by unfold A6;omega) (by omega) (by simp;omega) ?_;intro dq cq a3 a2 _ b7;obtain⟨b5,b2,rfl,cx,ap,cy,cz,c7,c8,bw⟩:=acJ k.out.1 k.out.2.1 b6 (by omega) a3 a2;clear a3 a2 b7);have hF:=bw.out _ rfl;have g:=j.out.2;rw[g.1]at hF;exact bB (gi rfl _ _ W.heap.size _ _ _ _ rfl hF.2.2.2.2 Tryz.underlying25 rfl (by kernel_rfl)) rfl ⟨b5,e.length+1,b2,_,rfl,by simp,by omega,hF.1,hF.2.1,hF.2.2.1.same ⟨g.1,g.2.1,g.2.2.2⟩,bt.out.trans ((by rw[<-g.1];exact k.out.2.2.2:Z E.base G wr).trans hF.2.2.2.1)⟩
open Go.Lib (strCells strCells_length wpList_append_own_string)
theorem Bf(a b:ByteArray):strCells (a++b)=strCells a++strCells b:=by
 unfold strCells;rw[jj,Cy,en]
theorem Lz{w:R}{base g n cap:Nat}{T:ByteArray}(a:w.ownsRow base 5 1 (M (O ⟨g,0,Q⟩) n cap) n (strCells T)):
  (convert 22 9 (M (O ⟨g,0,Q⟩) n cap)).run S w= .ok (A4 T) w:=by
 have b:strCells T=B8 (nJ T.data.toList):=by
  unfold strCells B8 nJ;rw[List.map_map];rfl
 rw[b]at a;rw[je a,po]
theorem wH(k:Int)(w:R):A2 S 60 #[X U k] w fun e w'=>∃b,e= V (.bool b)/\w'=w:=by
 go_in;go_wp2;all_goals
  go_ret;exact⟨_,rfl,rfl⟩
section
variable {E : Bs} {W w w' : World} {y : Int}
theorem acK(h:Cu E W y)(n:y<=800000000):
  A2 S 61 #[cV E] W fun e w'=>∃s:ByteArray,e= V (A4 s)/\s.size<=5/\Cu E w' (y+1)/\Kb W w'/\Z E.base W w':=by
 have j:=h.lt;have i:=h.lo;have b:=aq fun (l:Obj)=>zH (h.below (bel1 W l) j) 7 (by decide) (by decide) (by omega);go_in;go_wp2_with fail;refine(b.out _).mono ?_;rintro e w1 ⟨z,rfl,o,c,a,d⟩;have f:=a.blk (aw W _) (by decide);have m:=fun k=>az w1 W.heap.size k _ _ _ f;have g:=gD c ((Kb.of_below (bel1 W _)).trans a) (((bel1 W _).mono i.2).trans d);clear c a d f b;rcases(show z=0\/z=1\/z=2\/z=3\/z=4\/z=5\/z=6 by omega) with rfl|rfl|rfl|rfl|rfl|rfl|rfl;all_goals
  go_wp2_with fail;go_ret;exact⟨_,rfl,by decide,g.out⟩
theorem agd{f c o k g d p l:Nat}{a e:A3}{q x2:List A3}(m:w.ownsRow f c o a k q)(n:w.ownsRow g d p e l x2)(j:c≠d):a.ownBlock=Q\/a.ownBlock≠e.ownBlock:=by
 rcases n.2 with⟨b,_⟩|⟨x,s,u,b,_,i,_⟩
 ·rw[b];cases h:a.ownBlock with
  |none=>exact .inl rfl
  |some r=>exact .inr (by simp[Value.ownBlock])
 ·right;rw[b];exact fl m i (gI j)
structure Lo (E:Bs) (W w:R) (y:Int) (v:A3) (t:ByteArray) (tv:A3) (ts:List Tk):Prop where
 cu:Cu E w y
 out:w.ownsRow E.base 5 1 v t.size (strCells t)
 tok:w.ownsRow E.base 109 6 tv ts.length (zn ts)
 bel:Z E.base W w
variable {v tv : Value} {t : ByteArray} {ts : List Tk}
theorem Lo.kb(h:Lo E W w y v t tv ts){z:Int}(c:Cu E w' z)(a:Kb w w')(b:Z E.base w w'):Lo E W w' z v t tv ts:=
 ⟨c,a.row h.out (by decide),a.row h.tok (by decide),h.bel.trans b⟩
theorem Lo.below(h:Lo E W w y v t tv ts)(a:Z w.heap.size w w'):Lo E W w' y v t tv ts:=
 h.kb (h.cu.below a h.cu.lt) (Kb.of_below a) (a.mono h.cu.lo.2)
theorem Lo.app{p:Array Oper}{q:List Oper}{e:Oper}{a:Act}{o:Exit->Act->R->Prop}(h:Lo E W w y v t tv ts)(s:ByteArray)(m:Nat)(an:s.size<=m)(ao:t.size+m<=4000000)(A:e.guard=Q)(n x:Operand)
  (B:e.op= .call {callee:= .builtin .append,args:=#[n,x],argTypes:=#[22,9]}) (G:a.eval n=v) (H:a.eval x= .string s)
  (k:∀g w1,Lo E W w1 y g (t++s) tv ts->(t++s).size<=t.size+m->(∀(b:Nat)(cs:Array A3)(f:TypeId)(fr:Nat×Nat),w.heap[b]?=O (.cells cs f fr)->f≠5->w1.heap[b]?=O (.cells cs f fr))->wpList S p o q (a.put e.dst g) w1):wpList S p o (e::q) a w:=by
 obtain⟨I,J,K,L,ad⟩:=dC Tryz.info5;refine wpList_append_own_string _ A n x 22 9 B E.base 5 I Tryz.underlying22 Tryz.underlying9 J K L ad _ _ _ G h.out s H (by unfold A6;omega) (by omega) h.cu.lo.2 ?_;intro g r C d _;have l:Z E.base w r:=(aj _ w).grown d h.cu.lo.2 (fun k c=>(h.out.lt k c).1);obtain⟨af,ak,am,i,u⟩:=h.cu.cur;refine k g r ⟨⟨⟨h.cu.lo.1,bz h.cu.lo.2 l.size⟩,h.cu.hl,h.cu.code.below l,af,ak,am,(d.block _ i.lt (fun j=>fl h.out i (by decide) j.symm)).trans i,u⟩,by rw[ag,Bf];exact C,h.tok.kept d (agd h.tok h.out (by decide)),h.bel.trans l⟩ (by rw[ag];omega) (fun b cs f fr c F=>(d.block _ (ax c) (fun j=>fl h.out c F j.symm)).trans c)
end
end Go.Proofs.YtnoojdbdapljoaaGreatDoor
namespace Go.Proofs.YtnoojdbdapljoaaGreatDoor
open Go.RowKit
theorem acL(w0:R)(p1:Addr)(n c1:Nat)(l:List Nd)(A:cg w0 (M (O p1) n c1) l)(C:ij w0 p1 l)(a6:l.length=n)(b2:n<=1048576)(tab:Nat)(i:Nat)(bD:i<n)(N:Nd)(x:al l i=N)(b1:N.ks.length<=1048576)(F:N.k=28)(G:N.k=31->1<=N.op/\N.op<=18)(I:Int)(b0:¬ew N.k N.op<I)(Y:ByteArray)(a3:∀vn vk,bu w0 vn N.nm->bi w0 vk N.ks->Wr w0 (M (O p1) n c1) tab 156 #[pW w0,dj N vn vk,A4 ⟨#[32,97,110,100,32]⟩,X U (ew N.k N.op)] Y):
  Wr w0 (M (O p1) n c1) tab 123 #[pW w0,X U (i:Int),X U I] (Y):=by
 intro h w j a4;obtain⟨e,b,g,d,a,f,c⟩:=eG A C (show i<l.length by omega);rw[x]at c;have a5:=j.lt;obtain⟨z0,bt,bw⟩:=j.cells;have a1:=c.hL;have a2:=c.hM;obtain⟨a8,a9,bb,bd,bf,bl,bn,bo,bp,_,_⟩:=c.rd w j.bel;have q:Ax (Bx w0 (M (O p1) n c1) tab w N (M e b g) (M d a f) h (w.alloc (ia N (M e b g) (M d a f)))):=Bx.new j N _ _;try simp only[ag]at a4
 have bE:(i:Int)<(n:Int):=by omega
 have bF:(0:Int)<=(i:Int):=by omega
 have p:Ax (∀(h:ByteArray)(W:R),Bx w0 (M (O p1) n c1) tab w N (M e b g) (M d a f) h W->tg W w.heap.size N (M e b g) (M d a f)):=fun h W a0=>a0.cells;have bA:=jd F 28 rfl;have r:Ax (∀w:R,A2 S 155 #[dj N (M e b g) (M d a f)] w fun u w'=>u= V (X U (ew N.k N.op))/\Z w.heap.size w w'):=fun w=>ey N _ _ G w;have s:Ax (Wr w0 (M (O p1) n c1) tab 156 _ (Y)):=a3 (M e b g) (M d a f) c.nm c.ks;have bx:=aq c;obtain⟨K,L,ad,af,am,ao,ap,ar,av⟩:=p.out _ _ q.out;clear j c A C x a6 bw bt a1 a2 F G;unfold dj at r s;generalize a7:ew N.k N.op=b3 at *;clear a7;go_in;go_wp2_with fail;refine cd (r.out _) fun br B=>?_;have o:Ax (Bx w0 (M (O p1) n c1) tab w N (M e b g) (M d a f) h br):=q.out.below B;obtain⟨K,L,ad,af,am,ao,ap,ar,av⟩:=p.out _ _ o.out;clear B a8 a9 bb bd bf bl bn bo bp z0;go_wp2_with fail;refine(s.out _ _ o.out.pr (by(try simp only[ag]);omega)).mono ?_;rintro u bs ⟨rfl,J,H⟩;have m:Ax (Bx w0 (M (O p1) n c1) tab w N (M e b g) (M d a f) (h++(Y)) bs):=o.out.next a5 J H
 obtain⟨K,L,ad,af,am,ao,ap,ar,av⟩:=p.out _ _ m.out;clear J H;go_wp2_with fail;go_end0
 refine⟨rfl,?_,m.out.kq⟩;have:=m.out.pr;simpa only[aF] using this
theorem age(w0:R)(p1:Addr)(n c1:Nat)(l:List Nd)(B:cg w0 (M (O p1) n c1) l)(F:ij w0 p1 l)(a6:l.length=n)(b3:n<=1048576)(tab:Nat)(i:Nat)(bE:i<n)(N:Nd)(A:al l i=N)(b2:N.ks.length<=1048576)(q:N.k=29)(G:N.k=31->1<=N.op/\N.op<=18)(I:Int)(b1:¬ew N.k N.op<I)(Y:ByteArray)(a3:∀vn vk,bu w0 vn N.nm->bi w0 vk N.ks->Wr w0 (M (O p1) n c1) tab 156 #[pW w0,dj N vn vk,A4 ⟨#[32,111,114,32]⟩,X U (ew N.k N.op)] Y):
  Wr w0 (M (O p1) n c1) tab 123 #[pW w0,X U (i:Int),X U I] (Y):=by
 intro h w j a4;obtain⟨e,b,g,d,a,f,c⟩:=eG B F (show i<l.length by omega);rw[A]at c;have a5:=j.lt;obtain⟨z0,bt,bw⟩:=j.cells;have a1:=c.hL;have a2:=c.hM;obtain⟨a8,a9,bb,bd,bf,bl,bn,bo,bp,_,_⟩:=c.rd w j.bel;have r:Ax (Bx w0 (M (O p1) n c1) tab w N (M e b g) (M d a f) h (w.alloc (ia N (M e b g) (M d a f)))):=Bx.new j N _ _;try simp only[ag]at a4
 have bF:(i:Int)<(n:Int):=by omega
 have b0:(0:Int)<=(i:Int):=by omega
 have p:Ax (∀(h:ByteArray)(W:R),Bx w0 (M (O p1) n c1) tab w N (M e b g) (M d a f) h W->tg W w.heap.size N (M e b g) (M d a f)):=fun h W a0=>a0.cells;have bA:=cC q 28 rfl;have bD:=jd q 29 rfl;have s:Ax (∀w:R,A2 S 155 #[dj N (M e b g) (M d a f)] w fun x w'=>x= V (X U (ew N.k N.op))/\Z w.heap.size w w'):=fun w=>ey N _ _ G w;have u:Ax (Wr w0 (M (O p1) n c1) tab 156 _ (Y)):=a3 (M e b g) (M d a f) c.nm c.ks;have bx:=aq c;obtain⟨K,L,ad,af,am,ao,ap,ar,av⟩:=p.out _ _ r.out;clear j c B F A a6 bw bt a1 a2 q G;unfold dj at s u;generalize a7:ew N.k N.op=b4 at *;clear a7;go_in;go_wp2_with fail;refine cd (s.out _) fun br C=>?_;have o:Ax (Bx w0 (M (O p1) n c1) tab w N (M e b g) (M d a f) h br):=r.out.below C;obtain⟨K,L,ad,af,am,ao,ap,ar,av⟩:=p.out _ _ o.out;clear C a8 a9 bb bd bf bl bn bo bp z0;go_wp2_with fail;refine(u.out _ _ o.out.pr (by(try simp only[ag]);omega)).mono ?_;rintro x bs ⟨rfl,J,H⟩;have m:Ax (Bx w0 (M (O p1) n c1) tab w N (M e b g) (M d a f) (h++(Y)) bs):=o.out.next a5 J H
 obtain⟨K,L,ad,af,am,ao,ap,ar,av⟩:=p.out _ _ m.out;clear J H;go_wp2_with fail;go_end0
 refine⟨rfl,?_,m.out.kq⟩;have:=m.out.pr;simpa only[aF] using this
theorem Hj(w0:R)(p1:Addr)(n c1:Nat)(m:List Nd)(B:cg w0 (M (O p1) n c1) m)(F:ij w0 p1 m)(a6:m.length=n)(b5:n<=1048576)(tab:Nat)(i:Nat)(b0:i<n)(N:Nd)(A:al m i=N)(b4:N.ks.length<=1048576)(l:N.k=30)(G:N.k=31->1<=N.op/\N.op<=18)(I:Int)(b3:¬ew N.k N.op<I)(Y:ByteArray)(a3:∀vn vk,bu w0 vn N.nm->bi w0 vk N.ks->Wr w0 (M (O p1) n c1) tab 157 #[pW w0,dj N vn vk] Y):
  Wr w0 (M (O p1) n c1) tab 123 #[pW w0,X U (i:Int),X U I] (Y):=by
 intro h w j a4;obtain⟨e,b,g,d,a,f,c⟩:=eG B F (show i<m.length by omega);rw[A]at c;have a5:=j.lt;obtain⟨z0,bt,bw⟩:=j.cells;have a1:=c.hL;have a2:=c.hM;obtain⟨a8,a9,bb,bd,bf,bl,bn,bo,bp,_,_⟩:=c.rd w j.bel;have r:Ax (Bx w0 (M (O p1) n c1) tab w N (M e b g) (M d a f) h (w.alloc (ia N (M e b g) (M d a f)))):=Bx.new j N _ _;try simp only[ag]at a4
 have b1:(i:Int)<(n:Int):=by omega
 have b2:(0:Int)<=(i:Int):=by omega
 have q:Ax (∀(h:ByteArray)(W:R),Bx w0 (M (O p1) n c1) tab w N (M e b g) (M d a f) h W->tg W w.heap.size N (M e b g) (M d a f)):=fun h W a0=>a0.cells;have bA:=cC l 28 rfl;have bD:=cC l 29 rfl;have bF:=cC l 31 rfl;have bE:=jd l 30 rfl;have s:Ax (∀w:R,A2 S 155 #[dj N (M e b g) (M d a f)] w fun x w'=>x= V (X U (ew N.k N.op))/\Z w.heap.size w w'):=fun w=>ey N _ _ G w;have u:Ax (Wr w0 (M (O p1) n c1) tab 157 _ (Y)):=a3 (M e b g) (M d a f) c.nm c.ks;have bx:=aq c;obtain⟨K,L,ad,af,am,ao,ap,ar,av⟩:=q.out _ _ r.out;clear j c B F A a6 bw bt a1 a2 l G;unfold dj at s u;generalize a7:ew N.k N.op=b6 at *;clear a7;go_in;go_wp2_with fail;refine cd (s.out _) fun br C=>?_;have p:Ax (Bx w0 (M (O p1) n c1) tab w N (M e b g) (M d a f) h br):=r.out.below C;obtain⟨K,L,ad,af,am,ao,ap,ar,av⟩:=q.out _ _ p.out;clear C a8 a9 bb bd bf bl bn bo bp z0;go_wp2_with fail;refine(u.out _ _ p.out.pr (by(try simp only[ag]);omega)).mono ?_;rintro x bs ⟨rfl,J,H⟩;have o:Ax (Bx w0 (M (O p1) n c1) tab w N (M e b g) (M d a f) (h++(Y)) bs):=p.out.next a5 J H
 obtain⟨K,L,ad,af,am,ao,ap,ar,av⟩:=q.out _ _ o.out;clear J H;go_wp2_with fail;go_end0
 refine⟨rfl,?_,o.out.kq⟩;have:=o.out.pr;simpa only[aF] using this
theorem Hk(w0:R)(p1:Addr)(n c1:Nat)(m:List Nd)(B:cg w0 (M (O p1) n c1) m)(F:ij w0 p1 m)(a6:m.length=n)(b9:n<=1048576)(tab:Nat)(i:Nat)(b4:i<n)(N:Nd)(A:al m i=N)(b8:N.ks.length<=1048576)(a:N.k=35)(G:N.k=31->1<=N.op/\N.op<=18)(I:Int)(b7:¬ew N.k N.op<I)(Y:ByteArray)(a3:∀vn vk,bu w0 vn N.nm->bi w0 vk N.ks->Wr w0 (M (O p1) n c1) tab 159 #[pW w0,dj N vn vk] Y):
  Wr w0 (M (O p1) n c1) tab 123 #[pW w0,X U (i:Int),X U I] (Y):=by
 intro j w l a4;obtain⟨f,c,h,e,b,g,d⟩:=eG B F (show i<m.length by omega);rw[A]at d;have a5:=l.lt;obtain⟨z0,bt,bw⟩:=l.cells;have a1:=d.hL;have a2:=d.hM;obtain⟨a8,a9,bb,bd,bf,bl,bn,bo,bp,_,_⟩:=d.rd w l.bel;have r:Ax (Bx w0 (M (O p1) n c1) tab w N (M f c h) (M e b g) j (w.alloc (ia N (M f c h) (M e b g)))):=Bx.new l N _ _;try simp only[ag]at a4
 have b5:(i:Int)<(n:Int):=by omega
 have b6:(0:Int)<=(i:Int):=by omega
 have q:Ax (∀(j:ByteArray)(W:R),Bx w0 (M (O p1) n c1) tab w N (M f c h) (M e b g) j W->tg W w.heap.size N (M f c h) (M e b g)):=fun j W a0=>a0.cells;have bA:=cC a 28 rfl;have bD:=cC a 29 rfl;have bF:=cC a 31 rfl;have bE:=cC a 30 rfl;have b0:=cC a 32 rfl;have b1:=cC a 33 rfl;have b2:=cC a 34 rfl;have b3:=jd a 35 rfl;have s:Ax (∀w:R,A2 S 155 #[dj N (M f c h) (M e b g)] w fun x w'=>x= V (X U (ew N.k N.op))/\Z w.heap.size w w'):=fun w=>ey N _ _ G w;have u:Ax (Wr w0 (M (O p1) n c1) tab 159 _ (Y)):=a3 (M f c h) (M e b g) d.nm d.ks;have bx:=aq d;obtain⟨K,L,ad,af,am,ao,ap,ar,av⟩:=q.out _ _ r.out;clear l d B F A a6 bw bt a1 a2 a G;unfold dj at s u;generalize a7:ew N.k N.op=ca at *;clear a7;go_in;go_wp2_with fail;refine cd (s.out _) fun br C=>?_;have p:Ax (Bx w0 (M (O p1) n c1) tab w N (M f c h) (M e b g) j br):=r.out.below C;obtain⟨K,L,ad,af,am,ao,ap,ar,av⟩:=q.out _ _ p.out;clear C a8 a9 bb bd bf bl bn bo bp z0;go_wp2_with fail;refine(u.out _ _ p.out.pr (by(try simp only[ag]);omega)).mono ?_;rintro x bs ⟨rfl,J,H⟩;have o:Ax (Bx w0 (M (O p1) n c1) tab w N (M f c h) (M e b g) (j++(Y)) bs):=p.out.next a5 J H
 obtain⟨K,L,ad,af,am,ao,ap,ar,av⟩:=q.out _ _ o.out;clear J H;go_wp2_with fail;go_end0
 refine⟨rfl,?_,o.out.kq⟩;have:=o.out.pr;simpa only[aF] using this
theorem Hl(w0:R)(p1:Addr)(n c1:Nat)(l:List Nd)(A:cg w0 (M (O p1) n c1) l)(C:ij w0 p1 l)(a6:l.length=n)(cb:n<=1048576)(tab:Nat)(i:Nat)(b6:i<n)(N:Nd)(x:al l i=N)(ca:N.ks.length<=1048576)(a3:20<=N.k/\N.k<=27)(F:N.k=31->1<=N.op/\N.op<=18)(H:Int)(b9:¬ew N.k N.op<H)(Y:ByteArray)(a2:∀vn vk,bu w0 vn N.nm->bi w0 vk N.ks->Wr w0 (M (O p1) n c1) tab 160 #[pW w0,dj N vn vk] Y):
  Wr w0 (M (O p1) n c1) tab 123 #[pW w0,X U (i:Int),X U H] (Y):=by
 intro h w j a4;obtain⟨e,b,g,d,a,f,c⟩:=eG A C (show i<l.length by omega);rw[x]at c;have a5:=j.lt;obtain⟨z0,bt,bw⟩:=j.cells;have a0:=c.hL;have a1:=c.hM;obtain⟨a8,a9,bb,bd,bf,bl,bn,bo,bp,_,_⟩:=c.rd w j.bel;have q:Ax (Bx w0 (M (O p1) n c1) tab w N (M e b g) (M d a f) h (w.alloc (ia N (M e b g) (M d a f)))):=Bx.new j N _ _;try simp only[ag]at a4
 have b7:(i:Int)<(n:Int):=by omega
 have b8:(0:Int)<=(i:Int):=by omega
 have p:Ax (∀(h:ByteArray)(W:R),Bx w0 (M (O p1) n c1) tab w N (M e b g) (M d a f) h W->tg W w.heap.size N (M e b g) (M d a f)):=fun h W av=>av.cells;have bA:(N.k==28)=A0:=by simp;omega
 have bD:(N.k==29)=A0:=by simp;omega
 have bF:(N.k==31)=A0:=by simp;omega
 have bE:(N.k==30)=A0:=by simp;omega
 have b0:(N.k==32)=A0:=by simp;omega
 have b1:(N.k==33)=A0:=by simp;omega
 have b2:(N.k==34)=A0:=by simp;omega
 have b3:(N.k==35)=A0:=by simp;omega
 have b4:(N.k==36)=A0:=by simp;omega
 have b5:(N.k==37)=A0:=by simp;omega
 have r:Ax (∀w:R,A2 S 155 #[dj N (M e b g) (M d a f)] w fun u w'=>u= V (X U (ew N.k N.op))/\Z w.heap.size w w'):=fun w=>ey N _ _ F w;have s:Ax (Wr w0 (M (O p1) n c1) tab 160 _ (Y)):=a2 (M e b g) (M d a f) c.nm c.ks;have bx:=aq c;obtain⟨J,K,L,ad,af,am,ao,ap,ar⟩:=p.out _ _ q.out;clear j c A C x a6 bw bt a0 a1 a3 F;unfold dj at r s;generalize a7:ew N.k N.op=cc at *;clear a7;go_in;go_wp2_with fail;refine cd (r.out _) fun br B=>?_;have o:Ax (Bx w0 (M (O p1) n c1) tab w N (M e b g) (M d a f) h br):=q.out.below B;obtain⟨J,K,L,ad,af,am,ao,ap,ar⟩:=p.out _ _ o.out;clear B a8 a9 bb bd bf bl bn bo bp z0;go_wp2_with fail;refine(s.out _ _ o.out.pr (by(try simp only[ag]);omega)).mono ?_;rintro u bs ⟨rfl,I,G⟩;have m:Ax (Bx w0 (M (O p1) n c1) tab w N (M e b g) (M d a f) (h++(Y)) bs):=o.out.next a5 I G
 obtain⟨J,K,L,ad,af,am,ao,ap,ar⟩:=p.out _ _ m.out;clear I G;go_wp2_with fail;go_end0
 refine⟨rfl,?_,m.out.kq⟩;have:=m.out.pr;simpa only[aF] using this
