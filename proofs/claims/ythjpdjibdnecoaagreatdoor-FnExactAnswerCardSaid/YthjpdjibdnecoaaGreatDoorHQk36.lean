import Derived.Test.YthjpdjibdnecoaaGreatDoorHQk13
import Derived.Test.YthjpdjibdnecoaaGreatDoorHQk35
import Derived.Test.YthjpdjibdnecoaaGreatDoorHQk28
set_option linter.all false
set_option maxRecDepth 100000
set_option maxHeartbeats 6400000
open Bool renaming false->M
open Go renaming Value->O,World->A1,Calls->A2
open Option renaming some->Q,none->U
open Go.Value renaming slice->S,int->Ax,int->A0,slice->A3,string->A4
open Go.Proofs.Tryz renaming prog->V
open Go.Ending renaming returned->Z
namespace Go.Proofs.YthjpdjibdnecoaaGreatDoor
open Go.RowKit Go.Maps Go.WideMaps
theorem aew{w:A1}{A:O}{ns:List Nd}{N:Nd}{vn vk:O}(d:fI w A ns N vn vk)(f:N.k=14):
  A2 V 66 #[.agg #[A],eC N vn vk] w fun e w'=>e= Z (.bool (aI N M M M true&&fh N 1 2&&((N.ks.length:Int)==2)&&(dH ns N 0==1)&&(dH ns N 1==1)))/\Below w.heap.size w w':=by
 obtain⟨K,ak,rfl⟩:=d.t.form;obtain⟨ad,al,rfl⟩:=d.n.form;obtain⟨af,am,rfl⟩:=d.k.form;have b:=St.start d;have an:=d.lx;have J:Hid (N.x.size<=1100000):=by show _<=_;omega
 clear d;have ao:=nF f;have ap:=sn f 14 rfl;clear f;cases t0:aI N M M M true
 case' true=>
  cases t1:fh N 1 2
  case' true=>
   cases t2:((N.ks.length:Int)==2)
   case' true=>
    have C:N.ks.length=2:=by have:=ft t2;omega
    have I:Hid (1<=N.ks.length):=by show _<=_;omega
    have G:Hid (0<N.ks.length):=by show _<_;omega
    have H:Hid (1<N.ks.length):=by show _<_;omega
    clear C;cases t3:(dH ns N 0==1)
    case' true=>
     cases t4:(dH ns N 1==1)
 all_goals
  unfold eC;go_in;go_wp2_with (first|(go_at_call 114;refine(jE _ N _ _ b.a.n b.a.k b.a.l1).mono ?_;rintro e w' ⟨rfl,c⟩;replace b:=b.below c;clear c;obtain⟨g,h,m,o,p,q,r,s,u,v⟩:=ax b.bn;have y:=b.bt)|(go_at_call 115;refine(iK _ N _ _ 1 2 b.a.n b.a.k b.a.l1 b.a.ls).mono ?_;rintro e w' ⟨rfl,c⟩;replace b:=b.below c;clear c;obtain⟨g,h,m,o,p,q,r,s,u,v⟩:=ax b.bn;have y:=b.bt)|(go_at_call 113;with_reducible refine(xx b.a G.out).mono ?_;rintro e w' ⟨rfl,c⟩;replace b:=b.below c;clear c;obtain⟨g,h,m,o,p,q,r,s,u,v⟩:=ax b.bn;have y:=b.bt)|(go_at_call 113;with_reducible refine(xy b.a H.out).mono ?_;rintro e w' ⟨rfl,c⟩;replace b:=b.below c;clear c;obtain⟨g,h,m,o,p,q,r,s,u,v⟩:=ax b.bn;have y:=b.bt));go_ret;exact⟨rfl,b.bel⟩
theorem aex{w:A1}{g:O}{ns:List Nd}{N:Nd}{vn vk:O}(c:fI w g ns N vn vk)(f:N.k=15):
  A2 V 66 #[.agg #[g],eC N vn vk] w fun e w'=>e= Z (.bool (aI N M M M M&&((N.ks.length:Int)==1)&&jk ns N 1 0))/\Below w.heap.size w w':=by
 obtain⟨J,af,rfl⟩:=c.t.form;obtain⟨K,ak,rfl⟩:=c.n.form;obtain⟨ad,al,rfl⟩:=c.k.form;have b:=St.start c;have am:=c.lx;have I:Hid (N.x.size<=1100000):=by show _<=_;omega
 clear c;have an:=nF f;have ao:=sn f 15 rfl;clear f;cases t0:aI N M M M M
 case' true=>
  cases t1:((N.ks.length:Int)==1)
  case' true=>
   have h:N.ks.length=1:=by have:=ft t1;omega
   have m:Hid (1<=N.ks.length):=by show _<=_;omega
   have H:Hid (0<N.ks.length):=by show _<_;omega
   clear h;cases t2:jk ns N 1 0
 all_goals
  unfold eC;go_in;go_wp2_with (first|(go_at_call 114;refine(cE _ N _ _ b.a.n b.a.k b.a.l1).mono ?_;rintro e w' ⟨rfl,d⟩;replace b:=b.below d;clear d;obtain⟨o,p,q,r,s,u,v,y,A,C⟩:=ax b.bn;have G:=b.bt)|(go_at_call 116;refine(db _ _ ns N _ _ 0 1 b.a.t b.a.n b.a.k b.a.ok m.out b.a.ln b.a.l2).mono ?_;rintro e w' ⟨rfl,d⟩;replace b:=b.below d;clear d;obtain⟨o,p,q,r,s,u,v,y,A,C⟩:=ax b.bn;have G:=b.bt));go_ret;exact⟨rfl,b.bel⟩
section
variable {E : Pe} {W w w' : World} {i j : Nat} {L L1 L' : List Mb} {B B' : List (Nat × Array Value)}
theorem aey(h:Hid (gl E W w i L1 B))(u:1<=i)(v:i<=E.n)(N:Nd)(c b:Option Addr)(m f g d:Nat)(on:w.ownsRow E.base 9 1 (S c m f) N.nm.length (N.nm.map Value.string))(x:w.ownsRow E.base 3 1 (S b g d) N.ks.length (N.ks.map (Ax .i64)))(r:L1.length<=50000000)(fn:Fr W.heap.size (S c m f))(q:Fr W.heap.size (S b g d))(a:Nd){R:Fo}(ac:Ac W.heap.size L L1 R)(s:({N with t:=(E.tk (i-1)).t}:Nd)={a with ks:=R.tops L.length}):
  A2 V 107 #[pV E,.agg (dy N (S c m f) (S b g d))] w fun e w'=>∃z L',e= Z (A0 .i64 z)/\(one a R).tops L.length=[z]/\Hid (Pst E W w' L L' B (one a R) i)/\Kt w w':=by
 refine(ai6 h.out.sp u v N c b m f g d on x r).mono ?_;rintro e w' ⟨rfl,o,k,p⟩;rw[s]at o;exact⟨_,_,rfl,by rw[xF,ac.len],⟨ac.add a fn q,o,h.out.kt.trans k,h.out.bl.trans p⟩,k⟩
theorem Ac.top{s:Nat}{N:Nd}{ks:Fo}(h:Ac s L L1 (one N ks)):∃a,L1[L.length+ks.sz]?=Q a/\a.N.k=N.k:=by
 obtain⟨c,rfl,d,_⟩:=h;rw[Ho]at d;have g:c.length=ks.sz+1:=by have b:=congrArg List.length d;rw[dc,aH,Fo.flat_len]at b;exact b
 obtain⟨a,e⟩:∃a,c[ks.sz]?=Q a:=⟨c[ks.sz]'(by omega),bJ _⟩;refine⟨a,by rw[fJ (by omega),Nat.add_sub_cancel_left];exact e,?_⟩;have b:(c.map Mb.N)[ks.sz]?=Q a.N:=by rw[cA,e];rfl
 rw[d,fJ (by rw[Fo.flat_len];exact ae _),Fo.flat_len,eB]at b;have f:=bu b;rw[<-f]
theorem Sp.kindAt(h:Sp E w i L B){q:Nat}{c:Mb}(b:L[q]?=Q c):∃g cap,w.cell? ⟨E.pb,2,U⟩=Q (S (Q ⟨g,0,U⟩) L.length cap)/\w.cell? ⟨g,q*9,U⟩=Q (A0 .i64 c.N.k)/\q<L.length:=by
 obtain⟨o,d,a,f⟩:=h.row;have e:=(List.getElem?_eq_some_iff.1 b).1;rcases bp a with⟨m,rfl⟩|⟨g,cap,rfl⟩
 ·omega
 ·exact⟨g,cap,by rw[aq _ _ _ _ _ _ d];rfl,(um a b).1,e⟩
end
inductive Ps (E:Pe) (C D:Nat->Fo->Nat->Prop) (s:Tk):Nat->Fo->Nat->Fo->Nat->Prop where
 |stop {X:Fo}{k:Nat}:k<E.n->J0 (E.tk k).k=false->Ps E C D s 0 X k X k
 |dot {m k j:Nat}{X R:Fo}:(E.tk k).k=48->(E.tk (k+1)).k=1->k+2<E.n->Ps E C D s m (one (nd 33 s (E.tk (k+1)).t 0 0 (E.tk (k+1)).x []) X) (k+2) R j->Ps E C D s (m+1) X k R j
 |sq {m k k1 j:Nat}{X Y R:Fo}:(E.tk k).k=44->k<E.n->C (k+1) Y k1->(E.tk k1).k=45->k1+1<E.n->Ps E C D s m (one (fp 32 s (E.tk k1).t) (X.app Y)) (k1+1) R j->Ps E C D s (m+1) X k R j
 |call0 {m k j:Nat}{X R:Fo}:(E.tk k).k=40->(E.tk (k+1)).k=41->k+2<E.n->Ps E C D s m (one (fp 34 s (E.tk (k+1)).t) X) (k+2) R j->Ps E C D s (m+1) X k R j
 |call {m k k1 j:Nat}{X Y R:Fo}:(E.tk k).k=40->k+1<E.n->(E.tk (k+1)).k≠41->D (k+1) Y k1->(E.tk k1).k=41->k1+1<E.n->Ps E C D s m (one (fp 34 s (E.tk k1).t) (X.app Y)) (k1+1) R j->Ps E C D s (m+1) X k R j
theorem Ps.le{E:Pe}{C D:Nat->Fo->Nat->Prop}{s:Tk}{m k j:Nat}{X R:Fo}(h:Ps E C D s m X k R j):X.sz<=R.sz:=by
 induction h with
 |stop=>exact ae _
 |dot _ _ _ _ a=>rw[aA]at a;omega
 |sq _ _ _ _ _ _ a=>rw[aA,Fo.sz_app]at a;omega
 |call0 _ _ _ _ a=>rw[aA]at a;omega
 |call _ _ _ _ _ _ _ a=>rw[aA,Fo.sz_app]at a;omega
section
variable {E : Pe} {W w w' w6 : World} {i j k k' : Nat} {L L1 L2 : List Mb} {B : List (Nat × Array Value)} {F : Fo} {l : List Int} {av : Option Addr} {n cv : Nat} {z : Int}
abbrev CB(E:Pe)(i:Nat)(x:Fo)(j:Nat):Prop:=CI E 112 #[pV E] i x j
abbrev CLx(E:Pe)(i:Nat)(x:Fo)(j:Nat):Prop:=CL E 106 #[pV E] i x j
structure fD (E:Pe) (W:A1) (L:List Mb) (B:List (Nat×Array O)) (w:A1) (k:Nat) (L1:List Mb) (F:Fo) (l:List Int) (av:Option Addr) (n cv:Nat):Prop where
 nw:Hid (gl E W w k L1 B)
 ac:Ac W.heap.size L L1 F
 ln:l.length=n
 ow:w.ownsRow E.base 3 1 (.slice av n cv) n (l.map (Ax .i64))
 fr:Fr W.heap.size (.slice av n cv)
 sv:Sv (.slice av n cv) L1
theorem fD.below(h:fD E W L B w k L1 F l av n cv)(b:Below w.heap.size w w'):fD E W L B w' k L1 F l av n cv:=⟨nB h.nw b,h.ac,h.ln,aE h.ow b,h.fr,h.sv⟩
theorem fD.move(h:fD E W L B w k L1 F l av n cv)(q:Sp E w' k' L1 B/\Kt w w'/\Below E.base w w'):fD E W L B w' k' L1 F l av n cv:=⟨nX h.nw q,h.ac,h.ln,q.2.1.row h.ow (by decide) (by decide),h.fr,h.sv⟩
theorem fD.up{x:Fo}(h:fD E W L B w k L1 F l av n cv)(p:Pst E w w' L1 L2 B x k'):fD E W L B w' k' L2 (F.app x) l av n cv:=
 ⟨nP h.nw p,h.ac.app (nL h.nw p).out,h.ln,p.kt.row h.ow (by decide) (by decide),h.fr,h.sv.next p.ac (fun a b=>(h.ow.lt a b).2)⟩
theorem fD.put{g cap:Nat}{o:Obj}(h:fD E W L B w k L1 F l av n cv)(m:w6.ownsRow E.base 3 1 (S (Q ⟨g,0,U⟩) (n+1) cap) (n+1) ((l++[z]).map (Ax .i64)))(c:(w.alloc o).grownBy w6 (A3 av n cv).ownBlock)(a:(A3 av n cv).ownBlock=Q g\/g=(w.alloc o).heap.size):fD E W L B w6 k L1 F (l++[z]) (Q ⟨g,0,U⟩) (n+1) cap:=by
 have q:=h.nw.out.kt.size;refine⟨nG (nB h.nw (bg w o)) (aE h.ow (bg w o)) c h.fr h.sv,h.ac,by rw[aH,h.ln];rfl,m,?_,?_⟩
 ·rcases a with e|e
  ·exact Fr.new (h.fr g e)
  ·exact Fr.new (by rw[e,aF];omega)
 ·rcases a with e|e
  ·intro p f b d;exact h.sv p f b (by rw[e];exact d)
  ·exact tm (h.nw.out.sp.below (bg w o)) (by omega)
structure ll (E:Pe) (w:A1) (v:O) (xs:List Int) (u:O):Prop where
 ow:w.ownsRow E.base 3 1 v xs.length (xs.map (Ax .i64))
 ne:∀g,v.ownBlock=Q g->u.ownBlock≠Q g
theorem ll.put{v u:O}{b:List Int}{g m c:Nat}{o:Obj}(h:ll E w v b u)(p:(w.alloc o).grownBy w6 u.ownBlock)(f:u.ownBlock=Q g\/g=(w.alloc o).heap.size):ll E w6 v b (S (Q ⟨g,0,U⟩) m c):=by
 refine⟨(aE h.ow (bg w o)).kept p ?_,fun d a e=>?_⟩
 ·cases hv:v.ownBlock with
  |none=>exact .inl rfl
  |some q=>exact .inr (fun e=>h.ne q hv e.symm)
 ·obtain rfl:g=d:=by simpa [Value.ownBlock] using e
  rcases f with e|e
  ·exact h.ne g a e
  ·have:=((aE h.ow (bg w o)).lt g a).2;omega
theorem ll.kt{v u:O}{a:List Int}(h:ll E w v a u)(q:Kt w w'):ll E w' v a u:=⟨q.row h.ow (by decide) (by decide),h.ne⟩
theorem ll.at{u:O}{a:List Int}{g m c:Nat}(h:ll E w (S (Q ⟨g,0,U⟩) m c) a u){q:Nat}{x:Int}(d:a[q]?=Q x):w.cell? ⟨g,q,U⟩=Q (A0 .i64 x):=by
 have:=h.ow.cells rfl q (A0 .i64 x) (by rw[cA,d];rfl);have b:(⟨g,0,U⟩:Addr).add q=⟨g,q,U⟩:=by unfold Addr.add;split<;>simp_all
 rw[b]at this;exact this
theorem fD.box{b:Nat}{N:Nd}{vn vk:O}(h:fD E W L ((b,dy N vn vk)::B) w k L1 F l av n cv)(c:E.base<=b)(v:O):fD E W L ((b,dy N vn v)::B) (w.setCell ⟨b,8,U⟩ v) k L1 F l av n cv/\Kt w (w.setCell ⟨b,8,U⟩ v):=by
 obtain⟨d,a⟩:=nK h.nw c v;exact⟨⟨d,h.ac,h.ln,a.row h.ow (by decide) (by decide),h.fr,h.sv⟩,a⟩
theorem fD.boxq{b q:Nat}{cs:Array O}(h:fD E W L ((b,cs)::B) w k L1 F l av n cv)(c:E.base<=b)(v:O):fD E W L ((b,cs.setIfInBounds q v)::B) (w.setCell ⟨b,q,U⟩ v) k L1 F l av n cv/\Kt w (w.setCell ⟨b,q,U⟩ v):=by
 have a:=h.nw.out.sp.kset q v;exact⟨⟨nS h.nw c q v,h.ac,h.ln,a.row h.ow (by decide) (by decide),h.fr,h.sv⟩,a⟩
theorem fD.boxk{b d:Nat}{N:Nd}{vn vk:O}{T:Tk}(h:fD E W L ((b,dy N vn vk)::B) w k L1 F l av n cv)(e:E.base<=b)(a:Int)(t:Hid (TB w d T)):∃c,w.setCell ⟨b,0,U⟩ (A0 .i64 a)=c/\Hid (fD E W L ((b,dy {N with k:=a} vn vk)::B) c k L1 F l av n cv)/\Hid (TB c d T):=by
 obtain⟨f,g⟩:=h.boxq (q:=0) e (A0 .i64 a);exact⟨_,rfl,f,tK t g⟩
end
def Jk(a b:ByteArray):Nat->Nat->Nat
 |0,n=>n
 |f+1,n=>if n<a.size/\n<b.size/\az a n=az b n then Jk a b f (n+1) else n
def Ku(a b:ByteArray):Nat:=Jk a b (a.size+1) 0
structure ajs (a b:ByteArray) (f n R:Nat):Prop where
 out:Jk a b f n=R
theorem Cj(w:A1)(a b:ByteArray)(ad:a.size<=1100000)(af:b.size<=1100000):
  A2 V 129 #[A4 a,A4 b] w fun e w'=>e= Z (A0 .i64 (Ku a b))/\Below w.heap.size w w':=by
 unfold Ku;obtain⟨o,r⟩:=ay (Jk a b (a.size+1) 0);rw[r];have x:ajs a b (a.size+1) 0 o:=⟨r⟩;clear r;go_in;go_wp2_with fail;go_loopw [5] (fun u wr=>∃(k d:Nat),k<=a.size/\a.size<k+d/\u= A0 .i64 k/\ajs a b d k o/\Below w.heap.size w wr) (fun u _=>a.size+1-(intOf u).toNat)
 case atStart=>exact⟨0,a.size+1,by omega,by omega,rfl,x,ag _ _⟩
 case round=>
  obtain⟨k,d,al,ak,rfl,v,s⟩:=hrel;clear x;obtain⟨d,rfl⟩:∃C,d=C+1:=⟨d-1,by omega⟩;have c:=v.out;rw[Jk]at c;have J:=aw s;have m:∀t,Below w.heap.size w (wr.drewN t):=fun t=>s.trans (aa7 _ wr t);clear v s;by_cases p:k<a.size
  ·have G:(k:Int)<(a.size:Int):=by omega
   by_cases q:k<b.size
   ·have H:(k:Int)<(b.size:Int):=by omega
    have y:=fun w=>cD p w;have I:=fun w=>cD q w;by_cases f:az a k=az b k
    ·rw[ab ⟨p,q,f⟩]at c;rw[f]at y;have A:ajs a b d (k+1) o:=⟨c⟩;clear c f;generalize az b k=K at y I;go_wp2_with fail;go_quiet (fail)
     go_wp2_with fail;exact⟨⟨k+1,d,by omega,by omega,by go_num,A,m _⟩,by simp[intOf];omega⟩
    ·rw[aa (fun h=>f h.2.2)]at c;have g:=aw c;have am:(az a k==az b k)=M:=beq_eq_false_iff_ne.2 f;clear c f;go_wp2_with fail;go_quiet (fail)
     go_wp2_with fail;go_ret;exact⟨by rw[<-g.out];rfl,m _⟩
   ·rw[aa (fun h=>q h.2.1)]at c;have g:=aw c;have H:¬(k:Int)<(b.size:Int):=by omega
    clear c;go_wp2_with fail;go_quiet (fail)
    go_wp2_with fail;go_ret;exact⟨by rw[<-g.out];rfl,m _⟩
  ·rw[aa (fun h=>p h.1)]at c;have g:=aw c;have G:¬(k:Int)<(a.size:Int):=by omega
   clear c;go_wp2_with fail;go_quiet (fail)
   go_wp2_with fail;go_ret;exact⟨by rw[<-g.out];rfl,m _⟩
def bnC(k c:Int):Bool:=if k=1 then cd c else if k=2 then cu c else if k=3 then cu c else decide (c=34)
def Kv(k:Int)(x:ByteArray):Nat:=if x.size=0 then 0 else if k=1\/k=2\/k=3\/k=4 then(if bnC k (az x 0)=true then x.size else 0) else Ku x (gc k)
theorem aez(k:Int):(gc k).size<=6:=by
 by_cases b:0<=k/\k<=78
 ·have a:∀j:Fin 79,(gc (j.val:Int)).size<=6:=by decide+kernel
  have:=a ⟨k.toNat,by omega⟩;rw[show(((⟨k.toNat,by omega⟩:Fin 79).val:Nat):Int)=k by simp;omega]at this;exact this
 ·unfold gc;rw[aa (by omega),aa (by omega),aa (by omega),aa (by omega),aa (by omega)];decide
theorem Dc(w:A1)(k:Int)(x:ByteArray)(m:qo w)(v:x.size<=1100000)(H:1<=k)(I:k<=78):
  A2 V 131 #[A0 .i64 k,A4 x] w fun e w'=>e= Z (A0 .i64 (Kv k x))/\Below w.heap.size w w':=by
 unfold Kv;by_cases f:x.size=0
 ·rw[ab f];have e:x=⟨#[]⟩:=by
   obtain⟨q⟩:=x;have:q.size=0:=f
   congr
   exact Array.eq_empty_of_size_eq_zero this
  subst e;go_in;go_wp2_with fail;go_ret;exact⟨rfl,ag _ _⟩
 ·rw[aa f];have C:(x.toList==[])=M:=by
   have:x.toList.length=x.size:=by rw[fj];simp
   cases hs:x.toList with
   |nil=>rw[hs]at this;simp at this;omega
   |cons y ak=>rfl
  have g:=fun w=>cD (s:=x) (i:=0) (by omega) w;rw[show(((0:Nat):Int))=0 from rfl]at g;have u:(k=1\/k=2\/k=3\/k=4)\/¬(k=1\/k=2\/k=3\/k=4):=Classical.em _;rcases u with h|h
  ·rw[ab h];generalize az x 0=a at g⊢;have d:=fun w=>kL a w;have c:=fun w=>ip a w;rcases h with rfl|rfl|rfl|rfl
   ·rw[show bnC 1 a=cd a from rfl];clear c;cases b:cd a;all_goals
     rw[b]at d;go_in;go_wp2_with (go_at_call 164;refine(d _).mono ?_;rintro e w' ⟨rfl,rfl⟩);go_ret;exact⟨rfl,ag _ _⟩
   ·rw[show bnC 2 a=cu a from rfl];clear d;cases b:cu a;all_goals
     rw[b]at c;go_in;go_wp2_with (go_at_call 166;refine(c _).mono ?_;rintro e w' ⟨rfl,rfl⟩);go_ret;exact⟨rfl,ag _ _⟩
   ·rw[show bnC 3 a=cu a from rfl];clear d;cases b:cu a;all_goals
     rw[b]at c;go_in;go_wp2_with (go_at_call 166;refine(c _).mono ?_;rintro e w' ⟨rfl,rfl⟩);go_ret;exact⟨rfl,ag _ _⟩
   ·rw[show bnC 4 a=decide (a=34) from rfl];clear d c;by_cases b:a=34
    ·subst b;go_in;go_wp2_with fail;go_ret;exact⟨rfl,ag _ _⟩
    ·rw[aB b];have A:(a==34)=M:=beq_eq_false_iff_ne.2 b;go_in;go_wp2_with fail;go_ret;exact⟨rfl,ag _ _⟩
  ·rw[aa h];have J:¬k=1:=by omega
   have K:¬k=2:=by omega
   have ad:¬k=3:=by omega
   have af:¬k=4:=by omega
   have p:=uF k (by omega) (by omega) w m;have t:=aez k;have o:=fun w=>Cj w x (gc k) v (by omega);generalize gc k=F at p o t⊢;clear h g m;go_in;go_wp2_with (first|(go_at_call 172;refine p.mono ?_;rintro e w' ⟨rfl,G⟩;subst w')|(go_at_call 129;refine(o _).mono ?_;rintro e al ⟨rfl,r⟩));go_ret;exact⟨rfl,r⟩
