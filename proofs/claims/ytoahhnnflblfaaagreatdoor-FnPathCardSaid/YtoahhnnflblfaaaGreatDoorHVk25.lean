import Derived.Test.YtoahhnnflblfaaaGreatDoorHVk23
set_option linter.all false
set_option maxRecDepth 100000
set_option maxHeartbeats 12800000
open Option renaming none->M,some->Q
open Go.Value renaming slice->O,int->A2,pointer->A3,slice->A7,string->A9,string->Br,int->B0,agg->B3
open Go.AllReadyH renaming cons->U,nil->Ax
open Go.RowKit renaming Hid->V,Below->B1,intOf->B2
open List renaming set->Z
open Go renaming wpAnyH_ready->A0,Value->A5,wp_region_held_drew->A6,World->A8
open Go.IntKind renaming i64->A1
open Go.Obj renaming cells->A4
namespace Go.Proofs.YtoahhnnflblfaaaGreatDoor
open Go.RowKit Go.Maps Go.WideMaps
section
variable {E : Pe} {W w w' : World} {i j : Nat} {L L1 L' : List Mb} {B B' : List (Nat × Array Value)}
theorem aes(h:V (gL E W w i L1 B))(p:1<=i)(r:i<=E.n)(N:Nd)(an c:Option Addr)(mn cn mk ck:Nat)(on:w.ownsRow E.base 9 1 (O an mn cn) N.nm.length (N.nm.map Br))(s:w.ownsRow E.base 3 1 (O c mk ck) N.ks.length (N.ks.map (B0 A1)))(m:L1.length<=50000000)(g:Fr W.heap.size (O an mn cn))(f:Fr W.heap.size (O c mk ck))(a:Nd){R:Fo}(ac:Ac W.heap.size L L1 R)(o:({N with t:=(E.tk (i-1)).t}:Nd)={a with ks:=R.tops L.length}):
  Calls Tryz.prog 90 #[pV E,B3 (dE N (O an mn cn) (O c mk ck))] w fun e w'=>∃z L',e= .returned (A2 A1 z)/\(one a R).tops L.length=[z]/\V (Ld E W w' L L' B (one a R) i)/\Kt w w':=by
 refine(akv h.out.sp p r N an c mn cn mk ck on s m).mono ?_;rintro e w' ⟨rfl,d,k,b⟩;rw[o]at d;exact⟨_,_,rfl,by rw[rK,ac.len],⟨ac.add a g f,d,h.out.kt.trans k,h.out.bl.trans b⟩,k⟩
theorem Ac.top{s:Nat}{N:Nd}{ks:Fo}(h:Ac s L L1 (one N ks)):∃y,L1[L.length+ks.sz]?=Q y/\y.N.k=N.k:=by
 obtain⟨a,rfl,c,_⟩:=h;rw[Ah]at c;have f:a.length=ks.sz+1:=by have q:=congrArg List.length c;rw[dL,aF,Fo.flat_len]at q;exact q
 obtain⟨y,d⟩:∃y,a[ks.sz]?=Q y:=⟨a[ks.sz]'(by omega),aE _⟩;refine⟨y,by rw[gF (by omega),Nat.add_sub_cancel_left];exact d,?_⟩;have q:(a.map Mb.N)[ks.sz]?=Q y.N:=by rw[cA,d];rfl
 rw[c,gF (by rw[Fo.flat_len];exact ag _),Fo.flat_len,gH]at q;have e:=db q;rw[<-e]
theorem Sp.kindAt(h:Sp E w i L B){q:Nat}{y:Mb}(c:L[q]?=Q y):∃g cap,w.cell? ⟨E.pb,2,M⟩=Q (O (Q ⟨g,0,M⟩) L.length cap)/\w.cell? ⟨g,q*9,M⟩=Q (A2 A1 y.N.k)/\q<L.length:=by
 obtain⟨o,d,a,f⟩:=h.row;have e:=(List.getElem?_eq_some_iff.1 c).1;rcases bK a with⟨m,rfl⟩|⟨g,cap,rfl⟩
 ·omega
 ·exact⟨g,cap,by rw[ay _ _ _ _ _ _ d];rfl,(td a c).1,e⟩
end
inductive Ps (E:Pe) (C D:Nat->Fo->Nat->Prop) (s:Tk):Nat->Fo->Nat->Fo->Nat->Prop where
 |stop {X:Fo}{k:Nat}:k<E.n->vA (E.tk k).k=false->Ps E C D s 0 X k X k
 |dot {m k j:Nat}{X R:Fo}:(E.tk k).k=48->(E.tk (k+1)).k=1->k+2<E.n->Ps E C D s m (one (nd 33 s (E.tk (k+1)).t 0 0 (E.tk (k+1)).x []) X) (k+2) R j->Ps E C D s (m+1) X k R j
 |sq {m k k1 j:Nat}{X Y R:Fo}:(E.tk k).k=44->k<E.n->C (k+1) Y k1->(E.tk k1).k=45->k1+1<E.n->Ps E C D s m (one (iB 32 s (E.tk k1).t) (X.app Y)) (k1+1) R j->Ps E C D s (m+1) X k R j
 |call0 {m k j:Nat}{X R:Fo}:(E.tk k).k=40->(E.tk (k+1)).k=41->k+2<E.n->Ps E C D s m (one (iB 34 s (E.tk (k+1)).t) X) (k+2) R j->Ps E C D s (m+1) X k R j
 |call {m k k1 j:Nat}{X Y R:Fo}:(E.tk k).k=40->k+1<E.n->(E.tk (k+1)).k≠41->D (k+1) Y k1->(E.tk k1).k=41->k1+1<E.n->Ps E C D s m (one (iB 34 s (E.tk k1).t) (X.app Y)) (k1+1) R j->Ps E C D s (m+1) X k R j
theorem Ps.le{E:Pe}{C D:Nat->Fo->Nat->Prop}{s:Tk}{m k j:Nat}{X R:Fo}(h:Ps E C D s m X k R j):X.sz<=R.sz:=by
 induction h with
 |stop=>exact ag _
 |dot _ _ _ _ a=>rw[aJ]at a;omega
 |sq _ _ _ _ _ _ a=>rw[aJ,Fo.sz_app]at a;omega
 |call0 _ _ _ _ a=>rw[aJ]at a;omega
 |call _ _ _ _ _ _ _ a=>rw[aJ,Fo.sz_app]at a;omega
section
variable {E : Pe} {W w w' w6 : World} {i j k k' : Nat} {L L1 L2 : List Mb} {B : List (Nat × Array Value)} {F : Fo} {l : List Int} {av : Option Addr} {n cv : Nat} {z : Int}
abbrev CB(E:Pe)(i:Nat)(x:Fo)(j:Nat):Prop:=CI E 95 #[pV E] i x j
abbrev CLx(E:Pe)(i:Nat)(x:Fo)(j:Nat):Prop:=CL E 89 #[pV E] i x j
structure gj (E:Pe) (W:A8) (L:List Mb) (B:List (Nat×Array A5)) (w:A8) (k:Nat) (L1:List Mb) (F:Fo) (l:List Int) (av:Option Addr) (n cv:Nat):Prop where
 nw:V (gL E W w k L1 B)
 ac:Ac W.heap.size L L1 F
 ln:l.length=n
 ow:w.ownsRow E.base 3 1 (.slice av n cv) n (l.map (B0 .i64))
 fr:Fr W.heap.size (.slice av n cv)
 sv:Sv (.slice av n cv) L1
theorem gj.below(h:gj E W L B w k L1 F l av n cv)(b:B1 w.heap.size w w'):gj E W L B w' k L1 F l av n cv:=⟨nB h.nw b,h.ac,h.ln,aI h.ow b,h.fr,h.sv⟩
theorem gj.move(h:gj E W L B w k L1 F l av n cv)(q:Sp E w' k' L1 B/\Kt w w'/\B1 E.base w w'):gj E W L B w' k' L1 F l av n cv:=⟨nX h.nw q,h.ac,h.ln,q.2.1.row h.ow (by decide) (by decide),h.fr,h.sv⟩
theorem gj.up{x:Fo}(h:gj E W L B w k L1 F l av n cv)(p:Ld E w w' L1 L2 B x k'):gj E W L B w' k' L2 (F.app x) l av n cv:=
 ⟨nP h.nw p,h.ac.app (nL h.nw p).out,h.ln,p.kt.row h.ow (by decide) (by decide),h.fr,h.sv.next p.ac (fun a c=>(h.ow.lt a c).2)⟩
theorem gj.put{g cap:Nat}{o:Obj}(h:gj E W L B w k L1 F l av n cv)(p:w6.ownsRow E.base 3 1 (O (Q ⟨g,0,M⟩) (n+1) cap) (n+1) ((l++[z]).map (B0 A1)))(d:(w.alloc o).grownBy w6 (A7 av n cv).ownBlock)(a:(A7 av n cv).ownBlock=Q g\/g=(w.alloc o).heap.size):gj E W L B w6 k L1 F (l++[z]) (Q ⟨g,0,M⟩) (n+1) cap:=by
 have s:=h.nw.out.kt.size;refine⟨nG (nB h.nw (bI w o)) (aI h.ow (bI w o)) d h.fr h.sv,h.ac,by rw[aF,h.ln];rfl,p,?_,?_⟩
 ·rcases a with e|e
  ·exact Fr.new (h.fr g e)
  ·exact Fr.new (by rw[e,bu];omega)
 ·rcases a with e|e
  ·intro r m c f;exact h.sv r m c (by rw[e];exact f)
  ·exact sw (h.nw.out.sp.below (bI w o)) (by omega)
structure lK (E:Pe) (w:A8) (v:A5) (xs:List Int) (u:A5):Prop where
 ow:w.ownsRow E.base 3 1 v xs.length (xs.map (B0 .i64))
 ne:∀g,v.ownBlock=Q g->u.ownBlock≠Q g
theorem lK.put{v u:A5}{d:List Int}{g m c:Nat}{o:Obj}(h:lK E w v d u)(r:(w.alloc o).grownBy w6 u.ownBlock)(p:u.ownBlock=Q g\/g=(w.alloc o).heap.size):lK E w6 v d (O (Q ⟨g,0,M⟩) m c):=by
 refine⟨(aI h.ow (bI w o)).kept r ?_,fun f a e=>?_⟩
 ·cases hv:v.ownBlock with
  |none=>exact .inl rfl
  |some q=>exact .inr (fun e=>h.ne q hv e.symm)
 ·obtain rfl:g=f:=by simpa [Value.ownBlock] using e
  rcases p with e|e
  ·exact h.ne g a e
  ·have:=((aI h.ow (bI w o)).lt g a).2;omega
theorem lK.kt{v u:A5}{a:List Int}(h:lK E w v a u)(q:Kt w w'):lK E w' v a u:=⟨q.row h.ow (by decide) (by decide),h.ne⟩
theorem lK.at{u:A5}{a:List Int}{g m c:Nat}(h:lK E w (O (Q ⟨g,0,M⟩) m c) a u){q:Nat}{x:Int}(e:a[q]?=Q x):w.cell? ⟨g,q,M⟩=Q (A2 A1 x):=by
 have:=h.ow.cells rfl q (A2 A1 x) (by rw[cA,e];rfl);have d:(⟨g,0,M⟩:Addr).add q=⟨g,q,M⟩:=by unfold Addr.add;split<;>simp_all
 rw[d]at this;exact this
theorem gj.box{b:Nat}{N:Nd}{vn vk:A5}(h:gj E W L ((b,dE N vn vk)::B) w k L1 F l av n cv)(c:E.base<=b)(v:A5):gj E W L ((b,dE N vn v)::B) (w.setCell ⟨b,8,M⟩ v) k L1 F l av n cv/\Kt w (w.setCell ⟨b,8,M⟩ v):=by
 obtain⟨d,a⟩:=nK h.nw c v;exact⟨⟨d,h.ac,h.ln,a.row h.ow (by decide) (by decide),h.fr,h.sv⟩,a⟩
theorem gj.boxq{b q:Nat}{cs:Array A5}(h:gj E W L ((b,cs)::B) w k L1 F l av n cv)(c:E.base<=b)(v:A5):gj E W L ((b,cs.setIfInBounds q v)::B) (w.setCell ⟨b,q,M⟩ v) k L1 F l av n cv/\Kt w (w.setCell ⟨b,q,M⟩ v):=by
 have a:=h.nw.out.sp.kset q v;exact⟨⟨nS h.nw c q v,h.ac,h.ln,a.row h.ow (by decide) (by decide),h.fr,h.sv⟩,a⟩
theorem gj.boxk{b d:Nat}{N:Nd}{vn vk:A5}{T:Tk}(h:gj E W L ((b,dE N vn vk)::B) w k L1 F l av n cv)(e:E.base<=b)(a:Int)(t:V (TB w d T)):∃c,w.setCell ⟨b,0,M⟩ (A2 A1 a)=c/\V (gj E W L ((b,dE {N with k:=a} vn vk)::B) c k L1 F l av n cv)/\V (TB c d T):=by
 obtain⟨f,g⟩:=h.boxq (q:=0) e (A2 A1 a);exact⟨_,rfl,f,tK t g⟩
end
section
variable {E : Pe} {W w w' : World} {i j k b q : Nat} {L L1 : List Mb} {B : List (Nat × Array Value)} {X : Fo} {z : Int}
theorem akz(h:V (ua E W L B w k b q L1 X z))(N:Nd):∃a,((w.alloc (A4 (dE N s0 (O (Q ⟨w.heap.size+1,0,M⟩) 1 1)) 36)).alloc (A4 #[A2 A1 z] 3))=a/\V (gj E W L ((w.heap.size,dE N s0 (O (Q ⟨w.heap.size+1,0,M⟩) 1 1))::B) a k L1 X [z] (Q ⟨w.heap.size+1,0,M⟩) 1 1)/\V (TB a b (E.tk q)):=by
 have f:=nA h.out.nw (dE N s0 (O (Q ⟨w.heap.size+1,0,M⟩) 1 1));have e:=bI w (A4 (dE N s0 (O (Q ⟨w.heap.size+1,0,M⟩) 1 1)) 36);have c:=bI (w.alloc (A4 (dE N s0 (O (Q ⟨w.heap.size+1,0,M⟩) 1 1)) 36)) (A4 #[A2 A1 z] 3);have d:=qA (w.alloc (A4 (dE N s0 (O (Q ⟨w.heap.size+1,0,M⟩) 1 1)) 36)) [z] 1 rfl (by decide);rw[bu]at d;have g:=h.out.nw.out.kt.size;exact⟨_,rfl,⟨nB f c,h.out.ac,rfl,my d (by have:=h.out.nw.out.sp.lt.2;omega),Fr.new (by omega),sw h.out.nw.out.sp (by omega)⟩,tB (tB h.out.tb e) c⟩
theorem tG{F:Fo}{l:List Int}{av:Option Addr}{n cv:Nat}{T:Tk}{o:Obj}{w6:A8}(h:gj E W L B w k L1 F l av n cv)(t:V (TB w b T))(c:(w.alloc o).grownBy w6 (A7 av n cv).ownBlock):V (TB w6 b T):=
 (c.block b (by have:=au t.out;rw[bu];omega) (fun a=>gi h.ow t.out (by decide) a.symm)).trans (tB t (bI w o)).out
theorem aet{F Y:Fo}{l:List Int}{av:Option Addr}{n cv:Nat}{v:A5}{a:List Int}{w0:A8}(h:gj E W L B w0 k L1 F l av n cv)(o:w.ownsRow E.base 3 1 v a.length (a.map (B0 A1)))(f:Fr w0.heap.size v):lK E w v a (O av n cv):=⟨o,fun c e d=>by have:=f c e;have:=(h.ow.lt c d).2;omega⟩
theorem ai7{en:Int}{R:Fo}{m:Nat}(H:(E.tk i).k=en)(j2:i<E.n)(hp:(en=1/\k=i+1/\X=one (nd 26 (E.tk i) (E.tk i).t 0 0 (E.tk i).x []) .nil)\/(en=40/\∃N ks bn,Jh E (i+1) (one N ks) bn/\(E.tk bn).k=41/\k=bn+1/\i+1<=bn/\X=mo N ks (E.tk i) (E.tk bn).t))(j4:k<E.n)(cb:Ps E (Jh E) (CLx E) (E.tk i) m X k R j):CB E i R j:=by
 intro W L B fA j5;have dn:=gL.start fA;have bA:V (Ps E (Jh E) (CLx E) (E.tk i) m X k R j):=cb;have f2:=cb.le;clear fA cb;rcases hp with⟨rfl,ei,cs⟩|⟨rfl,N,ks,bn,d2,hd,ei,j3,cs⟩
 case' inl=>
  subst cs ei;go_in;go_wp2_with fail;refine cd (jB H dn (by omega) (by omega)) fun p cm=>?_;obtain⟨i0,cy,bD,bd⟩:=tL (w:=p) H cm;simp only[jL]at cy;obtain⟨bp,bq,br,bs,bt,bw⟩:=tC bd H;go_wp2_with fail;refine cd (gA H _ _) fun i1 dx=>?_;have d5:=tA (tB bd dx) H;have b4:=fun hA=>(d5 hA).2.2.2.2.2;clear d5 cy;go_wp2_with fail;refine(aes (nA (nB bD dx) _) (by omega) (by omega) ⟨26,(E.tk i).f,0,(E.tk i).l,0,0,(E.tk i).x,[],[]⟩ M M 0 0 0 0 (bi _ _ _ _) (bi _ _ _ _) (by rw[aJ]at f2;omega) (Fr.nil _ _ _) (Fr.nil _ _ _) (nd 26 (E.tk i) (E.tk i).t 0 0 (E.tk i).x []) (Ac.nil _ L) rfl).mono ?_;rintro a3 gm ⟨z,a1,rfl,bk,cB,f9⟩;have dg:V (∃k X a1 m,Ps E (Jh E) (CLx E) (E.tk i) m X k R j/\ua E W L B gm k p.heap.size i a1 X z):=⟨_,_,a1,m,bA.out,⟨(pT cB).out.sp,cB.out.kt,cB.out.bl⟩,cB.out.ac,bk,tK (tB (tB bd dx) (bI _ _)) f9⟩;clear bA cB f9 bk dx bd bD cm dn f2 bp bq br bs bt bw b4;go_wp2_with fail
 case' inr=>
  subst ei;rcases(by omega:N.k=34\/N.k=27\/(N.k≠34/\N.k≠27)) with hN|hN|hN;all_goals
   go_in;go_wp2_with fail;refine cd (jB H dn (by omega) (by omega)) fun p cm=>?_;obtain⟨i0,cy,bD,bd⟩:=tL (w:=p) H cm;simp only[jL]at cy;obtain⟨bp,bq,br,bs,bt,bw⟩:=tC bd H;have j7:(one N ks).sz<=X.sz:=by rw[cs];unfold mo;split<;>simp only[aJ]<;>omega
   go_wp2_with fail;refine(d2 _ _ _ bD.out.sp (by omega)).mono ?_;rintro a3 i1 ⟨z,fb,rfl,bk,d4⟩;have d7:=nP bD d4;have ac:=nL bD d4;have fn:=tK bd d4.kt;clear d4 cy bp bq br bs bt bw;go_wp2_with fail;refine cd (ix hd d7 (by omega) (by omega)) fun w6 er=>?_;have cn:=nX d7 er;have ds:=tK fn er.2.1;clear er;obtain⟨bp,bq,br,bs,bt,bw⟩:=tC ds H;obtain⟨d5,f3,f4⟩:=ac.out.top;obtain⟨cq,hb,g8,eg,f1⟩:=cn.out.sp.kindAt f3;obtain⟨gz,g0,hc⟩:=cn.out.sp.cells;obtain⟨q,el⟩:=aA (L.length+ks.sz);have hu:z=(q:Int):=by rw[rK,el]at bk;exact(mH bk).1.symm
   rw[f4,el]at eg;rw[el]at f1;subst hu;have hn:(0:Int)<=(q:Int):=by omega
   have ho:(q:Int)<(fb.length:Int):=by omega
   first
    |rw[hN]at eg
    |(obtain⟨he,hf⟩:=hN;have i7:(N.k==34)=false:=by simp[he]
      have i6:(N.k==27)=false:=by simp[hf])
   clear f3 f4 d5;go_wp2_with fail;first
    |(refine(gA H _ _).mono ?_
      rintro a3 gm ⟨rfl,ee⟩;have ff:=nB cn ee;have fo:=tB ds ee;clear ee;have ct:X=one (iB 37 (E.tk i) (E.tk bn).t) (one N ks):=by rw[cs];unfold mo;rw[ab (by omega)]
      go_wp2_with fail;refine(LH [(q:Int)] _ rfl (by simp) ff (by omega) (by omega) ⟨37,(E.tk i).f,0,(E.tk i).l,0,0,⟨#[]⟩,[],[(q:Int)]⟩ 1 rfl rfl rfl (by rw[ac.out.len];omega) (iB 37 (E.tk i) (E.tk bn).t) ac.out (by rw[bk];rfl)).mono ?_;rintro a3 i2 ⟨z,gs,rfl,f5,c3,gb⟩;rw[ct]at bA;have dg:V (∃k X a1 m,Ps E (Jh E) (CLx E) (E.tk i) m X k R j/\ua E W L B i2 k p.heap.size i a1 X z):=⟨_,_,gs,m,bA.out,⟨c3.out.sp,c3.out.kt,c3.out.bl⟩,c3.out.ac,f5,tK fo gb⟩;clear c3 gb ff fo ct f5;go_wp2_with fail)
    |(have ct:X=one N ks:=by rw[cs];unfold mo;rw[aa (by omega)]
      rw[ct]at bA;have dg:V (∃k X a1 m,Ps E (Jh E) (CLx E) (E.tk i) m X k R j/\ua E W L B w6 k p.heap.size i a1 X (q:Int)):=⟨_,_,fb,m,bA.out,cn,ac.out,bk,ds⟩;clear ct)
   clear bA bk cn ds d7 fn bD bd cm dn ac bp bq br bs bt bw gz g0 g8 hc eg
 all_goals
  obtain⟨k,X,a1,m,cb,f0⟩:=dg.out;have e3:=eH cb f0;clear dg cb f0;go_loopg [3] m (fun gk ip wr=>∃(k:Nat) (X:Fo) (h:Int) (L1:List Mb),ip= A2 A1 h/\V (Ps E (Jh E) (CLx E) (E.tk i) gk X k R j/\ua E W L B wr k p.heap.size i L1 X h))
  case atStart=>exact⟨k,X,_,a1,rfl,e3.out⟩
  case round=>
   clear e3;obtain⟨o,K,h,cl,rfl,e7⟩:=hrel;obtain⟨fB,d0⟩:=e7.out;have eb:=d0.tb;have a0:V (ua E W L B wr o p.heap.size i cl K h):=d0;have cu:V (cl.length=L.length+K.sz):=d0.ac.len;clear d0 e7;obtain⟨bp,bq,br,bs,bt,bw⟩:=tC eb H;go_wp2_with fail;refine cd (gA H _ _) fun a ef=>?_;have e6:V (ua E W L B a o p.heap.size i cl K h):=⟨nB a0.out.nw ef,a0.out.ac,a0.out.tp,tB eb ef⟩;clear ef bp bq br bs bt bw eb;have b8:V (E.base<=a.heap.size):=e6.out.nw.out.sp.lt.2;obtain⟨ka,cc,an,cp⟩:=akz e6 (nN 33 (E.tk i));simp only[dE]at cc;have j8:=fB.le;cases fB with
   |stop C G=>
    have jv:((E.tk j).k==48)=false:=by have:=lB G;simp;omega
    have ji:((E.tk j).k==44)=false:=by have:=lB G;simp;omega
    have i8:((E.tk j).k==40)=false:=by have:=lB G;simp;omega
    go_wp2_with fail;refine cd (jb rfl an.out.nw (by omega)) fun a6 d=>?_;have s:V (gj E W L ((a.heap.size,dE (nN 33 (E.tk i)) s0 (O (Q ⟨a.heap.size+1,0,M⟩) 1 1))::B) a6 _ _ _ _ (Q ⟨a.heap.size+1,0,M⟩) 1 1):=an.out.below d;have a8:=tB cp d;clear d;clear cc;go_wp2_with fail;go_ret;exact⟨_,cl,rfl,a0.out.tp,a0.out.ac,s.out.nw.out.sp.tail,s.out.nw.out.kt,s.out.nw.out.bl⟩
   |@dot b1 _ _ _ _ C G cr u=>
    go_wp2_with fail;refine cd (jb C an.out.nw (by omega)) fun a6 d=>?_;have s:V (gj E W L ((a.heap.size,dE (nN 33 (E.tk i)) s0 (O (Q ⟨a.heap.size+1,0,M⟩) 1 1))::B) a6 _ _ _ _ (Q ⟨a.heap.size+1,0,M⟩) 1 1):=an.out.below d;have a8:=tB cp d;clear d;clear cc;go_wp2_with fail;refine cd (ix C s.out.nw (by omega) (by omega)) fun b2 c=>?_;have I:V (gj E W L ((a.heap.size,dE (nN 33 (E.tk i)) s0 (O (Q ⟨a.heap.size+1,0,M⟩) 1 1))::B) b2 _ _ _ _ (Q ⟨a.heap.size+1,0,M⟩) 1 1):=s.out.move c;have bE:=tK a8 c.2.1;clear c;go_wp2_with fail;refine cd (ix G I.out.nw (by omega) (by omega)) fun a7 c=>?_;have v:V (gj E W L ((a.heap.size,dE (nN 33 (E.tk i)) s0 (O (Q ⟨a.heap.size+1,0,M⟩) 1 1))::B) a7 _ _ _ _ (Q ⟨a.heap.size+1,0,M⟩) 1 1):=I.out.move c;have b0:=tK bE c.2.1;clear c;obtain⟨ce,em,i4,gv⟩:=tL (w:=a7) G v.out.nw;have a9:=tB b0 (bI a7 (A4 (jL 1 (E.tk (o+1))) 88));have y:V (gj E W L _ (a7.alloc (A4 (jL 1 (E.tk (o+1))) 88)) _ _ _ _ _ _ _):=v.out.below (bI a7 (A4 (jL 1 (E.tk (o+1))) 88));rw[em]at a9 y;simp only[jL]at em;obtain⟨bp,bq,br,bs,bt,bw⟩:=tC gv G;obtain⟨c4,c6,c7,c8,c9,b4,da,dc,dd,df⟩:=nC y.out.nw;obtain⟨e4,f6⟩:=y.out.boxq (q:=6) b8.out (A9 (E.tk (o+1)).x);have g:V (gj E W L ((a.heap.size,dE ⟨33,(E.tk i).f,0,(E.tk i).l,0,0,(E.tk (o+1)).x,[],[h]⟩ s0 (O (Q ⟨a.heap.size+1,0,M⟩) 1 1))::B) _ _ _ _ _ _ _ _):=e4;have ba:=tK a9 f6;clear e4 f6;obtain⟨es,et,ev,ew,ex,ey,eA,eF,eL,e0⟩:=nC g.out.nw;go_wp2_with fail;clear em;refine(aes g.out.nw (by omega) (by omega) ⟨33,(E.tk i).f,0,(E.tk i).l,0,0,(E.tk (o+1)).x,[],[h]⟩ M _ 0 0 1 1 (bi _ _ _ _) g.out.ow (by have:=cu.out;have q:=u.le;rw[aJ]at q;omega) (Fr.nil _ _ _) g.out.fr (nd 33 (E.tk i) (E.tk (o+1)).t 0 0 (E.tk (o+1)).x []) g.out.ac (by rw[a0.out.tp];rfl)).mono ?_;rintro a3 b3 ⟨am,J,rfl,af,e,al⟩;have bx:V (ua E W L B b3 (o+2) p.heap.size i J (one (nd 33 (E.tk i) (E.tk (o+1)).t 0 0 (E.tk (o+1)).x []) K) am):=⟨⟨(pT e).out.sp,e.out.kt,e.out.bl⟩,e.out.ac,af,tK ba al⟩;clear e al af;go_wp2_with fail;go_roundg b1
    case measure=>omega
    case rel=>exact⟨o+2,_,am,J,rfl,u,bx.out⟩
   |@sq b1 _ ak _ _ Y _ C G cr eh fz u=>
    go_wp2_with fail;refine cd (jb C an.out.nw (by omega)) fun a6 d=>?_;have s:V (gj E W L ((a.heap.size,dE (nN 33 (E.tk i)) s0 (O (Q ⟨a.heap.size+1,0,M⟩) 1 1))::B) a6 _ _ _ _ (Q ⟨a.heap.size+1,0,M⟩) 1 1):=an.out.below d;have a8:=tB cp d;clear d;clear cc;go_wp2_with fail;refine cd (ix C s.out.nw (by omega) (by omega)) fun b2 c=>?_;have I:V (gj E W L ((a.heap.size,dE (nN 33 (E.tk i)) s0 (O (Q ⟨a.heap.size+1,0,M⟩) 1 1))::B) b2 _ _ _ _ (Q ⟨a.heap.size+1,0,M⟩) 1 1):=s.out.move c;have bE:=tK a8 c.2.1;clear c;go_wp2_with fail;refine(cr _ _ _ I.out.nw.out.sp (by have:=cu.out;have q:=u.le;simp only[aJ,Fo.sz_app]at q;omega)).mono ?_;rintro a3 a7 ⟨d6,i3,rfl,hw,ep⟩;have v:V (gj E W L ((a.heap.size,dE (nN 33 (E.tk i)) s0 (O (Q ⟨a.heap.size+1,0,M⟩) 1 1))::B) a7 _ _ (K.app Y) _ (Q ⟨a.heap.size+1,0,M⟩) 1 1):=I.out.up ep;have b0:=tK bE ep.kt;clear ep;go_wp2_with fail;refine cd (ix eh v.out.nw (by omega) (by omega)) fun ce c=>?_;have y:V (gj E W L ((a.heap.size,dE (nN 33 (E.tk i)) s0 (O (Q ⟨a.heap.size+1,0,M⟩) 1 1))::B) ce _ _ _ _ (Q ⟨a.heap.size+1,0,M⟩) 1 1):=v.out.move c;have a9:=tK b0 c.2.1;clear c;obtain⟨c4,c6,c7,c8,c9,b4,da,dc,dd,df⟩:=nC y.out.nw;obtain⟨bo,d1,g,ba⟩:=y.out.boxk b8.out 32 a9;obtain⟨es,et,ev,ew,ex,ey,eA,eF,eL,e0⟩:=nC g.out.nw;go_wp2_with (at_builtin;refine eJ rfl _ _ rfl E.base _ 1 1 [h] rfl rfl (aI g.out.ow (bI bo _)) (by rw[bu];have:=g.out.nw.out.sp.lt.2;omega) bo.heap.size d6 rfl (ar bo _) (by decide) ?_;intro bf a2 gf cz bj b6;have A:V (gj E W L _ gf _ _ _ [h,d6] (Q ⟨bf,0,M⟩) 2 a2):=g.out.put cz bj b6;have hg:=bj;obtain⟨hB,hC,hD,hE,hG,hH,hI,hJ,hK,hL⟩:=nC A.out.nw;obtain⟨e5,hy⟩:=A.out.box b8.out (O (Q ⟨bf,0,M⟩) 2 a2);obtain⟨h4,h5,h6,h7,h8,h9,ia,ib,ih,io⟩:=nC e5.nw;clear cz bj b6);have ap:V (gj E W L _ _ _ _ _ [h,d6] (Q ⟨bf,0,M⟩) 2 a2):=e5;have dp:V (TB gf p.heap.size (E.tk i)):=tG g.out ba hg;have d9:=tK dp hy;refine(aes ap.out.nw (by omega) (by omega) ⟨32,(E.tk i).f,0,(E.tk i).l,0,0,⟨#[]⟩,[],[h,d6]⟩ M _ 0 0 _ _ (bi _ _ _ _) (by have:=ap.out.ow;have q:=ap.out.ln;simpa [q] using this) (by have:=ap.out.ac.len;have q:=u.le;simp only[aJ,Fo.sz_app]at q this;omega) (Fr.nil _ _ _) ap.out.fr (iB 32 (E.tk i) (E.tk ak).t) ap.out.ac (by rw[Fo.tops_app,a0.out.tp,<-cu.out,hw];rfl)).mono ?_;rintro a3 b3 ⟨am,J,rfl,af,e,al⟩;have bx:V (ua E W L B b3 (ak+1) p.heap.size i J (one (iB 32 (E.tk i) (E.tk ak).t) (K.app Y)) am):=⟨⟨(pT e).out.sp,e.out.kt,e.out.bl⟩,e.out.ac,af,tK d9 al⟩;clear e al af;go_wp2_with fail;go_roundg b1
    case measure=>omega
    case rel=>exact⟨ak+1,_,am,J,rfl,u,bx.out⟩
   |@call0 b1 _ _ _ _ C G cr u=>
    go_wp2_with fail;refine cd (jb C an.out.nw (by omega)) fun a6 d=>?_;have s:V (gj E W L ((a.heap.size,dE (nN 33 (E.tk i)) s0 (O (Q ⟨a.heap.size+1,0,M⟩) 1 1))::B) a6 _ _ _ _ (Q ⟨a.heap.size+1,0,M⟩) 1 1):=an.out.below d;have a8:=tB cp d;clear d;clear cc;go_wp2_with fail;refine cd (ix C s.out.nw (by omega) (by omega)) fun b2 c=>?_;have I:V (gj E W L ((a.heap.size,dE (nN 33 (E.tk i)) s0 (O (Q ⟨a.heap.size+1,0,M⟩) 1 1))::B) b2 _ _ _ _ (Q ⟨a.heap.size+1,0,M⟩) 1 1):=s.out.move c;have bE:=tK a8 c.2.1;clear c;obtain⟨c4,c6,c7,c8,c9,b4,da,dc,dd,df⟩:=nC I.out.nw;obtain⟨a7,d1,v,b0⟩:=I.out.boxk b8.out 34 bE;obtain⟨es,et,ev,ew,ex,ey,eA,eF,eL,e0⟩:=nC v.out.nw;go_wp2_with fail;refine cd (jb G v.out.nw (by omega)) fun ce d=>?_;have y:V (gj E W L ((a.heap.size,dE (nN 34 (E.tk i)) s0 (O (Q ⟨a.heap.size+1,0,M⟩) 1 1))::B) ce _ _ _ _ (Q ⟨a.heap.size+1,0,M⟩) 1 1):=v.out.below d;have a9:=tB b0 d;clear d d1;go_wp2_with fail;refine cd (ix G y.out.nw (by omega) (by omega)) fun bo c=>?_;have g:V (gj E W L ((a.heap.size,dE (nN 34 (E.tk i)) s0 (O (Q ⟨a.heap.size+1,0,M⟩) 1 1))::B) bo _ _ _ _ (Q ⟨a.heap.size+1,0,M⟩) 1 1):=y.out.move c;have ba:=tK a9 c.2.1;clear c;obtain⟨h4,h5,h6,h7,h8,h9,ia,ib,ih,io⟩:=nC g.out.nw;go_wp2_with fail;refine(aes g.out.nw (by omega) (by omega) ⟨34,(E.tk i).f,0,(E.tk i).l,0,0,⟨#[]⟩,[],[h]⟩ M _ 0 0 _ _ (bi _ _ _ _) (by have:=g.out.ow;have q:=g.out.ln;simpa [q] using this) (by have:=g.out.ac.len;have q:=u.le;simp only[aJ,Fo.sz_app]at q this;omega) (Fr.nil _ _ _) g.out.fr (iB 34 (E.tk i) (E.tk (o+1)).t) g.out.ac (by rw[a0.out.tp];rfl)).mono ?_;rintro a3 b3 ⟨am,J,rfl,af,e,al⟩;have bx:V (ua E W L B b3 (o+2) p.heap.size i J (one (iB 34 (E.tk i) (E.tk (o+1)).t) K) am):=⟨⟨(pT e).out.sp,e.out.kt,e.out.bl⟩,e.out.ac,af,tK ba al⟩;clear e al af;go_wp2_with fail;go_roundg b1
    case measure=>omega
    case rel=>exact⟨o+2,_,am,J,rfl,u,bx.out⟩
   |@call b1 _ ak _ _ Y _ C G cr eh fz j0 u=>
    have i9:((E.tk (o+1)).k !=41)=true:=by simp[cr]
    go_wp2_with fail;refine cd (jb C an.out.nw (by omega)) fun a6 d=>?_;have s:V (gj E W L ((a.heap.size,dE (nN 33 (E.tk i)) s0 (O (Q ⟨a.heap.size+1,0,M⟩) 1 1))::B) a6 _ _ _ _ (Q ⟨a.heap.size+1,0,M⟩) 1 1):=an.out.below d;have a8:=tB cp d;clear d;clear cc;go_wp2_with fail;refine cd (ix C s.out.nw (by omega) (by omega)) fun b2 c=>?_;have I:V (gj E W L ((a.heap.size,dE (nN 33 (E.tk i)) s0 (O (Q ⟨a.heap.size+1,0,M⟩) 1 1))::B) b2 _ _ _ _ (Q ⟨a.heap.size+1,0,M⟩) 1 1):=s.out.move c;have bE:=tK a8 c.2.1;clear c;obtain⟨c4,c6,c7,c8,c9,b4,da,dc,dd,df⟩:=nC I.out.nw;obtain⟨a7,d1,v,b0⟩:=I.out.boxk b8.out 34 bE;obtain⟨es,et,ev,ew,ex,ey,eA,eF,eL,e0⟩:=nC v.out.nw;go_wp2_with fail;refine cd (jb rfl v.out.nw (by omega)) fun ce d=>?_;have y:V (gj E W L ((a.heap.size,dE (nN 34 (E.tk i)) s0 (O (Q ⟨a.heap.size+1,0,M⟩) 1 1))::B) ce _ _ _ _ (Q ⟨a.heap.size+1,0,M⟩) 1 1):=v.out.below d;have a9:=tB b0 d;clear d d1;go_wp2_with fail;refine(eh _ _ _ y.out.nw.out.sp (by have:=cu.out;have q:=u.le;simp only[aJ,Fo.sz_app]at q;omega)).mono ?_;rintro a3 bo ⟨h3,e9,rfl,⟨fu,_⟩,d3,eq⟩;obtain⟨a4,ek⟩:=aA Y.len;obtain⟨r,ca⟩:=aA (Y.tops cl.length);have eo:r.length=a4:=by rw[<-ca,Fo.tops_len,ek]
    rw[ek,ca]at d3;have fk:V (lK E bo h3 r (O (Q ⟨a.heap.size+1,0,M⟩) 1 1)):=aet (Y:=Y) y.out (by rw[eo];exact d3) fu;have g:V (gj E W L ((a.heap.size,dE (nN 34 (E.tk i)) s0 (O (Q ⟨a.heap.size+1,0,M⟩) 1 1))::B) bo _ _ (K.app Y) _ (Q ⟨a.heap.size+1,0,M⟩) 1 1):=y.out.up eq;have ba:=tK a9 eq.kt;have j6:a4<=50000000:=by have q:=u.le;have j9:=Y.len_le;simp only[aJ,Fo.sz_app]at q;omega
    have dj:=eH ca eo;obtain⟨ec,fq,rfl⟩:=cH d3;clear eq fu d3 ca eo ek;have fg:=jn g.out fk.out ba.out;clear g fk ba;go_wp2_with fail;go_loopw [95] (fun e1 wr=>∃(q cv:Nat) (av:Option Addr),q<=a4/\e1= A2 A1 q/\V (gj E W L ((a.heap.size,dE (nN 34 (E.tk i)) s0 (O av (q+1) cv))::B) wr ak e9 (K.app Y) (h::r.take q) av (q+1) cv/\lK E wr (O ec a4 fq) r (O av (q+1) cv)/\TB wr p.heap.size (E.tk i))) (fun e1 _=>a4-(B2 e1).toNat)
    case atStart=>exact⟨0,1,_,aG _,rfl,fg⟩
    case round=>
     clear fg;obtain⟨q,cv,av,f1,rfl,e8⟩:=hrel;obtain⟨f8,gd,ge⟩:=e8.out;have A:V (gj E W L ((a.heap.size,dE (nN 34 (E.tk i)) s0 (O av (q+1) cv))::B) _ ak e9 (K.app Y) (h::r.take q) av (q+1) cv):=f8;have dp:V (TB _ p.heap.size (E.tk i)):=ge;have d8:V (lK E _ (O ec a4 fq) r (O av (q+1) cv)):=gd;clear f8 gd ge e8;by_cases hj:q<a4
     ·obtain⟨x,d2⟩:=bH dj.out.2 hj;obtain⟨cq,rfl⟩:∃cq,ec=Q ⟨cq,0,M⟩:=by
       rcases bK d8.out.ow with⟨j1,_⟩|⟨cq,hb,ht⟩
       ·have:=dj.out.2;omega
       ·exact⟨cq,(Kn ht).1⟩
      have i5:=d8.out.at d2;have hn:(0:Int)<=(q:Int):=by omega
      have ho:(q:Int)<(a4:Int):=by omega
      obtain⟨c4,c6,c7,c8,c9,b4,da,dc,dd,df⟩:=nC A.out.nw;have hm:q+1<=50000000:=by omega
      have hh:(h::r.take q).length=q+1:=A.out.ln;go_wp2_with (first|(at_builtin;refine eJ rfl _ _ rfl E.base _ (q+1) cv (h::r.take q) rfl hh (aI A.out.ow (bI _ _)) (by rw[bu];have:=A.out.nw.out.sp.lt.2;omega) _ x rfl (ar _ _) hm ?_;intro bf a2 e2 cz bj b6;have ap:V (gj E W L _ e2 _ _ _ (h::r.take q++[x]) (Q ⟨bf,0,M⟩) (q+1+1) a2):=A.out.put cz bj b6;have gt:V (lK E e2 _ r (O (Q ⟨bf,0,M⟩) (q+1+1) a2)):=d8.out.put bj b6;have d9:V (TB e2 p.heap.size (E.tk i)):=tG A.out dp bj;obtain⟨hB,hC,hD,hE,hG,hH,hI,hJ,hK,hL⟩:=nC ap.out.nw;obtain⟨gr,f7⟩:=ap.out.box b8.out (O (Q ⟨bf,0,M⟩) (q+1+1) a2);clear cz bj b6)|fail);have ea:=tK d9 f7;have gu:V (lK E _ _ r (O (Q ⟨bf,0,M⟩) (q+1+1) a2)):=gt.out.kt f7;have ao:=gr;rw[show h::r.take q++[x]=h::r.take (q+1) by rw[gG,d2];rfl]at ao;exact⟨⟨q+1,a2,_,by omega,by go_num,ao,gu.out,ea.out⟩,by simp[B2];omega⟩
     ·obtain rfl:q=a4:=by omega
      have ca:r.take q=r:=cI (by rw[dj.out.2];exact ag _);rw[ca]at A;go_wp2_with fail;refine cd (ix fz A.out.nw (by omega) (by omega)) fun iv c=>?_;have ao:V (gj E W L ((a.heap.size,dE (nN 34 (E.tk i)) s0 (O av (q+1) cv))::B) iv _ _ _ _ av (q+1) cv):=A.out.move c;have ea:=tK dp c.2.1;clear c;obtain⟨c4,c6,c7,c8,c9,b4,da,dc,dd,df⟩:=nC ao.out.nw;go_wp2_with fail;refine(aes ao.out.nw (by omega) (by omega) ⟨34,(E.tk i).f,0,(E.tk i).l,0,0,⟨#[]⟩,[],h::r⟩ M _ 0 0 _ _ (bi _ _ _ _) (by rw[ao.out.ln];exact ao.out.ow) (by have:=ao.out.ac.len;have q:=u.le;simp only[aJ,Fo.sz_app]at q this;omega) (Fr.nil _ _ _) ao.out.fr (iB 34 (E.tk i) (E.tk ak).t) ao.out.ac (by rw[Fo.tops_app,a0.out.tp,<-cu.out,dj.out.1];rfl)).mono ?_;rintro a3 b3 ⟨am,J,rfl,af,e,al⟩;have bx:V (ua E W L B b3 (ak+1) p.heap.size i J (one (iB 34 (E.tk i) (E.tk ak).t) (K.app Y)) am):=⟨⟨(pT e).out.sp,e.out.kt,e.out.bl⟩,e.out.ac,af,tK ea al⟩;clear e al af;go_wp2_with fail;go_roundg b1
      case measure=>omega
      case rel=>exact⟨ak+1,_,am,J,rfl,u,bx.out⟩
theorem aeu{R:Fo}{m:Nat}(c:(E.tk i).k=1)(a:i<E.n)(d:i+1<E.n)(e:Ps E (Jh E) (CLx E) (E.tk i) m (one (nd 26 (E.tk i) (E.tk i).t 0 0 (E.tk i).x []) .nil) (i+1) R j):CB E i R j:=ai7 c a (.inl ⟨rfl,rfl,rfl⟩) d e
theorem aev{R:Fo}{m:Nat}{N:Nd}{ks:Fo}(e:(E.tk i).k=40)(c:i<E.n)(h:Jh E (i+1) (one N ks) k)(a:(E.tk k).k=41)(d:i+1<=k)(f:k+1<E.n)(g:Ps E (Jh E) (CLx E) (E.tk i) m (mo N ks (E.tk i) (E.tk k).t) (k+1) R j):CB E i R j:=ai7 e c (.inr ⟨rfl,N,ks,k,h,a,rfl,d,rfl⟩) f g
end
section
variable {E : Pe} {i j : Nat}
def CuT(E:Pe)(i:Nat)(w':A8):Prop:=w'.cell? ⟨E.pb,0,M⟩=Q (O (Q ⟨E.tb,0,M⟩) E.n E.cap)/\w'.cell? ⟨E.pb,1,M⟩=Q (A2 A1 (i:Int))/\w'.cell? ⟨E.tb,i*6,M⟩=Q (A2 A1 (E.tk i).k)/\w'.cell? ⟨E.tb,i*6+1,M⟩=Q (A2 A1 (E.tk i).f)/\w'.cell? ⟨E.tb,i*6+2,M⟩=Q (A2 A1 (E.tk i).t)/\w'.cell? ⟨E.tb,i*6+3,M⟩=Q (A2 A1 (E.tk i).l)/\w'.cell? ⟨E.tb,i*6+4,M⟩=Q (A2 A1 (E.tk i).n)/\w'.cell? ⟨E.tb,i*6+5,M⟩=Q (A9 (E.tk i).x)
theorem Sp.cut{W:A8}{L:List Mb}{B:List (Nat×Array A5)}(h:Sp E W i L B)(e:i<E.n)(d:(E.tk i).k≠6):CuT E i W:=by
 obtain⟨a,c,s⟩:=h.cells;obtain⟨f,g,m,o,p,r⟩:=h.tkw e d;exact⟨a,c,f,g,m,o,p,r⟩
theorem bdN(w:A8)(n:Nat):B1 w.heap.size w (w.drewN n):=⟨rfl,rfl,rfl,ag _,fun _ _=>rfl⟩
theorem ab1{k:Int}(b6:k=1\/k=40)(a6:(E.tk i).k=k)(A:i<E.n){x:Fo}(bA:CB E i x j)(bt:(E.tk j).k≠46)(bw:(E.tk j).k≠47)(bx:j<E.n)(b8:i+1<=j):CI E 85 #[pV E] i (one (iB 6 (E.tk i) (E.tk (j-1)).t) x) j:=by
 intro W L B J a7;have y:(E.tk i).k≠6:=by omega
 have H:=gL.start J;have hS:V (∀w',B1 W.heap.size W w'->CuT E i w'):=fun w' b=>(J.below b).cut A y;have a5:(i:Int)<(E.n:Int):=by omega
 have a4:(0:Int)<=(i:Int):=by omega
 have b7:=J.hn;have a8:IntKind.i64.wrap (i:Int)=(i:Int):=by rw[cw];omega
 clear J;go_in;go_wp2_with fail;refine A6 (S:=CuT E i) (by kernel_rfl) (hS.out _ (be (ai _ _))) (fun a=>?_);simp only[jG,cC,gq,Nat.reduceAdd,mC,mD,mE,fx,fy];refine di 0 (A3 (Q ⟨E.pb,0,M⟩)) rfl rfl (by kernel_rfl) (fun _ _ _=>id) a (fun w' ⟨m,o,p,r,s,r5,u,v⟩=>by go_simp) ?_;simp only[Z];refine di 1 (A3 (Q ⟨E.pb,0,M⟩)) rfl rfl (by kernel_rfl) (fun _ _ _=>id) a (fun w' ⟨m,o,p,r,s,r5,u,v⟩=>by go_simp) ?_;simp only[Z];refine di 2 (A3 (Q ⟨E.pb,0,M⟩)) rfl rfl (by kernel_rfl) (fun _ _ _=>id) a (fun w' ⟨m,o,p,r,s,r5,u,v⟩=>by go_simp) ?_;simp only[Z];refine di 3 (O (Q ⟨E.tb,0,M⟩) E.n E.cap) rfl rfl (by kernel_rfl) (fun _ _ _=>id) a (fun w' ⟨m,o,p,r,s,r5,u,v⟩=>by go_simp) ?_;simp only[Z];refine di 4 (A3 (Q ⟨E.pb,0,M⟩)) rfl rfl (by kernel_rfl) (fun _ _ _=>id) a (fun w' ⟨m,o,p,r,s,r5,u,v⟩=>by go_simp) ?_;simp only[Z];refine di 5 (A3 (Q ⟨E.pb,0,M⟩)) rfl rfl (by kernel_rfl) (fun _ _ _=>id) a (fun w' ⟨m,o,p,r,s,r5,u,v⟩=>by go_simp) ?_;simp only[Z];refine di 6 (A3 (Q ⟨E.pb,1,M⟩)) rfl rfl (by kernel_rfl) (fun _ _ _=>id) a (fun w' ⟨m,o,p,r,s,r5,u,v⟩=>by go_simp) ?_;simp only[Z];refine di 7 (A2 A1 (i:Int)) rfl rfl (by kernel_rfl) (fun _ _ _=>id) a (fun w' ⟨m,o,p,r,s,r5,u,v⟩=>by go_simp) ?_;simp only[Z];refine di 8 (A3 (Q ⟨E.tb,i*6,M⟩)) rfl rfl (by kernel_rfl) (fun _ _ _=>id) a (fun w' ⟨m,o,p,r,s,r5,u,v⟩=>by go_simp) ?_;simp only[Z];refine di 9 (B3 (jL (E.tk i).k (E.tk i))) rfl rfl (by kernel_rfl) (fun _ _ _=>id) a (fun w' ⟨m,o,p,r,s,r5,u,v⟩=>by go_simp) ?_;simp only[Z];refine A0 (rs:=[10,11]) (by kernel_rfl) (by simp) (U rfl (fun e c=>?_) (U rfl (fun e c=>?_) Ax))
 case' refine_1=>
  go_simp;refine cd (gA a6 _ _) fun ap C=>?_;have g:=nB (nB H (be (ai _ _))) C;refine c.out _ _ (g.out.sp.cut A y) (fun a=>?_);clear c e;try simp only[dv,dw,dA]
  refine A0 (rs:=[11]) (by kernel_rfl) (by simp) (U rfl (fun e c=>?_) Ax);go_simp;refine c.out _ _ ((nB g (bI _ _)).out.sp.cut A y) (fun a=>?_);clear c e;try simp only[dv,dw,dA]
  refine A0 (rs:=[12]) (by kernel_rfl) (by simp) (U rfl (fun e c=>?_) Ax);go_simp;have h:=nA g (dE (nN 5 (E.tk i)) s0 s0);have d:=aj g.out.sp.lt.2;refine c.out _ _ (h.out.sp.cut A y) (fun a=>?_);clear c e;refine wpAnyH_done (by kernel_rfl) ?_ _;clear g C a;generalize G:ap.alloc _=ba at h⊢;generalize ap.heap.size=b at h d⊢;clear G
 case' refine_2=>
  go_simp;have am:=nB (nA H (dE ⟨0,0,0,0,0,0,⟨#[]⟩,[],[]⟩ s0 s0)) (be (ai _ _));refine c.out _ _ (am.out.sp.cut A y) (fun a=>?_);clear c e;try simp only[dv,dw,dA]
  refine A0 (rs:=[10]) (by kernel_rfl) (by simp) (U rfl (fun e c=>?_) Ax);go_simp;refine cd (gA a6 _ _) fun ap C=>?_;have g:=nB am C;refine c.out _ _ (g.out.sp.cut A y) (fun a=>?_);clear c e;try simp only[dv,dw,dA]
  obtain⟨bb,bd,bf,bj,bk,bl,bn,bo,a1,bp⟩:=nC g;refine A0 (rs:=[12]) (by kernel_rfl) (by simp) (U rfl (fun e c=>?_) Ax);go_simp;have d:=aj H.out.sp.lt.2;have I:=nS (nS (nS (nS (nS (nS (nS (nS (nS g d.out 0 (A2 A1 5)) d.out 1 (A2 A1 (E.tk i).f)) d.out 2 (A2 A1 0)) d.out 3 (A2 A1 (E.tk i).l)) d.out 4 (A2 A1 0)) d.out 5 (A2 A1 0)) d.out 6 (A9 ⟨#[]⟩)) d.out 7 s0) d.out 8 s0;refine c.out _ _ (I.out.sp.cut A y) (fun a=>?_);clear c e;refine wpAnyH_done (by kernel_rfl) ?_ _;generalize G:World.setCell _ _ _=ba at I⊢;have h:=aj I;clear g C am a bb bd bf bj bk bl bn bo a1 bp I G;obtain⟨b,K⟩:=aA W.heap.size;rw[K]at d;rw[show Value.pointer (Q ⟨W.heap.size,0,M⟩)=Value.pointer (Q ⟨b,0,M⟩) by rw[K]];replace h:V (gL E W ba i L ((b,dE (nN 5 (E.tk i)) s0 s0)::B)):=by rw[<-K];exact h
  clear K
 all_goals
  clear H hS a5 a4 a8;go_wp2_with fail;refine(bA _ _ _ h.out.sp (by simp only[aJ]at a7;omega)).mono ?_;rintro bs a9 ⟨z,bq,rfl,G,ao⟩;have af:=nP h ao;have ac:=nL h ao;clear ao;obtain⟨b2,b3,b4⟩:=af.out.sp.cells;obtain⟨l,b9,cl,cm,cn,cp,cq,cr⟩:=af.out.sp.tok bx;have a5:(j:Int)<(E.n:Int):=by omega
  have a4:(0:Int)<=(j:Int):=by omega
  have ce:((E.tk j).k !=46)=true:=by simp[bt]
  have ck:((E.tk j).k !=47)=true:=by simp[bw]
  have a8:IntKind.i64.wrap (j:Int)=(j:Int):=by rw[cw];omega
  go_wp2_with fail;go_quiet (fail)
  have ak:=nB af (bdN a9 nq);generalize a9.drewN nq=b0 at ak⊢;obtain⟨bb,bd,bf,bj,bk,bl,bn,bo,a1,bp⟩:=nC ak;obtain⟨a0,cb,al⟩:∃a0,b0.setCell ⟨b,0,M⟩ (A2 A1 6)=a0/\V (gL E W a0 j bq ((b,dE (nN 6 (E.tk i)) s0 s0)::B)):=⟨_,rfl,nS ak d.out 0 _⟩;obtain⟨c5,ca,a3,br,cc⟩:=nKI [z] #[A2 A1 z] rfl 1 rfl al d.out (by decide);have a2:=nCA al;have a1:=fun an=>(a2 an).1;have c7:=fun an=>(a2 an).2;clear a2;obtain⟨cs,ct,cu,cx,cy,cz,cB,c2,c3,c4⟩:=nC a3;go_wp2_with fail;refine(ni a3 (by omega) (by omega) ⟨6,(E.tk i).f,0,(E.tk i).l,0,0,⟨#[]⟩,[],[z]⟩ M _ 0 0 _ _ (bi _ _ _ _) br.out (by rw[ac.out.len];simp only[aJ]at a7;omega) (Fr.nil _ _ _) (Fr.new al.out.kt.size) (iB 6 (E.tk i) (E.tk (j-1)).t) ac.out (by rw[G];rfl)).mono ?_;rintro bs c6 ⟨c8,b1,rfl,bD,bE⟩;go_wp2_with fail;go_ret;exact⟨_,_,rfl,bD,(pT bE).out⟩
end
section
variable {E : Pe} {i j : Nat}
abbrev nS5(T:Tk)(q:Int):Nd:=⟨5,T.f,0,T.l,0,q,⟨#[]⟩,[],[]⟩
theorem Jr{c7:Int}{k am m:Nat}(hf:c7=1\/c7=40)(el:(E.tk i).k=c7)(a1:i<E.n){x R o:Fo}(ge:CB E i x k)(c4:Ls E (CB E) m k R am)(cs:(E.tk am).k=47)(f1:am<E.n)(f0:CLx E (am+1) o j)(f2:k<E.n)(hh:am+1<=j)(hm:j<=E.n):CI E 85 #[pV E] i (one (nd 5 (E.tk i) (E.tk (j-1)).t 0 ((x.app R).len:Nat) z0 []) ((x.app R).app o)) j:=by
 have hkk:(E.tk k).k=46\/(E.tk k).k=47:=by
  cases c4 with
  |stop _ _=>exact .inr cs
  |go a9 _ _ _=>exact .inl a9
 have d7:=aj c4;clear c4;intro W L B a9 cz;have a0:(E.tk i).k≠6:=by omega
 have b1:=gL.start a9;have hS:V (∀w',B1 W.heap.size W w'->CuT E i w'):=fun w' b=>(a9.below b).cut a1 a0;have cy:(i:Int)<(E.n:Int):=by omega
 have cu:(0:Int)<=(i:Int):=by omega
 have hg:=a9.hn;have c6:IntKind.i64.wrap (i:Int)=(i:Int):=by rw[cw];omega
 clear a9;go_in;go_wp2_with fail;refine A6 (S:=CuT E i) (by kernel_rfl) (hS.out _ (be (ai _ _))) (fun a=>?_);simp only[jG,cC,gq,Nat.reduceAdd,mC,mD,mE,fx,fy];refine di 0 (A3 (Q ⟨E.pb,0,M⟩)) rfl rfl (by kernel_rfl) (fun _ _ _=>id) a (fun w' ⟨H,I,J,K,af,r5,ak,al⟩=>by go_simp) ?_;simp only[Z];refine di 1 (A3 (Q ⟨E.pb,0,M⟩)) rfl rfl (by kernel_rfl) (fun _ _ _=>id) a (fun w' ⟨H,I,J,K,af,r5,ak,al⟩=>by go_simp) ?_;simp only[Z];refine di 2 (A3 (Q ⟨E.pb,0,M⟩)) rfl rfl (by kernel_rfl) (fun _ _ _=>id) a (fun w' ⟨H,I,J,K,af,r5,ak,al⟩=>by go_simp) ?_;simp only[Z];refine di 3 (O (Q ⟨E.tb,0,M⟩) E.n E.cap) rfl rfl (by kernel_rfl) (fun _ _ _=>id) a (fun w' ⟨H,I,J,K,af,r5,ak,al⟩=>by go_simp) ?_;simp only[Z];refine di 4 (A3 (Q ⟨E.pb,0,M⟩)) rfl rfl (by kernel_rfl) (fun _ _ _=>id) a (fun w' ⟨H,I,J,K,af,r5,ak,al⟩=>by go_simp) ?_;simp only[Z];refine di 5 (A3 (Q ⟨E.pb,0,M⟩)) rfl rfl (by kernel_rfl) (fun _ _ _=>id) a (fun w' ⟨H,I,J,K,af,r5,ak,al⟩=>by go_simp) ?_;simp only[Z];refine di 6 (A3 (Q ⟨E.pb,1,M⟩)) rfl rfl (by kernel_rfl) (fun _ _ _=>id) a (fun w' ⟨H,I,J,K,af,r5,ak,al⟩=>by go_simp) ?_;simp only[Z];refine di 7 (A2 A1 (i:Int)) rfl rfl (by kernel_rfl) (fun _ _ _=>id) a (fun w' ⟨H,I,J,K,af,r5,ak,al⟩=>by go_simp) ?_;simp only[Z];refine di 8 (A3 (Q ⟨E.tb,i*6,M⟩)) rfl rfl (by kernel_rfl) (fun _ _ _=>id) a (fun w' ⟨H,I,J,K,af,r5,ak,al⟩=>by go_simp) ?_;simp only[Z];refine di 9 (B3 (jL (E.tk i).k (E.tk i))) rfl rfl (by kernel_rfl) (fun _ _ _=>id) a (fun w' ⟨H,I,J,K,af,r5,ak,al⟩=>by go_simp) ?_;simp only[Z];refine A0 (rs:=[10,11]) (by kernel_rfl) (by simp) (U rfl (fun p d=>?_) (U rfl (fun p d=>?_) Ax))
 case' refine_1=>
  go_simp;refine cd (gA el _ _) fun A bw=>?_;have u:=nB (nB b1 (be (ai _ _))) bw;refine d.out _ _ (u.out.sp.cut a1 a0) (fun a=>?_);clear d p;try simp only[dv,dw,dA]
  refine A0 (rs:=[11]) (by kernel_rfl) (by simp) (U rfl (fun p d=>?_) Ax);go_simp;refine d.out _ _ ((nB u (bI _ _)).out.sp.cut a1 a0) (fun a=>?_);clear d p;try simp only[dv,dw,dA]
  refine A0 (rs:=[12]) (by kernel_rfl) (by simp) (U rfl (fun p d=>?_) Ax);go_simp;have g:=nA u (dE (nN 5 (E.tk i)) s0 s0);have e:=aj u.out.sp.lt.2;refine d.out _ _ (g.out.sp.cut a1 a0) (fun a=>?_);clear d p;refine wpAnyH_done (by kernel_rfl) ?_ _;clear u bw a;generalize a2:A.alloc _=fb at g⊢;generalize A.heap.size=b at g e⊢;clear a2
 case' refine_2=>
  go_simp;have cm:=nB (nA b1 (dE ⟨0,0,0,0,0,0,⟨#[]⟩,[],[]⟩ s0 s0)) (be (ai _ _));refine d.out _ _ (cm.out.sp.cut a1 a0) (fun a=>?_);clear d p;try simp only[dv,dw,dA]
  refine A0 (rs:=[10]) (by kernel_rfl) (by simp) (U rfl (fun p d=>?_) Ax);go_simp;refine cd (gA el _ _) fun A bw=>?_;have u:=nB cm bw;refine d.out _ _ (u.out.sp.cut a1 a0) (fun a=>?_);clear d p;try simp only[dv,dw,dA]
  obtain⟨bj,bk,bl,bn,bo,bp,bq,br,a4,bs⟩:=nC u;refine A0 (rs:=[12]) (by kernel_rfl) (by simp) (U rfl (fun p d=>?_) Ax);go_simp;have e:=aj b1.out.sp.lt.2;have b4:=nS (nS (nS (nS (nS (nS (nS (nS (nS u e.out 0 (A2 A1 5)) e.out 1 (A2 A1 (E.tk i).f)) e.out 2 (A2 A1 0)) e.out 3 (A2 A1 (E.tk i).l)) e.out 4 (A2 A1 0)) e.out 5 (A2 A1 0)) e.out 6 (A9 ⟨#[]⟩)) e.out 7 s0) e.out 8 s0;refine d.out _ _ (b4.out.sp.cut a1 a0) (fun a=>?_);clear d p;refine wpAnyH_done (by kernel_rfl) ?_ _;generalize a2:World.setCell _ _ _=fb at b4⊢;have g:=aj b4;clear u bw cm a bj bk bl bn bo bp bq br a4 bs b4 a2;obtain⟨b,b8⟩:=aA W.heap.size;rw[b8]at e;rw[show Value.pointer (Q ⟨W.heap.size,0,M⟩)=Value.pointer (Q ⟨b,0,M⟩) by rw[b8]];replace g:V (gL E W fb i L ((b,dE (nN 5 (E.tk i)) s0 s0)::B)):=by rw[<-b8];exact g
  clear b8
 all_goals
  clear b1 hS cy cu c6;go_wp2_with fail;refine(ge _ _ _ g.out.sp (by simp only[aJ,Fo.sz_app]at cz;omega)).mono ?_;rintro b6 e9 ⟨z,ck,rfl,a2,da⟩;have a7:=nP g da;have ac:=nL g da;clear da;obtain⟨fq,fu,fz⟩:=a7.out.sp.cells;obtain⟨l,f3,cc,dd,df,dg,dj,dn⟩:=a7.out.sp.tok f2;have cy:(k:Int)<(E.n:Int):=by omega
  have cu:(0:Int)<=(k:Int):=by omega
  have c6:IntKind.i64.wrap (k:Int)=(k:Int):=by rw[cw];omega
  go_wp2_with fail;rcases hkk with hkk|hkk;all_goals
   rw[hkk]at cc;go_quiet (fail)
   have ap:=nB a7 (bdN e9 nq);generalize e9.drewN nq=dx at ap⊢;obtain⟨bj,bk,bl,bn,bo,bp,bq,br,a4,bs⟩:=nC ap;obtain⟨e7,gb,b3,ea,gf⟩:=nKI [z] #[A2 A1 z] rfl 1 rfl ap e.out (by decide);have d1:=nCA ap;have a4:=fun c9=>(d1 c9).1;have g8:=fun c9=>(d1 c9).2;clear d1;obtain⟨eA,eF,eL,e0,e1,e2,e3,e4,e5,e6⟩:=nC b3;obtain⟨bD,gd,d9,er⟩:∃bD,e7.setCell ⟨b,5,M⟩ (A2 A1 1)=bD/\V (gL E W bD k ck ((b,dE (nS5 (E.tk i) (1)) s0 (O (Q ⟨dx.heap.size,0,M⟩) 1 1))::B))/\Kt e7 bD:=⟨_,rfl,nS b3 e.out 5 _,b3.out.sp.kset 5 _⟩;have d3:V (fH E W L ((b,dE (nS5 (E.tk i) ((1:Nat))) s0 (O (Q ⟨dx.heap.size,0,M⟩) 1 1))::B) bD k ck x (Q ⟨dx.heap.size,0,M⟩) 1 1):=⟨d9,ac.out,by rw[<-Fo.tops_len x L.length,a2];rfl,by rw[a2];exact er.row ea.out (by decide) (by decide),Fr.new ap.out.kt.size,sw ap.out.sp (ag _)⟩;go_wp2_with fail;clear gb gd fq fu fz cc dd df dg dj dn cy cu c6 bj bk bl bn bo bp bq br a4 bs eA eF eL e0 e1 e2 e3 e4 e5 e6 g8 g a7 ap b3 d9 ea gf er ac a2 f3;go_loopg [4] m (fun gk g6 wr=>∃(k:Nat) (D cn:Fo) (ff:Int) (av:Option Addr) (n cv:Nat) (L1:List Mb),g6= A2 A1 ff/\V (Ls E (CB E) gk k cn am/\fH E W L ((b,dE (nS5 (E.tk i) ((n:Int))) s0 (O av n cv))::B) wr k L1 D av n cv/\D.app cn=x.app R))
   case atStart=>exact⟨k,x,R,z,_,1,1,ck,rfl,d7.out,d3.out,rfl⟩
   case round=>
    clear d3 d7;obtain⟨gr,D,cn,ff,av,n,cv,L2,rfl,ce⟩:=hrel;obtain⟨fB,ba,bx⟩:=ce.out;cases fB with
    |stop ei cr=>
     have cl:=ba.nw;have ct:D=x.app R:=by rw[<-bx,Fo.app_nil]
     have a6:=aj ba;clear ba bx ce;go_wp2_with fail;refine cd (isN (by rw[cs];decide) cl cr) fun ds ef=>?_;have an:V (fH E W L ((b,dE (nS5 (E.tk i) (n:Int)) s0 (O av n cv))::B) ds _ L2 D av n cv):=a6.out.below ef;clear ef;go_wp2_with fail;refine cd (ix cs an.out.nw f1 (by omega)) fun a3 ex=>?_;have C:V (fH E W L ((b,dE (nS5 (E.tk i) (n:Int)) s0 (O av n cv))::B) a3 (am+1) L2 D av n cv):=an.out.move ex;clear ex;have bt:V (gj E W L ((b,dE (nS5 (E.tk i) (n:Int)) s0 (O av n cv))::B) a3 (am+1) L2 D (D.tops L.length) av n cv):=⟨C.out.nw,C.out.ac,by rw[Fo.tops_len];exact C.out.ln,C.out.ow,C.out.fr,C.out.sv⟩;have en:L.length+(D.app o).sz+1<=50000000:=by rw[ct];simp only[aJ,Fo.sz_app]at cz⊢;omega
     have cB:L2.length=L.length+D.sz:=C.out.ac.len;go_wp2_with fail;refine(f0 _ _ _ bt.out.nw.out.sp (by rw[cB];simp only[Fo.sz_app]at en;omega)).mono ?_;rintro b6 A ⟨g5,d8,rfl,⟨eh,_⟩,cb,ew⟩;obtain⟨y,c3⟩:=aA o.len;obtain⟨c,bf⟩:=aA (o.tops L2.length);obtain⟨v,c2⟩:=aA (D.tops L.length);have c8:c.length=y:=by rw[<-bf,Fo.tops_len,c3]
     have es:D.len=n:=C.out.ln;rw[c3,bf]at cb;rw[c2]at bt;have ee:V (lK E A g5 c (O av n cv)):=aet (Y:=o) bt.out (by rw[c8];exact cb) eh;have s:V (gj E W L ((b,dE (nS5 (E.tk i) (n:Int)) s0 (O av n cv))::B) A _ _ (D.app o) v av n cv):=bt.out.up ew;have ho:n+y<=50000000:=by have hw:=o.len_le;have dc:=D.len_le;simp only[Fo.sz_app]at en;omega
     have ao:V ((o.tops L2.length=c/\D.tops L.length=v/\c.length=y)/\D.len=n/\L2.length=L.length+D.sz):=⟨⟨bf,c2,c8⟩,es,cB⟩;obtain⟨cq,eg,rfl⟩:=cH cb;have eb:V (gj E W L ((b,dE (nS5 (E.tk i) (n:Int)) s0 (O av (n+0) cv))::B) A j d8 (D.app o) (v++c.take 0) av (n+0) cv/\lK E A (O cq y eg) c (O av (n+0) cv)):=⟨by rw[yI,fj];exact s.out,ee.out⟩;clear ew eh cb bf c8 c3 c2 es cB an C bt s ee a6;go_wp2_with fail;go_loopw [76] (fun dp wr=>∃(q cv:Nat) (av:Option Addr),q<=y/\dp= A2 A1 q/\V (gj E W L ((b,dE (nS5 (E.tk i) (n:Int)) s0 (O av (n+q) cv))::B) wr j d8 (D.app o) (v++c.take q) av (n+q) cv/\lK E wr (O cq y eg) c (O av (n+q) cv))) (fun dp _=>y-(B2 dp).toNat)
     case atStart=>exact⟨0,cv,av,aG _,rfl,eb⟩
     case round=>
      clear eb;obtain⟨q,cv,av,hp,rfl,d6⟩:=hrel;obtain⟨ca,ey⟩:=d6.out;have h:=aj ca;have cp:=aj ey;clear ca ey d6;by_cases f5:q<y
      ·obtain⟨d0,eo⟩:=bH ao.out.1.2.2 f5;obtain⟨b7,rfl⟩:∃b7,cq=Q ⟨b7,0,M⟩:=by
        rcases bK cp.out.ow with⟨he,_⟩|⟨b7,ha,f9⟩
        ·have:=ao.out.1.2.2;omega
        ·exact⟨b7,(Kn f9).1⟩
       have hc:=cp.out.at eo;have hs:(0:Int)<=(q:Int):=by omega
       have ht:(q:Int)<(y:Int):=by omega
       obtain⟨bj,bk,bl,bn,bo,bp,bq,br,a4,bs⟩:=nC h.out.nw;have f7:n+q<=50000000:=by omega
       have f4:(v++c.take q).length=n+q:=h.out.ln;go_wp2_with (first|(at_builtin;refine eJ rfl _ _ rfl E.base _ (n+q) cv (v++c.take q) rfl f4 (aI h.out.ow (bI _ _)) (by rw[bu];have:=h.out.nw.out.sp.lt.2;omega) _ d0 rfl (ar _ _) f7 ?_;intro G r e8 bA bd bb;have d4:V (gj E W L _ e8 _ _ _ (v++c.take q++[d0]) (Q ⟨G,0,M⟩) (n+q+1) r):=h.out.put bA bd bb;have fn:V (lK E e8 _ c (O (Q ⟨G,0,M⟩) (n+q+1) r)):=cp.out.put bd bb;obtain⟨cc,dd,df,dg,dj,dn,gu,gv,gz,g0⟩:=nC d4.out.nw;obtain⟨fg,gm⟩:=d4.out.box e.out (O (Q ⟨G,0,M⟩) (n+q+1) r);clear bA bd bb)|fail);have fo:V (lK E _ _ c (O (Q ⟨G,0,M⟩) (n+q+1) r)):=fn.out.kt gm;have d5:=fg;rw[show v++c.take q++[d0]=v++c.take (q+1) by rw[gG,eo,dC];rfl]at d5;exact⟨⟨q+1,r,_,by omega,by go_num,d5,fo.out⟩,by simp[B2];omega⟩
      ·obtain rfl:q=y:=by omega
       have bf:c.take q=c:=cI (by rw[ao.out.1.2.2];exact ag _);rw[bf]at h;obtain⟨bj,bk,bl,bn,bo,bp,bq,br,a4,bs⟩:=nC h.out.nw;go_wp2_with fail;refine(ni h.out.nw (by omega) (by omega) ⟨5,(E.tk i).f,0,(E.tk i).l,0,(n:Int),⟨#[]⟩,[],v++c⟩ M _ 0 0 _ _ (bi _ _ _ _) (by rw[h.out.ln];exact h.out.ow) (by have:=h.out.ac.len;rw[this];omega) (Fr.nil _ _ _) h.out.fr (nd 5 (E.tk i) (E.tk (j-1)).t 0 ((x.app R).len:Nat) z0 []) h.out.ac (by rw[Fo.tops_app,<-ao.out.2.2,ao.out.1.1,ao.out.1.2.1,<-ct,ao.out.2.1];rfl)).mono ?_;rintro b6 hy ⟨hA,g9,rfl,ep,et⟩;rw[ct]at ep et;go_wp2_with fail;go_ret;exact⟨_,_,rfl,ep,(pT et).out⟩
    |@go gt _ b9 _ bE ec ei cr fA ek=>
     have cl:=ba.nw;have a6:=jn ba bx ek;have f8:L.length+(D.app (bE.app ec)).sz+1<=50000000:=by rw[bx];simp only[aJ,Fo.sz_app]at cz⊢;omega
     have em:=aj f8;clear ba bx ce ek;go_wp2_with fail;refine cd (isY ei cl cr) fun ds dc=>?_;have an:V (fH E W L ((b,dE (nS5 (E.tk i) ((n:Int))) s0 (O av n cv))::B) ds (gr+1) L2 D av n cv):=a6.out.1.move dc;clear dc;go_wp2_with fail;refine(fA _ _ _ an.out.nw.out.sp (by have:=em.out;rw[an.out.ac.len];simp only[Fo.sz_app]at this;omega)).mono ?_;rintro b6 a3 ⟨d2,b0,rfl,eq,ev⟩;have a8:V (pE E W L ((b,dE (nS5 (E.tk i) ((n:Int))) s0 (O av n cv))::B) a3 b9 b0 D bE d2 av n cv):=an.out.up ev eq;clear ev eq;have f6:n<=50000000:=by have q:=em.out;have b6:=a8.out.ln;have hd:=D.len_le;simp only[Fo.sz_app]at q;omega
     have hu:IntKind.i64.wrap ((n:Int)+1)=(n:Int)+1:=by rw[cw];omega
     obtain⟨bj,bk,bl,bn,bo,bp,bq,br,a4,bs⟩:=nC a8.out.nw;go_wp2_with (at_builtin;refine eJ rfl _ _ rfl E.base av n cv (D.tops L.length) rfl (by rw[Fo.tops_len];exact a8.out.ln) (aI a8.out.ow (bI a3 _)) (by rw[bu];have:=a8.out.nw.out.sp.lt.2;omega) a3.heap.size d2 rfl (ar a3 _) f6 ?_;intro G r A bA bd bb;have s:V (fH E W L ((b,dE (nS5 (E.tk i) ((n:Int))) s0 (O av n cv))::B) A b9 b0 (D.app bE) (Q ⟨G,0,M⟩) (n+1) r):=a8.out.put bA bd bb;obtain⟨cc,dd,df,dg,dj,dn,gu,gv,gz,g0⟩:=nC s.out.nw;obtain⟨g,ca⟩:=nK s.out.nw e.out (O (Q ⟨G,0,M⟩) (n+1) r);obtain⟨eA,eF,eL,e0,e1,e2,e3,e4,e5,e6⟩:=nC g;clear bA bd bb);have a7:=nS g e.out 5 (A2 A1 ((n:Int)+1));have gs:=g.out.sp.kset 5 (A2 A1 ((n:Int)+1));have fk:V (fH E W L ((b,dE (nS5 (E.tk i) ((n+1:Nat):Int)) s0 (O (Q ⟨G,0,M⟩) (n+1) r))::B) _ b9 b0 (D.app bE) (Q ⟨G,0,M⟩) (n+1) r):=⟨by rw[show((n+1:Nat):Int)=(n:Int)+1 by omega];exact a7,s.out.ac,s.out.ln,gs.row (ca.row s.out.ow (by decide) (by decide)) (by decide) (by decide),s.out.fr,s.out.sv⟩;go_roundg gt
     case measure=>omega
     case rel=>exact⟨b9,D.app bE,ec,d2,_,n+1,r,b0,rfl,a6.out.2.2,fk.out,by rw[Fo.app_app];exact a6.out.2.1⟩
end
inductive Pt (E:Pe):Nat->Nat->List ByteArray->Bool->Nat->Prop where
 |stop {k:Nat}:(E.tk k).k=41->k<E.n->Pt E 0 k [] false k
 |name {m k j:Nat}{ns:List ByteArray}{r:Bool}:(E.tk k).k=1->k<E.n->Pt E m (k+1) ns r j->Pt E (m+1) k ((E.tk k).x::ns) r j
 |rest {m k j:Nat}{ns:List ByteArray}{r:Bool}:(E.tk k).k=49->k<E.n->Pt E m (k+1) ns r j->Pt E (m+1) k ns true j
 |com {m k j:Nat}{ns:List ByteArray}{r:Bool}:(E.tk k).k=46->k<E.n->Pt E m (k+1) ns r j->Pt E (m+1) k ns r j
theorem Pt.of{E:Pe}{k j:Nat}{ns:List ByteArray}{r:Bool}(h:KA E.tk E.n k ns r j):∃m,Pt E m k ns r (j-1)/\(E.tk (j-1)).k=41/\k+1<=j/\j<E.n:=by
 induction h with
 |close c a=>exact⟨0,.stop c (by omega),c,by omega,a⟩
 |rest c a d=>exact⟨1,.rest c (by omega) (.stop a (by omega)),a,by omega,d⟩
 |last c a d=>exact⟨1,.name c (by omega) (.stop a (by omega)),a,by omega,d⟩
 |go c a d o e=>
  obtain⟨m,f,q,p,g⟩:=e;exact⟨m+2,.name c (by omega) (.com a (by omega) f),q,by omega,g⟩
section
variable {E : Pe} {W w w' : World} {i j : Nat} {L L1 L' : List Mb} {B B' : List (Nat × Array Value)}
abbrev nR(T:Tk)(a:Int):Nd:=⟨36,T.f,0,T.l,a,0,⟨#[]⟩,[],[]⟩
def opR(b:Bool):Int:=if b=true then 1 else 0
structure qm (E:Pe) (W:A8) (L:List Mb) (B:List (Nat×Array A5)) (w:A8) (k b:Nat) (T:Tk) (D:List ByteArray) (rr:Int) (an:Option Addr) (n cn:Nat):Prop where
 nw:V (gL E W w k L ((b,dE (nR T rr) (.slice an n cn) s0)::B))
 ln:D.length=n
 ow:w.ownsRow E.base 9 1 (.slice an n cn) n (D.map Br)
 fr:Fr W.heap.size (.slice an n cn)
 old:∀x∈L,∀g,x.vn.ownBlock=Q g->g<W.heap.size
theorem qm.to{k k' b:Nat}{T:Tk}{D:List ByteArray}{d a:Int}{an:Option Addr}{n cn:Nat}(h:qm E W L B w k b T D d an n cn)(N:V (gL E W w' k' L ((b,dE (nR T a) (O an n cn) s0)::B)))(c:Kt w w'):qm E W L B w' k' b T D a an n cn:=⟨N,h.ln,c.row h.ow (by decide) (by decide),h.fr,h.old⟩
theorem qm.put{w6:A8}{k b:Nat}{T:Tk}{D:List ByteArray}{a:Int}{an:Option Addr}{n cn g cap:Nat}{o:Obj}{x:ByteArray}(h:qm E W L B w k b T D a an n cn)(s:E.base<=b)(A:w6.ownsRow E.base 9 1 (O (Q ⟨g,0,M⟩) (n+1) cap) (n+1) ((D++[x]).map Br))(t:(w.alloc o).grownBy w6 (A7 an n cn).ownBlock)(r:(A7 an n cn).ownBlock=Q g\/g=(w.alloc o).heap.size):
  V (gL E W w6 k L ((b,dE (nR T a) (O an n cn) s0)::B))/\V (qm E W L B (w6.setCell ⟨b,7,M⟩ (O (Q ⟨g,0,M⟩) (n+1) cap)) k b T (D++[x]) a (Q ⟨g,0,M⟩) (n+1) cap):=by
 have C:=h.nw.out.kt.size;have c:=bI w o;have f:=nGS (nB h.nw c) (aI h.ow c) t h.fr (fun x u d m p=>by have G:=h.old x u d p;have H:=h.fr d m;omega);obtain⟨y,v⟩:=nM f s (O (Q ⟨g,0,M⟩) (n+1) cap);refine⟨f,y,by rw[aF,h.ln];rfl,v.row A (by decide) (by decide),?_,h.old⟩;rcases r with e|e
 ·exact Fr.new (h.fr g e)
 ·exact Fr.new (by rw[e,bu];omega)
theorem akA{T:Tk}{k m:Nat}{am:List ByteArray}{r:Bool}{x:Fo}(cp:(E.tk i).k=40)(cl:i<E.n)(bw:Pt E m (i+1) am r k)(bq:(E.tk k).k=41)(dd:k+1<E.n)(bf:CI E 84 #[pV E] (k+1) x j)(dc:k+1<=j)(cm:j<=E.n):CI E 92 #[pV E,B3 (dE (nN 36 T) s0 s0)] i (one (nd 36 T (E.tk (j-1)).t (opR r) 0 z0 am) x) j:=by
 intro W L B a0 bt;have bo:=gL.start a0;have cx:V (∀x∈L,∀a4,x.vn.ownBlock=Q a4->a4<W.heap.size):=fun x bf a4 ck=>((a0.each x bf).1.lt a4 ck).2;have bd:=aj a0.lt.2;have df:=a0.hn;have bn:=aj bw;have a7:=nA bo (dE (nN 36 T) s0 s0);clear a0 bw;go_in;go_wp2_with fail;refine cd (ix cp a7 cl (by omega)) fun w1 bA=>?_;have bl:V (qm E W L B w1 (i+1) W.heap.size T [] 0 M 0 0):=⟨nX a7 bA,rfl,bi _ _ _ _,Fr.nil _ _ _,cx.out⟩;clear bA a7 bo;go_wp2_with fail;go_loopg [5] m (fun gk eg wr=>∃(c:Nat) (D a2:List ByteArray) (g:Int) (a3:Bool) (d:Option Addr) (n e:Nat),V (Pt E gk c a2 a3 k/\qm E W L B wr c W.heap.size T D g d n e/\D++a2=am/\(∃a6,g=opR a6/\(a6||a3)=r)/\n<=c))
 case atStart=>exact⟨i+1,[],am,0,r,M,0,0,bn.out,bl.out,rfl,⟨false,rfl,by simp⟩,by omega⟩
 case round=>
  clear bl bn;obtain⟨c,D,a2,g,a3,d,n,e,ao⟩:=hrel;obtain⟨cf,J,K,af,da⟩:=ao.out;cases cf with
  |stop s A=>
   have a:V (qm E W L B wr _ W.heap.size T D g d n e/\D=am/\g=opR r):=⟨J,by simpa using K,by obtain⟨a6,ce,bb⟩:=af;rw[ce,<-bb,D2]⟩;clear J K af ao;go_wp2_with fail;refine cd (jb bq a.out.1.nw A) fun al p=>?_;have h:V (qm E W L B al _ W.heap.size T D g d n e):=a.out.1.to (nB a.out.1.nw p) (Kt.of_below p);clear p;go_wp2_with fail;refine cd (ix bq h.out.nw A (by omega)) fun v u=>?_;have o:V (qm E W L B v (k+1) W.heap.size T D g d n e):=h.out.to (nX h.out.nw u) u.2.1;clear u;go_wp2_with fail;refine(bf _ _ _ o.out.nw.out.sp (by simp only[aJ]at bt;omega)).mono ?_;rintro cc w6 ⟨z,c7,rfl,cr,a5⟩;have a8:=nP o.out.nw a5;have ac:=nL o.out.nw a5;have a9:V (w6.ownsRow E.base 9 1 (O d n e) n (D.map Br)):=a5.kt.row o.out.ow (by decide) (by decide);clear a5;obtain⟨ei,dg,bp,ca,ct⟩:=nKI [z] #[A2 A1 z] rfl 1 rfl a8 bd.out (by decide);have bk:=nCA a8;have b6:=fun bj=>(bk bj).1;have b7:=fun bj=>(bk bj).2;clear bk;obtain⟨dj,dn,dp,ds,dx,d0,d1,d2,d3,d4⟩:=nC bp;replace a9:=oK a9 ct (.inr rfl);go_wp2_with fail;refine(ni bp (by omega) cm ⟨36,T.f,0,T.l,g,0,⟨#[]⟩,D,[z]⟩ d _ n e _ _ (by rw[o.out.ln];exact a9.out) ca.out (by rw[ac.out.len];simp only[aJ]at bt;omega) o.out.fr (Fr.new a8.out.kt.size) (nd 36 T (E.tk (j-1)).t (opR r) 0 z0 am) ac.out (by rw[cr,<-a.out.2.1,a.out.2.2];rfl)).mono ?_;rintro cc eh ⟨el,c8,rfl,cs,cy⟩;go_wp2_with fail;go_ret;exact⟨_,_,rfl,cs,(pT cy).out⟩
  |@name a1 _ _ cu _ s A I=>
   have a:=tH J K af I;have cq:n<=50000000:=by omega
   clear J K af ao I;go_wp2_with fail;refine cd (jb s a.out.1.nw A) fun al p=>?_;have h:V (qm E W L B al c W.heap.size T D g d n e):=a.out.1.to (nB a.out.1.nw p) (Kt.of_below p);clear p;go_wp2_with fail;refine cd (ix s h.out.nw A (by omega)) fun v u=>?_;have o:V (qm E W L B v (c+1) W.heap.size T D g d n e):=h.out.to (nX h.out.nw u) u.2.1;clear u;have y:=bI v (A4 (jL 1 (E.tk c)) 88);obtain⟨G,ak,C,ap⟩:=tL (w:=v) s o.out.nw;rw[ak]at y;have H:V (qm E W L B G (c+1) W.heap.size T D g d n e):=o.out.to C (Kt.of_below y);simp only[jL]at ak;obtain⟨bD,bE,b0,b1,b3,b5⟩:=tC ap s;obtain⟨cB,c0,c1,c2,c3,c4,c5,c6,b6,b7⟩:=nC C;clear y;go_wp2_with (at_builtin;refine AG rfl _ _ rfl E.base d n e D rfl H.out.ln (aI H.out.ow (bI G _)) (by rw[bu];have:=H.out.nw.out.sp.lt.2;omega) G.heap.size (E.tk c).x rfl (ar G _) cq ?_;intro c9 cb ek bx bs br;have ba:=H.out.put bd.out bx bs br;obtain⟨d5,d6,d7,d8,d9,ea,eb,ec,ee,ef⟩:=nC ba.1;have b9:=ba.2;clear bx bs br ba);go_roundg a1
   case measure=>omega
   case rel=>exact⟨c+1,D++[(E.tk c).x],cu,g,a3,_,n+1,cb,a.out.2.2.2,b9.out,by rw[dC];exact a.out.2.1,a.out.2.2.1,by omega⟩
  |@rest a1 _ _ _ cz s A I=>
   have a:=tH J K af I;clear J K af ao I;go_wp2_with fail;refine cd (jb s a.out.1.nw A) fun al p=>?_;have h:V (qm E W L B al c W.heap.size T D g d n e):=a.out.1.to (nB a.out.1.nw p) (Kt.of_below p);clear p;go_wp2_with fail;refine cd (ix s h.out.nw A (by omega)) fun v u=>?_;have o:V (qm E W L B v (c+1) W.heap.size T D g d n e):=h.out.to (nX h.out.nw u) u.2.1;clear u;have y:=bI v (A4 (jL 49 (E.tk c)) 88);obtain⟨G,ak,C,ap⟩:=tL (w:=v) s o.out.nw;rw[ak]at y;have H:V (qm E W L B G (c+1) W.heap.size T D g d n e):=o.out.to C (Kt.of_below y);simp only[jL]at ak;obtain⟨bD,bE,b0,b1,b3,b5⟩:=tC ap s;obtain⟨cB,c0,c1,c2,c3,c4,c5,c6,b6,b7⟩:=nC C;have b8:V (qm E W L B (G.setCell ⟨W.heap.size,4,M⟩ (A2 A1 1)) (c+1) W.heap.size T D 1 d n e):=H.out.to (nS C bd.out 4 (A2 A1 1)) (C.out.sp.kset 4 (A2 A1 1));clear y;go_wp2_with fail;go_roundg a1
   case measure=>omega
   case rel=>exact⟨c+1,D,a2,1,cz,d,n,e,a.out.2.2.2,b8.out,a.out.2.1,⟨true,rfl,by obtain⟨a6,_,bb⟩:=a.out.2.2.1;rw[<-bb];simp⟩,by omega⟩
  |@com a1 _ _ _ _ s A I=>
   have a:=tH J K af I;clear J K af ao I;go_wp2_with fail;refine cd (jb s a.out.1.nw A) fun al p=>?_;have h:V (qm E W L B al c W.heap.size T D g d n e):=a.out.1.to (nB a.out.1.nw p) (Kt.of_below p);clear p;go_wp2_with fail;refine cd (ix s h.out.nw A (by omega)) fun v u=>?_;have o:V (qm E W L B v (c+1) W.heap.size T D g d n e):=h.out.to (nX h.out.nw u) u.2.1;clear u;have y:=bI v (A4 (jL 46 (E.tk c)) 88);obtain⟨G,ak,C,ap⟩:=tL (w:=v) s o.out.nw;rw[ak]at y;have H:V (qm E W L B G (c+1) W.heap.size T D g d n e):=o.out.to C (Kt.of_below y);simp only[jL]at ak;obtain⟨bD,bE,b0,b1,b3,b5⟩:=tC ap s;clear y;go_wp2_with fail;go_roundg a1
   case measure=>omega
   case rel=>exact⟨c+1,D,a2,g,a3,d,n,e,a.out.2.2.2,H.out,a.out.2.1,a.out.2.2.1,by omega⟩
end
section
variable {E : Pe} {i j : Nat}
theorem nMS{W w:A8}{L:List Mb}{B:List (Nat×Array A5)}{b:Nat}{N:Nd}{vn vk:A5}(x:ByteArray)(h:V (gL E W w i L ((b,dE N vn vk)::B)))(e:E.base<=b):∃a,(w.alloc (A4 #[A9 x] 9)).setCell ⟨b,7,M⟩ (O (Q ⟨w.heap.size,0,M⟩) 1 1)=a/\V (gL E W a i L ((b,dE N (O (Q ⟨w.heap.size,0,M⟩) 1 1) vk)::B))/\V (a.ownsRow E.base 9 1 (O (Q ⟨w.heap.size,0,M⟩) 1 1) 1 [A9 x])/\Kt w a:=by
 have c:=bI w (A4 #[A9 x] 9);obtain⟨f,d⟩:=nM (nB h c) e (O (Q ⟨w.heap.size,0,M⟩) 1 1);exact⟨_,rfl,f,oK (E:=E) (my (Dm w x) h.out.sp.lt.2) d (.inr rfl),(Kt.of_below c).trans d⟩
theorem ahK(u:(E.tk i).k=18)(K:(E.tk (i+1)).k=1)(ap:(E.tk (i+2)).k=40)(c3:i+2<E.n){x:Fo}(br:CI E 92 #[pV E,B3 (dE (nN 36 (E.tk (i+2))) s0 s0)] (i+2) x j)(c6:i+3<=j)(c7:j<=E.n):CI E 43 #[pV E] i (one (nd 4 (E.tk i) (E.tk (j-1)).t 0 0 z0 [(E.tk (i+1)).x]) x) (j):=by
 intro W L B ao a1;have a3:=gL.start ao;clear ao;go_in;go_wp2_with fail;refine cd (du u a3 (by omega)) fun w1 a4=>?_;go_wp2_with fail;refine cd (du u a4 (by omega)) fun d3 a5=>?_;go_wp2_with fail;refine cd (du u a5 (by omega)) fun d5 a6=>?_;go_wp2_with fail;refine cd (jB u a6 (by omega) (by omega)) fun cm a7=>?_;obtain⟨d6,C,a8,bj⟩:=tL (w:=cm) u a7;simp only[jL]at C;obtain⟨cq,cr,cs,ct,cu,cx⟩:=tC bj u;go_wp2_with fail;refine cd (gA u _ _) fun d7 am=>?_;have ak:=nB a8 am;have a0:=aj ak.out.sp.lt.2;have a9:=nA ak (dE (nN 4 (E.tk i)) s0 s0);clear am;clear C;go_wp2_with fail;refine cd (jB K a9 (by omega) (by omega)) fun a2 ba=>?_;obtain⟨cn,C,I,bk⟩:=tL (w:=a2) K ba;simp only[jL]at C;obtain⟨cq,cr,cs,ct,cu,cx⟩:=tC bk K;obtain⟨cp,bq,G,bf,bx⟩:=nMS (E.tk (i+1)).x I a0.out;have v:=fun e=>nC (nB I (bI cn e));have d8:=fun e=>(v e).2.2.2.2.2.2.2.1;have ea:=fun e=>(v e).2.2.2.2.2.2.2.2.2;clear v bx;obtain⟨bl,an,c2⟩:=G.out.sp.cells;obtain⟨b3,b4,b6,b7,b8,b9⟩:=G.out.sp.tkw (q:=i+2) (by omega) (by omega);have bo:((i+1+1:Nat):Int)=(i:Int)+2:=by omega
 rw[bo]at an;have c5:(i:Int)+2<(E.n:Int):=by omega
 have c4:(0:Int)<=(i:Int)+2:=by omega
 have c8:((i:Int)+2).toNat=i+2:=by omega
 go_wp2_with fail;clear C bq;refine A6 (S:=fun s=>s.cell? ⟨E.pb,0,M⟩=Q (O (Q ⟨E.tb,0,M⟩) E.n E.cap)/\s.cell? ⟨E.tb,(i+2)*6,M⟩=Q (A2 A1 (E.tk (i+2)).k)/\s.cell? ⟨E.tb,(i+2)*6+1,M⟩=Q (A2 A1 (E.tk (i+2)).f)/\s.cell? ⟨E.tb,(i+2)*6+2,M⟩=Q (A2 A1 (E.tk (i+2)).t)/\s.cell? ⟨E.tb,(i+2)*6+3,M⟩=Q (A2 A1 (E.tk (i+2)).l)/\s.cell? ⟨E.tb,(i+2)*6+4,M⟩=Q (A2 A1 (E.tk (i+2)).n)/\s.cell? ⟨E.tb,(i+2)*6+5,M⟩=Q (A9 (E.tk (i+2)).x)) (by kernel_rfl) ⟨bl,b3,b4,b6,b7,b8,b9⟩ (fun a=>?_);simp only[jG,cC,gq,Nat.reduceAdd,mC,mD,mE,fx,fy];refine di 0 (A3 (Q ⟨E.pb,0,M⟩)) rfl rfl (by kernel_rfl) (fun _ _ _=>id) a (fun w' ⟨h,g,m,o,p,r5,r⟩=>by go_simp) ?_;simp only[Z];refine di 1 (A3 (Q ⟨E.pb,0,M⟩)) rfl rfl (by kernel_rfl) (fun _ _ _=>id) a (fun w' ⟨h,g,m,o,p,r5,r⟩=>by go_simp) ?_;simp only[Z];refine di 2 (A3 (Q ⟨E.pb,0,M⟩)) rfl rfl (by kernel_rfl) (fun _ _ _=>id) a (fun w' ⟨h,g,m,o,p,r5,r⟩=>by go_simp) ?_;simp only[Z];refine di 3 (A3 (Q ⟨E.pb,0,M⟩)) rfl rfl (by kernel_rfl) (fun _ _ _=>id) a (fun w' ⟨h,g,m,o,p,r5,r⟩=>by go_simp) ?_;simp only[Z];refine di 4 (O (Q ⟨E.tb,0,M⟩) E.n E.cap) rfl rfl (by kernel_rfl) (fun _ _ _=>id) a (fun w' ⟨h,g,m,o,p,r5,r⟩=>by go_simp) ?_;simp only[Z];refine di 5 (A3 (Q ⟨E.pb,0,M⟩)) rfl rfl (by kernel_rfl) (fun _ _ _=>id) a (fun w' ⟨h,g,m,o,p,r5,r⟩=>by go_simp) ?_;simp only[Z];refine di 6 (A3 (Q ⟨E.pb,0,M⟩)) rfl rfl (by kernel_rfl) (fun _ _ _=>id) a (fun w' ⟨h,g,m,o,p,r5,r⟩=>by go_simp) ?_;simp only[Z];refine di 7 (A3 (Q ⟨E.pb,1,M⟩)) rfl rfl (by kernel_rfl) (fun _ _ _=>id) a (fun w' ⟨h,g,m,o,p,r5,r⟩=>by go_simp) ?_;simp only[Z];have cB:cp.drew.cell? ⟨E.pb,1,M⟩=Q (A2 A1 ((i:Int)+2)):=an;have c9:IntKind.i64.wrap ((i:Int)+2)=(i:Int)+2:=by rw[cw];have:=G.out.sp.hn;omega
 refine A0 (rs:=[8]) (by kernel_rfl) (by simp) (U rfl (fun d c=>?_) Ax);go_simp;refine c.out _ _ a (fun a=>?_);clear c d;try simp only[dv,dw,dA]
 refine A0 (rs:=[9]) (by kernel_rfl) (by simp) (U rfl (fun d c=>?_) Ax);go_simp;refine c.out _ _ a (fun a=>?_);clear c d;try simp only[dv,dw,dA]
 refine A0 (rs:=[10]) (by kernel_rfl) (by simp) (U rfl (fun d c=>?_) Ax);have bp:=a;obtain⟨h,g,m,o,p,r5,r⟩:=a;rw[ap]at g;go_simp;refine c.out _ _ bp (fun a=>?_);clear c d;try simp only[dv,dw,dA]
 refine A0 (rs:=[11]) (by kernel_rfl) (by simp) (U rfl (fun d c=>?_) Ax);go_simp;refine cd (gA ap _ _) fun d1 al=>?_;have y:=nB (nB G (be (ai _ _))) al;have bb:=oK (oK bf (Kt.of_below (be (ai _ _))) (.inr rfl)) (Kt.of_below al) (.inr rfl);obtain⟨bA,bD,p2,bE,b0,b1⟩:=y.out.sp.tkw (q:=i+2) (by omega) (by omega);refine c.out _ _ ⟨y.out.sp.cells.1,bA,bD,p2,bE,b0,b1⟩ (fun a=>?_);clear c d;try simp only[dv,dw,dA]
 refine A0 (rs:=[12]) (by kernel_rfl) (by simp) (U rfl (fun d c=>?_) Ax);go_simp;refine(br _ _ _ y.out.sp (by simp only[aJ]at a1;omega)).mono ?_;rintro bn d2 ⟨z,cy,rfl,bs,H⟩;have A:=nP y H;have ac:=nL y H;have J:=oK bb H.kt (.inr rfl);clear H;obtain⟨ca,cb,cc,ce,ck,cl⟩:=A.out.sp.tkw (q:=i+2) (by omega) (by omega);refine c.out _ _ ⟨A.out.sp.cells.1,ca,cb,cc,ce,ck,cl⟩ (fun a=>?_);clear c d;try simp only[dv,dw,dA]
 refine A0 (rs:=[13]) (by kernel_rfl) (by simp) (U rfl (fun d c=>?_) Ax);go_simp;refine c.out _ _ a (fun a=>?_);clear c d;refine wpAnyH_done (by kernel_rfl) ?_ _;obtain⟨d4,da,af,bd,bw⟩:=nKI [z] #[A2 A1 z] rfl 1 rfl A a0.out (by decide);have v:=nCA A;have d9:=fun e=>(v e).1;have eb:=fun e=>(v e).2;clear v;obtain⟨dc,dd,df,dg,dj,dn,dp,ds,dx,d0⟩:=nC af;replace J:=oK J bw (.inr rfl);go_wp2_with fail;refine(ni af (by omega) (by omega) ⟨4,(E.tk i).f,0,(E.tk i).l,0,0,⟨#[]⟩,[(E.tk (i+1)).x],[z]⟩ _ _ _ _ _ _ J.out bd.out (by rw[ac.out.len];simp only[aJ]at a1;omega) (Fr.new I.out.kt.size) (Fr.new A.out.kt.size) (nd 4 (E.tk i) (E.tk (j-1)).t 0 0 z0 [(E.tk (i+1)).x]) ac.out (by rw[bs];rfl)).mono ?_;rintro bn a2 ⟨ec,cz,rfl,bt,b2⟩;go_wp2_with fail;go_ret;exact⟨_,_,rfl,bt,(pT b2).out⟩
end
