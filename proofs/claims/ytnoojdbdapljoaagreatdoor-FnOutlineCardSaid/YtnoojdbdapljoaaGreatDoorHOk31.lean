import Derived.Test.YtnoojdbdapljoaaGreatDoorHOk30
set_option linter.all false
set_option maxRecDepth 100000
set_option maxHeartbeats 12800000
open Go.Value renaming slice->M,int->A1,pointer->A3,int->A6,slice->A9,string->Br
open Option renaming none->O,some->Q
open Go.RowKit renaming Hid->U,Below->B0,intOf->B1
open Go.AllReadyH renaming cons->V,nil->A0
open List renaming set->Z
open Go.IntKind renaming i64->Ax
open Go renaming wpAnyH_ready->A2,Value->A4,wp_region_held_drew->A7,World->A8
open Go.Obj renaming cells->A5
namespace Go.Proofs.YtnoojdbdapljoaaGreatDoor
open Go.RowKit Go.Maps Go.WideMaps
section
variable {E : Pe} {W w w' : World} {i j : Nat} {L L1 L' : List Mb} {B B' : List (Nat × Array Value)}
theorem adc(h:U (fL E W w i L1 B))(p:1<=i)(r:i<=E.n)(N:Nd)(an c:Option Addr)(mn cn mk ck:Nat)(on:w.ownsRow E.base 9 1 (M an mn cn) N.nm.length (N.nm.map Value.string))(s:w.ownsRow E.base 3 1 (M c mk ck) N.ks.length (N.ks.map (A6 Ax)))(m:L1.length<=50000000)(g:Fr W.heap.size (M an mn cn))(f:Fr W.heap.size (M c mk ck))(a:Nd){R:Fo}(ac:Ac W.heap.size L L1 R)(o:({N with t:=(E.tk (i-1)).t}:Nd)={a with ks:=R.tops L.length}):
  Calls Tryz.prog 96 #[pV E,.agg (dw N (M an mn cn) (M c mk ck))] w fun e w'=>∃z L',e= .returned (A1 Ax z)/\(one a R).tops L.length=[z]/\U (Jd E W w' L L' B (one a R) i)/\Kt w w':=by
 refine(addM h.out.sp p r N an c mn cn mk ck on s m).mono ?_;rintro e w' ⟨rfl,d,k,b⟩;rw[o]at d;exact⟨_,_,rfl,by rw[qy,ac.len],⟨ac.add a g f,d,h.out.kt.trans k,h.out.bl.trans b⟩,k⟩
theorem Ac.top{s:Nat}{N:Nd}{ks:Fo}(h:Ac s L L1 (one N ks)):∃y,L1[L.length+ks.sz]?=Q y/\y.N.k=N.k:=by
 obtain⟨a,rfl,c,_⟩:=h;rw[abt]at c;have f:a.length=ks.sz+1:=by have q:=congrArg List.length c;rw[dv,aC,Fo.flat_len]at q;exact q
 obtain⟨y,d⟩:∃y,a[ks.sz]?=Q y:=⟨a[ks.sz]'(by omega),aI _⟩;refine⟨y,by rw[gc (by omega),Nat.add_sub_cancel_left];exact d,?_⟩;have q:(a.map Mb.N)[ks.sz]?=Q y.N:=by rw[cj,d];rfl
 rw[c,gc (by rw[Fo.flat_len];exact ah _),Fo.flat_len,gj]at q;have e:=db q;rw[<-e]
theorem Sp.kindAt(h:Sp E w i L B){q:Nat}{y:Mb}(c:L[q]?=Q y):∃g cap,w.cell? ⟨E.pb,2,O⟩=Q (M (Q ⟨g,0,O⟩) L.length cap)/\w.cell? ⟨g,q*9,O⟩=Q (A1 Ax y.N.k)/\q<L.length:=by
 obtain⟨o,d,a,f⟩:=h.row;have e:=(List.getElem?_eq_some_iff.1 c).1;rcases bq a with⟨m,rfl⟩|⟨g,cap,rfl⟩
 ·omega
 ·exact⟨g,cap,by rw[az _ _ _ _ _ _ d];rfl,(mD a c).1,e⟩
end
inductive Ps (E:Pe) (C D:Nat->Fo->Nat->Prop) (s:Tk):Nat->Fo->Nat->Fo->Nat->Prop where
 |stop {X:Fo}{k:Nat}:k<E.n->G5 (E.tk k).k=false->Ps E C D s 0 X k X k
 |dot {m k j:Nat}{X R:Fo}:(E.tk k).k=48->(E.tk (k+1)).k=1->k+2<E.n->Ps E C D s m (one (nd 33 s (E.tk (k+1)).t 0 0 (E.tk (k+1)).x []) X) (k+2) R j->Ps E C D s (m+1) X k R j
 |sq {m k k1 j:Nat}{X Y R:Fo}:(E.tk k).k=44->k<E.n->C (k+1) Y k1->(E.tk k1).k=45->k1+1<E.n->Ps E C D s m (one (im 32 s (E.tk k1).t) (X.app Y)) (k1+1) R j->Ps E C D s (m+1) X k R j
 |call0 {m k j:Nat}{X R:Fo}:(E.tk k).k=40->(E.tk (k+1)).k=41->k+2<E.n->Ps E C D s m (one (im 34 s (E.tk (k+1)).t) X) (k+2) R j->Ps E C D s (m+1) X k R j
 |call {m k k1 j:Nat}{X Y R:Fo}:(E.tk k).k=40->k+1<E.n->(E.tk (k+1)).k≠41->D (k+1) Y k1->(E.tk k1).k=41->k1+1<E.n->Ps E C D s m (one (im 34 s (E.tk k1).t) (X.app Y)) (k1+1) R j->Ps E C D s (m+1) X k R j
theorem Ps.le{E:Pe}{C D:Nat->Fo->Nat->Prop}{s:Tk}{m k j:Nat}{X R:Fo}(h:Ps E C D s m X k R j):X.sz<=R.sz:=by
 induction h with
 |stop=>exact ah _
 |dot _ _ _ _ a=>rw[aJ]at a;omega
 |sq _ _ _ _ _ _ a=>rw[aJ,Fo.sz_app]at a;omega
 |call0 _ _ _ _ a=>rw[aJ]at a;omega
 |call _ _ _ _ _ _ _ a=>rw[aJ,Fo.sz_app]at a;omega
section
variable {E : Pe} {W w w' w6 : World} {i j k k' : Nat} {L L1 L2 : List Mb} {B : List (Nat × Array Value)} {F : Fo} {l : List Int} {av : Option Addr} {n cv : Nat} {z : Int}
abbrev CB(E:Pe)(i:Nat)(x:Fo)(j:Nat):Prop:=CI E 101 #[pV E] i x j
abbrev CLx(E:Pe)(i:Nat)(x:Fo)(j:Nat):Prop:=CL E 95 #[pV E] i x j
structure fm (E:Pe) (W:A8) (L:List Mb) (B:List (Nat×Array A4)) (w:A8) (k:Nat) (L1:List Mb) (F:Fo) (l:List Int) (av:Option Addr) (n cv:Nat):Prop where
 nw:U (fL E W w k L1 B)
 ac:Ac W.heap.size L L1 F
 ln:l.length=n
 ow:w.ownsRow E.base 3 1 (.slice av n cv) n (l.map (A6 .i64))
 fr:Fr W.heap.size (.slice av n cv)
 sv:Sv (.slice av n cv) L1
theorem fm.below(h:fm E W L B w k L1 F l av n cv)(b:B0 w.heap.size w w'):fm E W L B w' k L1 F l av n cv:=⟨nB h.nw b,h.ac,h.ln,aG h.ow b,h.fr,h.sv⟩
theorem fm.move(h:fm E W L B w k L1 F l av n cv)(q:Sp E w' k' L1 B/\Kt w w'/\B0 E.base w w'):fm E W L B w' k' L1 F l av n cv:=⟨nX h.nw q,h.ac,h.ln,q.2.1.row h.ow (by decide) (by decide),h.fr,h.sv⟩
theorem fm.up{x:Fo}(h:fm E W L B w k L1 F l av n cv)(p:Jd E w w' L1 L2 B x k'):fm E W L B w' k' L2 (F.app x) l av n cv:=
 ⟨nP h.nw p,h.ac.app (nL h.nw p).out,h.ln,p.kt.row h.ow (by decide) (by decide),h.fr,h.sv.next p.ac (fun a c=>(h.ow.lt a c).2)⟩
theorem fm.put{g cap:Nat}{a:Obj}(h:fm E W L B w k L1 F l av n cv)(p:w6.ownsRow E.base 3 1 (M (Q ⟨g,0,O⟩) (n+1) cap) (n+1) ((l++[z]).map (A6 Ax)))(f:(w.alloc a).grownBy w6 (A9 av n cv).ownBlock)(c:(A9 av n cv).ownBlock=Q g\/g=(w.alloc a).heap.size):fm E W L B w6 k L1 F (l++[z]) (Q ⟨g,0,O⟩) (n+1) cap:=by
 have s:=h.nw.out.kt.size;refine⟨nG (nB h.nw (bel1 w a)) (aG h.ow (bel1 w a)) f h.fr h.sv,h.ac,by rw[aC,h.ln];rfl,p,?_,?_⟩
 ·rcases c with e|e
  ·exact Fr.new (h.fr g e)
  ·exact Fr.new (by rw[e,ba];omega)
 ·rcases c with e|e
  ·intro r o d m;exact h.sv r o d (by rw[e];exact m)
  ·exact qJ (h.nw.out.sp.below (bel1 w a)) (by omega)
structure jD (E:Pe) (w:A8) (v:A4) (xs:List Int) (u:A4):Prop where
 ow:w.ownsRow E.base 3 1 v xs.length (xs.map (A6 .i64))
 ne:∀g,v.ownBlock=Q g->u.ownBlock≠Q g
theorem jD.put{v u:A4}{f:List Int}{g m c:Nat}{a:Obj}(h:jD E w v f u)(r:(w.alloc a).grownBy w6 u.ownBlock)(p:u.ownBlock=Q g\/g=(w.alloc a).heap.size):jD E w6 v f (M (Q ⟨g,0,O⟩) m c):=by
 refine⟨(aG h.ow (bel1 w a)).kept r ?_,fun o d e=>?_⟩
 ·cases hv:v.ownBlock with
  |none=>exact .inl rfl
  |some q=>exact .inr (fun e=>h.ne q hv e.symm)
 ·obtain rfl:g=o:=by simpa [Value.ownBlock] using e
  rcases p with e|e
  ·exact h.ne g d e
  ·have:=((aG h.ow (bel1 w a)).lt g d).2;omega
theorem jD.kt{v u:A4}{a:List Int}(h:jD E w v a u)(q:Kt w w'):jD E w' v a u:=⟨q.row h.ow (by decide) (by decide),h.ne⟩
theorem jD.at{u:A4}{a:List Int}{g m c:Nat}(h:jD E w (M (Q ⟨g,0,O⟩) m c) a u){q:Nat}{x:Int}(e:a[q]?=Q x):w.cell? ⟨g,q,O⟩=Q (A1 Ax x):=by
 have:=h.ow.cells rfl q (A1 Ax x) (by rw[cj,e];rfl);have d:(⟨g,0,O⟩:Addr).add q=⟨g,q,O⟩:=by unfold Addr.add;split<;>simp_all
 rw[d]at this;exact this
theorem fm.box{b:Nat}{N:Nd}{vn vk:A4}(h:fm E W L ((b,dw N vn vk)::B) w k L1 F l av n cv)(c:E.base<=b)(v:A4):fm E W L ((b,dw N vn v)::B) (w.setCell ⟨b,8,O⟩ v) k L1 F l av n cv/\Kt w (w.setCell ⟨b,8,O⟩ v):=by
 obtain⟨d,a⟩:=nK h.nw c v;exact⟨⟨d,h.ac,h.ln,a.row h.ow (by decide) (by decide),h.fr,h.sv⟩,a⟩
theorem fm.boxq{b q:Nat}{cs:Array A4}(h:fm E W L ((b,cs)::B) w k L1 F l av n cv)(c:E.base<=b)(v:A4):fm E W L ((b,cs.setIfInBounds q v)::B) (w.setCell ⟨b,q,O⟩ v) k L1 F l av n cv/\Kt w (w.setCell ⟨b,q,O⟩ v):=by
 have a:=h.nw.out.sp.kset q v;exact⟨⟨nS h.nw c q v,h.ac,h.ln,a.row h.ow (by decide) (by decide),h.fr,h.sv⟩,a⟩
theorem fm.boxk{b d:Nat}{N:Nd}{vn vk:A4}{T:Tk}(h:fm E W L ((b,dw N vn vk)::B) w k L1 F l av n cv)(e:E.base<=b)(a:Int)(t:U (TB w d T)):∃c,w.setCell ⟨b,0,O⟩ (A1 Ax a)=c/\U (fm E W L ((b,dw {N with k:=a} vn vk)::B) c k L1 F l av n cv)/\U (TB c d T):=by
 obtain⟨f,g⟩:=h.boxq (q:=0) e (A1 Ax a);exact⟨_,rfl,f,tK t g⟩
end
section
variable {E : Pe} {W w w' : World} {i j k b q : Nat} {L L1 : List Mb} {B : List (Nat × Array Value)} {X : Fo} {z : Int}
theorem air(h:U (sh E W L B w k b q L1 X z))(N:Nd):∃a,((w.alloc (A5 (dw N s0 (M (Q ⟨w.heap.size+1,0,O⟩) 1 1)) 35)).alloc (A5 #[A1 Ax z] 3))=a/\U (fm E W L ((w.heap.size,dw N s0 (M (Q ⟨w.heap.size+1,0,O⟩) 1 1))::B) a k L1 X [z] (Q ⟨w.heap.size+1,0,O⟩) 1 1)/\U (TB a b (E.tk q)):=by
 have f:=nA h.out.nw (dw N s0 (M (Q ⟨w.heap.size+1,0,O⟩) 1 1));have e:=bel1 w (A5 (dw N s0 (M (Q ⟨w.heap.size+1,0,O⟩) 1 1)) 35);have c:=bel1 (w.alloc (A5 (dw N s0 (M (Q ⟨w.heap.size+1,0,O⟩) 1 1)) 35)) (A5 #[A1 Ax z] 3);have d:=pj (w.alloc (A5 (dw N s0 (M (Q ⟨w.heap.size+1,0,O⟩) 1 1)) 35)) [z] 1 rfl (by decide);rw[ba]at d;have g:=h.out.nw.out.kt.size;exact⟨_,rfl,⟨nB f c,h.out.ac,rfl,jL d (by have:=h.out.nw.out.sp.lt.2;omega),Fr.new (by omega),qJ h.out.nw.out.sp (by omega)⟩,tB (tB h.out.tb e) c⟩
theorem tG{F:Fo}{l:List Int}{av:Option Addr}{n cv:Nat}{T:Tk}{a:Obj}{w6:A8}(h:fm E W L B w k L1 F l av n cv)(t:U (TB w b T))(d:(w.alloc a).grownBy w6 (A9 av n cv).ownBlock):U (TB w6 b T):=
 (d.block b (by have:=ax t.out;rw[ba];omega) (fun c=>fl h.ow t.out (by decide) c.symm)).trans (tB t (bel1 w a)).out
theorem ade{F Y:Fo}{l:List Int}{av:Option Addr}{n cv:Nat}{v:A4}{a:List Int}{w0:A8}(h:fm E W L B w0 k L1 F l av n cv)(g:w.ownsRow E.base 3 1 v a.length (a.map (A6 Ax)))(e:Fr w0.heap.size v):jD E w v a (M av n cv):=⟨g,fun c f d=>by have:=e c f;have:=(h.ow.lt c d).2;omega⟩
theorem ahf{ev:Int}{R:Fo}{m:Nat}(H:(E.tk i).k=ev)(kd:i<E.n)(hD:(ev=1/\k=i+1/\X=one (nd 26 (E.tk i) (E.tk i).t 0 0 (E.tk i).x []) .nil)\/(ev=40/\∃N ks bp,Hp E (i+1) (one N ks) bp/\(E.tk bp).k=41/\k=bp+1/\i+1<=bp/\X=jG N ks (E.tk i) (E.tk bp).t))(kf:k<E.n)(ce:Ps E (Hp E) (CLx E) (E.tk i) m X k R j):CB E i R j:=by
 intro W L B f6 kg;have dz:=fL.start f6;have bF:U (Ps E (Hp E) (CLx E) (E.tk i) m X k R j):=ce;have gb:=ce.le;clear f6 ce;rcases hD with⟨rfl,ep,ct⟩|⟨rfl,N,ks,bp,d5,ho,ep,ke,ct⟩
 case' inl=>
  subst ct ep;go_in;go_wp2_with fail;refine cd (iA H dz (by omega) (by omega)) fun p co=>?_;obtain⟨jv,cz,b0,bd⟩:=se (w:=p) H co;simp only[iK]at cz;obtain⟨bs,bt,bw,bx,bA,bD⟩:=tC bd H;go_wp2_with fail;refine cd (fw H _ _) fun j0 d2=>?_;have d8:=tA (tB bd d2) H;have b8:=fun hJ=>(d8 hJ).2.2.2.2.2;clear d8 cz;go_wp2_with fail;refine(adc (nA (nB b0 d2) _) (by omega) (by omega) ⟨26,(E.tk i).f,0,(E.tk i).l,0,0,(E.tk i).x,[],[]⟩ O O 0 0 0 0 (bk _ _ _ _) (bk _ _ _ _) (by rw[aJ]at gb;omega) (Fr.nil _ _ _) (Fr.nil _ _ _) (nd 26 (E.tk i) (E.tk i).t 0 0 (E.tk i).x []) (Ac.nil _ L) rfl).mono ?_;rintro a2 g8 ⟨z,a0,rfl,bo,c3,gt⟩;have dq:U (∃k X a0 m,Ps E (Hp E) (CLx E) (E.tk i) m X k R j/\sh E W L B g8 k p.heap.size i a0 X z):=⟨_,_,a0,m,bF.out,⟨(pT c3).out.sp,c3.out.kt,c3.out.bl⟩,c3.out.ac,bo,tK (tB (tB bd d2) (bel1 _ _)) gt⟩;clear bF c3 gt bo d2 bd b0 co dz gb bs bt bw bx bA bD b8;go_wp2_with fail
 case' inr=>
  subst ep;rcases(by omega:N.k=34\/N.k=27\/(N.k≠34/\N.k≠27)) with hN|hN|hN;all_goals
   go_in;go_wp2_with fail;refine cd (iA H dz (by omega) (by omega)) fun p co=>?_;obtain⟨jv,cz,b0,bd⟩:=se (w:=p) H co;simp only[iK]at cz;obtain⟨bs,bt,bw,bx,bA,bD⟩:=tC bd H;have ki:(one N ks).sz<=X.sz:=by rw[ct];unfold jG;split<;>simp only[aJ]<;>omega
   go_wp2_with fail;refine(d5 _ _ _ b0.out.sp (by omega)).mono ?_;rintro a2 j0 ⟨z,fz,rfl,bo,d7⟩;have ea:=nP b0 d7;have ac:=nL b0 d7;have f1:=tK bd d7.kt;clear d7 cz bs bt bw bx bA bD;go_wp2_with fail;refine cd (gx ho ea (by omega) (by omega)) fun w6 e1=>?_;have cp:=nX ea e1;have d1:=tK f1 e1.2.1;clear e1;obtain⟨bs,bt,bw,bx,bA,bD⟩:=tC d1 H;obtain⟨d8,gd,ge⟩:=ac.out.top;obtain⟨cr,hm,hj,em,f9⟩:=cp.out.sp.kindAt gd;obtain⟨hg,hh,hn⟩:=cp.out.sp.cells;obtain⟨q,es⟩:=aA (L.length+ks.sz);have hG:z=(q:Int):=by rw[qy,es]at bo;exact(yc bo).1.symm
   rw[ge,es]at em;rw[es]at f9;subst hG;have hB:(0:Int)<=(q:Int):=by omega
   have hC:(q:Int)<(fz.length:Int):=by omega
   first
    |rw[hN]at em
    |(obtain⟨hp,ht⟩:=hN;have j6:(N.k==34)=false:=by simp[hp]
      have j5:(N.k==27)=false:=by simp[ht])
   clear gd ge d8;go_wp2_with fail;first
    |(refine(fw H _ _).mono ?_
      rintro a2 g8 ⟨rfl,ei⟩;have fA:=nB cp ei;have f2:=tB d1 ei;clear ei;have cu:X=one (im 37 (E.tk i) (E.tk bp).t) (one N ks):=by rw[ct];unfold jG;rw[ab (by omega)]
      go_wp2_with fail;refine(JA [(q:Int)] _ rfl (by simp) fA (by omega) (by omega) ⟨37,(E.tk i).f,0,(E.tk i).l,0,0,⟨#[]⟩,[],[(q:Int)]⟩ 1 rfl rfl rfl (by rw[ac.out.len];omega) (im 37 (E.tk i) (E.tk bp).t) ac.out (by rw[bo];rfl)).mono ?_;rintro a2 j1 ⟨z,hc,rfl,gf,c4,gu⟩;rw[cu]at bF;have dq:U (∃k X a0 m,Ps E (Hp E) (CLx E) (E.tk i) m X k R j/\sh E W L B j1 k p.heap.size i a0 X z):=⟨_,_,hc,m,bF.out,⟨c4.out.sp,c4.out.kt,c4.out.bl⟩,c4.out.ac,gf,tK f2 gu⟩;clear c4 gu fA f2 cu gf;go_wp2_with fail)
    |(have cu:X=one N ks:=by rw[ct];unfold jG;rw[aa (by omega)]
      rw[cu]at bF;have dq:U (∃k X a0 m,Ps E (Hp E) (CLx E) (E.tk i) m X k R j/\sh E W L B w6 k p.heap.size i a0 X (q:Int)):=⟨_,_,fz,m,bF.out,cp,ac.out,bo,d1⟩;clear cu)
   clear bF bo cp d1 ea f1 b0 bd co dz ac bs bt bw bx bA bD hg hh hj hn em
 all_goals
  obtain⟨k,X,a0,m,ce,f8⟩:=dq.out;have ff:=dx ce f8;clear dq ce f8;go_loopg [3] m (fun gk i9 wr=>∃(k:Nat) (X:Fo) (h:Int) (L1:List Mb),i9= A1 Ax h/\U (Ps E (Hp E) (CLx E) (E.tk i) gk X k R j/\sh E W L B wr k p.heap.size i L1 X h))
  case atStart=>exact⟨k,X,_,a0,rfl,ff.out⟩
  case round=>
   clear ff;obtain⟨o,K,h,cn,rfl,fo⟩:=hrel;obtain⟨f7,d3⟩:=fo.out;have eg:=d3.tb;have ar:U (sh E W L B wr o p.heap.size i cn K h):=d3;have cy:U (cn.length=L.length+K.sz):=d3.ac.len;clear d3 fo;obtain⟨bs,bt,bw,bx,bA,bD⟩:=tC eg H;go_wp2_with fail;refine cd (fw H _ _) fun a el=>?_;have fn:U (sh E W L B a o p.heap.size i cn K h):=⟨nB ar.out.nw el,ar.out.ac,ar.out.tp,tB eg el⟩;clear el bs bt bw bx bA bD eg;have cb:U (E.base<=a.heap.size):=fn.out.nw.out.sp.lt.2;obtain⟨km,cl,an,cq⟩:=air fn (nN 33 (E.tk i));simp only[dw]at cl;have kj:=f7.le;cases f7 with
   |stop C G=>
    have ka:((E.tk j).k==48)=false:=by have:=ig G;simp;omega
    have j9:((E.tk j).k==44)=false:=by have:=ig G;simp;omega
    have j7:((E.tk j).k==40)=false:=by have:=ig G;simp;omega
    go_wp2_with fail;refine cd (ib rfl an.out.nw (by omega)) fun a4 d=>?_;have s:U (fm E W L ((a.heap.size,dw (nN 33 (E.tk i)) s0 (M (Q ⟨a.heap.size+1,0,O⟩) 1 1))::B) a4 _ _ _ _ (Q ⟨a.heap.size+1,0,O⟩) 1 1):=an.out.below d;have a7:=tB cq d;clear d;clear cl;go_wp2_with fail;go_ret;exact⟨_,cn,rfl,ar.out.tp,ar.out.ac,s.out.nw.out.sp.tail,s.out.nw.out.kt,s.out.nw.out.bl⟩
   |@dot b3 _ _ _ _ C G cs u=>
    go_wp2_with fail;refine cd (ib C an.out.nw (by omega)) fun a4 d=>?_;have s:U (fm E W L ((a.heap.size,dw (nN 33 (E.tk i)) s0 (M (Q ⟨a.heap.size+1,0,O⟩) 1 1))::B) a4 _ _ _ _ (Q ⟨a.heap.size+1,0,O⟩) 1 1):=an.out.below d;have a7:=tB cq d;clear d;clear cl;go_wp2_with fail;refine cd (gx C s.out.nw (by omega) (by omega)) fun b4 c=>?_;have I:U (fm E W L ((a.heap.size,dw (nN 33 (E.tk i)) s0 (M (Q ⟨a.heap.size+1,0,O⟩) 1 1))::B) b4 _ _ _ _ (Q ⟨a.heap.size+1,0,O⟩) 1 1):=s.out.move c;have b1:=tK a7 c.2.1;clear c;go_wp2_with fail;refine cd (gx G I.out.nw (by omega) (by omega)) fun a6 c=>?_;have v:U (fm E W L ((a.heap.size,dw (nN 33 (E.tk i)) s0 (M (Q ⟨a.heap.size+1,0,O⟩) 1 1))::B) a6 _ _ _ _ (Q ⟨a.heap.size+1,0,O⟩) 1 1):=I.out.move c;have b2:=tK b1 c.2.1;clear c;obtain⟨cm,et,j3,hf⟩:=se (w:=a6) G v.out.nw;have a8:=tB b2 (bel1 a6 (A5 (iK 1 (E.tk (o+1))) 109));have y:U (fm E W L _ (a6.alloc (A5 (iK 1 (E.tk (o+1))) 109)) _ _ _ _ _ _ _):=v.out.below (bel1 a6 (A5 (iK 1 (E.tk (o+1))) 109));rw[et]at a8 y;simp only[iK]at et;obtain⟨bs,bt,bw,bx,bA,bD⟩:=tC hf G;obtain⟨c6,c7,c8,c9,dd,b8,df,dk,dn,dp⟩:=nC y.out.nw;obtain⟨fg,gm⟩:=y.out.boxq (q:=6) cb.out (Br (E.tk (o+1)).x);have g:U (fm E W L ((a.heap.size,dw ⟨33,(E.tk i).f,0,(E.tk i).l,0,0,(E.tk (o+1)).x,[],[h]⟩ s0 (M (Q ⟨a.heap.size+1,0,O⟩) 1 1))::B) _ _ _ _ _ _ _ _):=fg;have a9:=tK a8 gm;clear fg gm;obtain⟨e2,e3,e4,e5,e6,e7,e8,e9,fa,fb⟩:=nC g.out.nw;go_wp2_with fail;clear et;refine(adc g.out.nw (by omega) (by omega) ⟨33,(E.tk i).f,0,(E.tk i).l,0,0,(E.tk (o+1)).x,[],[h]⟩ O _ 0 0 1 1 (bk _ _ _ _) g.out.ow (by have:=cy.out;have q:=u.le;rw[aJ]at q;omega) (Fr.nil _ _ _) g.out.fr (nd 33 (E.tk i) (E.tk (o+1)).t 0 0 (E.tk (o+1)).x []) g.out.ac (by rw[ar.out.tp];rfl)).mono ?_;rintro a2 b6 ⟨am,J,rfl,ad,e,ak⟩;have bE:U (sh E W L B b6 (o+2) p.heap.size i J (one (nd 33 (E.tk i) (E.tk (o+1)).t 0 0 (E.tk (o+1)).x []) K) am):=⟨⟨(pT e).out.sp,e.out.kt,e.out.bl⟩,e.out.ac,ad,tK a9 ak⟩;clear e ak ad;go_wp2_with fail;go_roundg b3
    case measure=>omega
    case rel=>exact⟨o+2,_,am,J,rfl,u,bE.out⟩
   |@sq b3 _ af _ _ Y _ C G cs eo f5 u=>
    go_wp2_with fail;refine cd (ib C an.out.nw (by omega)) fun a4 d=>?_;have s:U (fm E W L ((a.heap.size,dw (nN 33 (E.tk i)) s0 (M (Q ⟨a.heap.size+1,0,O⟩) 1 1))::B) a4 _ _ _ _ (Q ⟨a.heap.size+1,0,O⟩) 1 1):=an.out.below d;have a7:=tB cq d;clear d;clear cl;go_wp2_with fail;refine cd (gx C s.out.nw (by omega) (by omega)) fun b4 c=>?_;have I:U (fm E W L ((a.heap.size,dw (nN 33 (E.tk i)) s0 (M (Q ⟨a.heap.size+1,0,O⟩) 1 1))::B) b4 _ _ _ _ (Q ⟨a.heap.size+1,0,O⟩) 1 1):=s.out.move c;have b1:=tK a7 c.2.1;clear c;go_wp2_with fail;refine(cs _ _ _ I.out.nw.out.sp (by have:=cy.out;have q:=u.le;simp only[aJ,Fo.sz_app]at q;omega)).mono ?_;rintro a2 a6 ⟨d9,j2,rfl,hH,eF⟩;have v:U (fm E W L ((a.heap.size,dw (nN 33 (E.tk i)) s0 (M (Q ⟨a.heap.size+1,0,O⟩) 1 1))::B) a6 _ _ (K.app Y) _ (Q ⟨a.heap.size+1,0,O⟩) 1 1):=I.out.up eF;have b2:=tK b1 eF.kt;clear eF;go_wp2_with fail;refine cd (gx eo v.out.nw (by omega) (by omega)) fun cm c=>?_;have y:U (fm E W L ((a.heap.size,dw (nN 33 (E.tk i)) s0 (M (Q ⟨a.heap.size+1,0,O⟩) 1 1))::B) cm _ _ _ _ (Q ⟨a.heap.size+1,0,O⟩) 1 1):=v.out.move c;have a8:=tK b2 c.2.1;clear c;obtain⟨c6,c7,c8,c9,dd,b8,df,dk,dn,dp⟩:=nC y.out.nw;obtain⟨br,d4,g,a9⟩:=y.out.boxk cb.out 32 a8;obtain⟨e2,e3,e4,e5,e6,e7,e8,e9,fa,fb⟩:=nC g.out.nw;go_wp2_with (at_builtin;refine ek rfl _ _ rfl E.base _ 1 1 [h] rfl rfl (aG g.out.ow (bel1 br _)) (by rw[ba];have:=g.out.nw.out.sp.lt.2;omega) br.heap.size d9 rfl (aw br _) (by decide) ?_;intro bf a1 g0 cB bn ca;have A:U (fm E W L _ g0 _ _ _ [h,d9] (Q ⟨bf,0,O⟩) 2 a1):=g.out.put cB bn ca;have hu:=bn;obtain⟨hK,hL,h3,h4,h5,h6,h7,h8,h9,ih⟩:=nC A.out.nw;obtain⟨fk,hI⟩:=A.out.box cb.out (M (Q ⟨bf,0,O⟩) 2 a1);obtain⟨iv,i0,i1,i2,i3,i4,i5,i6,i7,i8⟩:=nC fk.nw;clear cB bn ca);have ap:U (fm E W L _ _ _ _ _ [h,d9] (Q ⟨bf,0,O⟩) 2 a1):=fk;have d0:U (TB g0 p.heap.size (E.tk i)):=tG g.out a9 hu;have ec:=tK d0 hI;refine(adc ap.out.nw (by omega) (by omega) ⟨32,(E.tk i).f,0,(E.tk i).l,0,0,⟨#[]⟩,[],[h,d9]⟩ O _ 0 0 _ _ (bk _ _ _ _) (by have:=ap.out.ow;have q:=ap.out.ln;simpa [q] using this) (by have:=ap.out.ac.len;have q:=u.le;simp only[aJ,Fo.sz_app]at q this;omega) (Fr.nil _ _ _) ap.out.fr (im 32 (E.tk i) (E.tk af).t) ap.out.ac (by rw[Fo.tops_app,ar.out.tp,<-cy.out,hH];rfl)).mono ?_;rintro a2 b6 ⟨am,J,rfl,ad,e,ak⟩;have bE:U (sh E W L B b6 (af+1) p.heap.size i J (one (im 32 (E.tk i) (E.tk af).t) (K.app Y)) am):=⟨⟨(pT e).out.sp,e.out.kt,e.out.bl⟩,e.out.ac,ad,tK ec ak⟩;clear e ak ad;go_wp2_with fail;go_roundg b3
    case measure=>omega
    case rel=>exact⟨af+1,_,am,J,rfl,u,bE.out⟩
   |@call0 b3 _ _ _ _ C G cs u=>
    go_wp2_with fail;refine cd (ib C an.out.nw (by omega)) fun a4 d=>?_;have s:U (fm E W L ((a.heap.size,dw (nN 33 (E.tk i)) s0 (M (Q ⟨a.heap.size+1,0,O⟩) 1 1))::B) a4 _ _ _ _ (Q ⟨a.heap.size+1,0,O⟩) 1 1):=an.out.below d;have a7:=tB cq d;clear d;clear cl;go_wp2_with fail;refine cd (gx C s.out.nw (by omega) (by omega)) fun b4 c=>?_;have I:U (fm E W L ((a.heap.size,dw (nN 33 (E.tk i)) s0 (M (Q ⟨a.heap.size+1,0,O⟩) 1 1))::B) b4 _ _ _ _ (Q ⟨a.heap.size+1,0,O⟩) 1 1):=s.out.move c;have b1:=tK a7 c.2.1;clear c;obtain⟨c6,c7,c8,c9,dd,b8,df,dk,dn,dp⟩:=nC I.out.nw;obtain⟨a6,d4,v,b2⟩:=I.out.boxk cb.out 34 b1;obtain⟨e2,e3,e4,e5,e6,e7,e8,e9,fa,fb⟩:=nC v.out.nw;go_wp2_with fail;refine cd (ib G v.out.nw (by omega)) fun cm d=>?_;have y:U (fm E W L ((a.heap.size,dw (nN 34 (E.tk i)) s0 (M (Q ⟨a.heap.size+1,0,O⟩) 1 1))::B) cm _ _ _ _ (Q ⟨a.heap.size+1,0,O⟩) 1 1):=v.out.below d;have a8:=tB b2 d;clear d d4;go_wp2_with fail;refine cd (gx G y.out.nw (by omega) (by omega)) fun br c=>?_;have g:U (fm E W L ((a.heap.size,dw (nN 34 (E.tk i)) s0 (M (Q ⟨a.heap.size+1,0,O⟩) 1 1))::B) br _ _ _ _ (Q ⟨a.heap.size+1,0,O⟩) 1 1):=y.out.move c;have a9:=tK a8 c.2.1;clear c;obtain⟨iv,i0,i1,i2,i3,i4,i5,i6,i7,i8⟩:=nC g.out.nw;go_wp2_with fail;refine(adc g.out.nw (by omega) (by omega) ⟨34,(E.tk i).f,0,(E.tk i).l,0,0,⟨#[]⟩,[],[h]⟩ O _ 0 0 _ _ (bk _ _ _ _) (by have:=g.out.ow;have q:=g.out.ln;simpa [q] using this) (by have:=g.out.ac.len;have q:=u.le;simp only[aJ,Fo.sz_app]at q this;omega) (Fr.nil _ _ _) g.out.fr (im 34 (E.tk i) (E.tk (o+1)).t) g.out.ac (by rw[ar.out.tp];rfl)).mono ?_;rintro a2 b6 ⟨am,J,rfl,ad,e,ak⟩;have bE:U (sh E W L B b6 (o+2) p.heap.size i J (one (im 34 (E.tk i) (E.tk (o+1)).t) K) am):=⟨⟨(pT e).out.sp,e.out.kt,e.out.bl⟩,e.out.ac,ad,tK a9 ak⟩;clear e ak ad;go_wp2_with fail;go_roundg b3
    case measure=>omega
    case rel=>exact⟨o+2,_,am,J,rfl,u,bE.out⟩
   |@call b3 _ af _ _ Y _ C G cs eo f5 kb u=>
    have j8:((E.tk (o+1)).k !=41)=true:=by simp[cs]
    go_wp2_with fail;refine cd (ib C an.out.nw (by omega)) fun a4 d=>?_;have s:U (fm E W L ((a.heap.size,dw (nN 33 (E.tk i)) s0 (M (Q ⟨a.heap.size+1,0,O⟩) 1 1))::B) a4 _ _ _ _ (Q ⟨a.heap.size+1,0,O⟩) 1 1):=an.out.below d;have a7:=tB cq d;clear d;clear cl;go_wp2_with fail;refine cd (gx C s.out.nw (by omega) (by omega)) fun b4 c=>?_;have I:U (fm E W L ((a.heap.size,dw (nN 33 (E.tk i)) s0 (M (Q ⟨a.heap.size+1,0,O⟩) 1 1))::B) b4 _ _ _ _ (Q ⟨a.heap.size+1,0,O⟩) 1 1):=s.out.move c;have b1:=tK a7 c.2.1;clear c;obtain⟨c6,c7,c8,c9,dd,b8,df,dk,dn,dp⟩:=nC I.out.nw;obtain⟨a6,d4,v,b2⟩:=I.out.boxk cb.out 34 b1;obtain⟨e2,e3,e4,e5,e6,e7,e8,e9,fa,fb⟩:=nC v.out.nw;go_wp2_with fail;refine cd (ib rfl v.out.nw (by omega)) fun cm d=>?_;have y:U (fm E W L ((a.heap.size,dw (nN 34 (E.tk i)) s0 (M (Q ⟨a.heap.size+1,0,O⟩) 1 1))::B) cm _ _ _ _ (Q ⟨a.heap.size+1,0,O⟩) 1 1):=v.out.below d;have a8:=tB b2 d;clear d d4;go_wp2_with fail;refine(eo _ _ _ y.out.nw.out.sp (by have:=cy.out;have q:=u.le;simp only[aJ,Fo.sz_app]at q;omega)).mono ?_;rintro a2 br ⟨io,fu,rfl,⟨f4,_⟩,d6,e0⟩;obtain⟨a3,eq⟩:=aA Y.len;obtain⟨r,cc⟩:=aA (Y.tops cn.length);have ex:r.length=a3:=by rw[<-cc,Fo.tops_len,eq]
    rw[eq,cc]at d6;have f0:U (jD E br io r (M (Q ⟨a.heap.size+1,0,O⟩) 1 1)):=ade (Y:=Y) y.out (by rw[ex];exact d6) f4;have g:U (fm E W L ((a.heap.size,dw (nN 34 (E.tk i)) s0 (M (Q ⟨a.heap.size+1,0,O⟩) 1 1))::B) br _ _ (K.app Y) _ (Q ⟨a.heap.size+1,0,O⟩) 1 1):=y.out.up e0;have a9:=tK a8 e0.kt;have kh:a3<=50000000:=by have q:=u.le;have kl:=Y.len_le;simp only[aJ,Fo.sz_app]at q;omega
    have ds:=dx cc ex;obtain⟨eh,f3,rfl⟩:=bI d6;clear e0 f4 d6 cc ex eq;have fB:=gD g.out f0.out a9.out;clear g f0 a9;go_wp2_with fail;go_loopw [95] (fun fc wr=>∃(q cv:Nat) (av:Option Addr),q<=a3/\fc= A1 Ax q/\U (fm E W L ((a.heap.size,dw (nN 34 (E.tk i)) s0 (M av (q+1) cv))::B) wr af fu (K.app Y) (h::r.take q) av (q+1) cv/\jD E wr (M eh a3 f3) r (M av (q+1) cv)/\TB wr p.heap.size (E.tk i))) (fun fc _=>a3-(B1 fc).toNat)
    case atStart=>exact⟨0,1,_,be _,rfl,fB⟩
    case round=>
     clear fB;obtain⟨q,cv,av,f9,rfl,fq⟩:=hrel;obtain⟨gs,gv,gz⟩:=fq.out;have A:U (fm E W L ((a.heap.size,dw (nN 34 (E.tk i)) s0 (M av (q+1) cv))::B) _ af fu (K.app Y) (h::r.take q) av (q+1) cv):=gs;have d0:U (TB _ p.heap.size (E.tk i)):=gz;have eb:U (jD E _ (M eh a3 f3) r (M av (q+1) cv)):=gv;clear gs gv gz fq;by_cases hy:q<a3
     ·obtain⟨x,d5⟩:=bj ds.out.2 hy;obtain⟨cr,rfl⟩:∃cr,eh=Q ⟨cr,0,O⟩:=by
       rcases bq eb.out.ow with⟨kc,_⟩|⟨cr,hm,hE⟩
       ·have:=ds.out.2;omega
       ·exact⟨cr,(II hE).1⟩
      have j4:=eb.out.at d5;have hB:(0:Int)<=(q:Int):=by omega
      have hC:(q:Int)<(a3:Int):=by omega
      obtain⟨c6,c7,c8,c9,dd,b8,df,dk,dn,dp⟩:=nC A.out.nw;have hA:q+1<=50000000:=by omega
      have hw:(h::r.take q).length=q+1:=A.out.ln;go_wp2_with (first|(at_builtin;refine ek rfl _ _ rfl E.base _ (q+1) cv (h::r.take q) rfl hw (aG A.out.ow (bel1 _ _)) (by rw[ba];have:=A.out.nw.out.sp.lt.2;omega) _ x rfl (aw _ _) hA ?_;intro bf a1 fe cB bn ca;have ap:U (fm E W L _ fe _ _ _ (h::r.take q++[x]) (Q ⟨bf,0,O⟩) (q+1+1) a1):=A.out.put cB bn ca;have hd:U (jD E fe _ r (M (Q ⟨bf,0,O⟩) (q+1+1) a1)):=eb.out.put bn ca;have ec:U (TB fe p.heap.size (E.tk i)):=tG A.out d0 bn;obtain⟨hK,hL,h3,h4,h5,h6,h7,h8,h9,ih⟩:=nC ap.out.nw;obtain⟨hb,gr⟩:=ap.out.box cb.out (M (Q ⟨bf,0,O⟩) (q+1+1) a1);clear cB bn ca)|fail);have ef:=tK ec gr;have he:U (jD E _ _ r (M (Q ⟨bf,0,O⟩) (q+1+1) a1)):=hd.out.kt gr;have ao:=hb;rw[show h::r.take q++[x]=h::r.take (q+1) by rw[dG,d5];rfl]at ao;exact⟨⟨q+1,a1,_,by omega,by go_num,ao,he.out,ef.out⟩,by simp[B1];omega⟩
     ·obtain rfl:q=a3:=by omega
      have cc:r.take q=r:=cw (by rw[ds.out.2];exact ah _);rw[cc]at A;go_wp2_with fail;refine cd (gx f5 A.out.nw (by omega) (by omega)) fun ji c=>?_;have ao:U (fm E W L ((a.heap.size,dw (nN 34 (E.tk i)) s0 (M av (q+1) cv))::B) ji _ _ _ _ av (q+1) cv):=A.out.move c;have ef:=tK d0 c.2.1;clear c;obtain⟨c6,c7,c8,c9,dd,b8,df,dk,dn,dp⟩:=nC ao.out.nw;go_wp2_with fail;refine(adc ao.out.nw (by omega) (by omega) ⟨34,(E.tk i).f,0,(E.tk i).l,0,0,⟨#[]⟩,[],h::r⟩ O _ 0 0 _ _ (bk _ _ _ _) (by rw[ao.out.ln];exact ao.out.ow) (by have:=ao.out.ac.len;have q:=u.le;simp only[aJ,Fo.sz_app]at q this;omega) (Fr.nil _ _ _) ao.out.fr (im 34 (E.tk i) (E.tk af).t) ao.out.ac (by rw[Fo.tops_app,ar.out.tp,<-cy.out,ds.out.1];rfl)).mono ?_;rintro a2 b6 ⟨am,J,rfl,ad,e,ak⟩;have bE:U (sh E W L B b6 (af+1) p.heap.size i J (one (im 34 (E.tk i) (E.tk af).t) (K.app Y)) am):=⟨⟨(pT e).out.sp,e.out.kt,e.out.bl⟩,e.out.ac,ad,tK ef ak⟩;clear e ak ad;go_wp2_with fail;go_roundg b3
      case measure=>omega
      case rel=>exact⟨af+1,_,am,J,rfl,u,bE.out⟩
theorem adf{R:Fo}{m:Nat}(c:(E.tk i).k=1)(a:i<E.n)(d:i+1<E.n)(e:Ps E (Hp E) (CLx E) (E.tk i) m (one (nd 26 (E.tk i) (E.tk i).t 0 0 (E.tk i).x []) .nil) (i+1) R j):CB E i R j:=ahf c a (.inl ⟨rfl,rfl,rfl⟩) d e
theorem adg{R:Fo}{m:Nat}{N:Nd}{ks:Fo}(e:(E.tk i).k=40)(c:i<E.n)(h:Hp E (i+1) (one N ks) k)(a:(E.tk k).k=41)(d:i+1<=k)(f:k+1<E.n)(g:Ps E (Hp E) (CLx E) (E.tk i) m (jG N ks (E.tk i) (E.tk k).t) (k+1) R j):CB E i R j:=ahf e c (.inr ⟨rfl,N,ks,k,h,a,rfl,d,rfl⟩) f g
end
section
variable {E : Pe} {i j : Nat}
def CuT(E:Pe)(i:Nat)(w':A8):Prop:=w'.cell? ⟨E.pb,0,O⟩=Q (M (Q ⟨E.tb,0,O⟩) E.n E.cap)/\w'.cell? ⟨E.pb,1,O⟩=Q (A1 Ax (i:Int))/\w'.cell? ⟨E.tb,i*6,O⟩=Q (A1 Ax (E.tk i).k)/\w'.cell? ⟨E.tb,i*6+1,O⟩=Q (A1 Ax (E.tk i).f)/\w'.cell? ⟨E.tb,i*6+2,O⟩=Q (A1 Ax (E.tk i).t)/\w'.cell? ⟨E.tb,i*6+3,O⟩=Q (A1 Ax (E.tk i).l)/\w'.cell? ⟨E.tb,i*6+4,O⟩=Q (A1 Ax (E.tk i).n)/\w'.cell? ⟨E.tb,i*6+5,O⟩=Q (Br (E.tk i).x)
theorem Sp.cut{W:A8}{L:List Mb}{B:List (Nat×Array A4)}(h:Sp E W i L B)(e:i<E.n)(d:(E.tk i).k≠6):CuT E i W:=by
 obtain⟨a,c,s⟩:=h.cells;obtain⟨f,g,m,o,p,r⟩:=h.tkw e d;exact⟨a,c,f,g,m,o,p,r⟩
theorem bdN(w:A8)(n:Nat):B0 w.heap.size w (w.drewN n):=⟨rfl,rfl,rfl,ah _,fun _ _=>rfl⟩
theorem LD{k:Int}(b9:k=1\/k=40)(a6:(E.tk i).k=k)(C:i<E.n){x:Fo}(b0:CB E i x j)(bD:(E.tk j).k≠46)(bE:(E.tk j).k≠47)(bF:j<E.n)(cb:i+1<=j):CI E 91 #[pV E] i (one (im 6 (E.tk i) (E.tk (j-1)).t) x) j:=by
 intro W L B K a7;have A:(E.tk i).k≠6:=by omega
 have I:=fL.start K;have hS:U (∀w',B0 W.heap.size W w'->CuT E i w'):=fun w' b=>(K.below b).cut C A;have a5:(i:Int)<(E.n:Int):=by omega
 have a4:(0:Int)<=(i:Int):=by omega
 have ca:=K.hn;have a8:IntKind.i64.wrap (i:Int)=(i:Int):=by rw[cJ];omega
 clear K;go_in;go_wp2_with fail;refine A7 (S:=CuT E i) (by kernel_rfl) (hS.out _ (aL (aj _ _))) (fun a=>?_);simp only[ip,di,fs,Nat.reduceAdd,jt,ju,jw,fd,fF];refine dg 0 (A3 (Q ⟨E.pb,0,O⟩)) rfl rfl (by kernel_rfl) (fun _ _ _=>id) a (fun w' ⟨m,o,p,r,s,u,v,y⟩=>by go_simp) ?_;simp only[Z];refine dg 1 (A3 (Q ⟨E.pb,0,O⟩)) rfl rfl (by kernel_rfl) (fun _ _ _=>id) a (fun w' ⟨m,o,p,r,s,u,v,y⟩=>by go_simp) ?_;simp only[Z];refine dg 2 (A3 (Q ⟨E.pb,0,O⟩)) rfl rfl (by kernel_rfl) (fun _ _ _=>id) a (fun w' ⟨m,o,p,r,s,u,v,y⟩=>by go_simp) ?_;simp only[Z];refine dg 3 (M (Q ⟨E.tb,0,O⟩) E.n E.cap) rfl rfl (by kernel_rfl) (fun _ _ _=>id) a (fun w' ⟨m,o,p,r,s,u,v,y⟩=>by go_simp) ?_;simp only[Z];refine dg 4 (A3 (Q ⟨E.pb,0,O⟩)) rfl rfl (by kernel_rfl) (fun _ _ _=>id) a (fun w' ⟨m,o,p,r,s,u,v,y⟩=>by go_simp) ?_;simp only[Z];refine dg 5 (A3 (Q ⟨E.pb,0,O⟩)) rfl rfl (by kernel_rfl) (fun _ _ _=>id) a (fun w' ⟨m,o,p,r,s,u,v,y⟩=>by go_simp) ?_;simp only[Z];refine dg 6 (A3 (Q ⟨E.pb,1,O⟩)) rfl rfl (by kernel_rfl) (fun _ _ _=>id) a (fun w' ⟨m,o,p,r,s,u,v,y⟩=>by go_simp) ?_;simp only[Z];refine dg 7 (A1 Ax (i:Int)) rfl rfl (by kernel_rfl) (fun _ _ _=>id) a (fun w' ⟨m,o,p,r,s,u,v,y⟩=>by go_simp) ?_;simp only[Z];refine dg 8 (A3 (Q ⟨E.tb,i*6,O⟩)) rfl rfl (by kernel_rfl) (fun _ _ _=>id) a (fun w' ⟨m,o,p,r,s,u,v,y⟩=>by go_simp) ?_;simp only[Z];refine dg 9 (.agg (iK (E.tk i).k (E.tk i))) rfl rfl (by kernel_rfl) (fun _ _ _=>id) a (fun w' ⟨m,o,p,r,s,u,v,y⟩=>by go_simp) ?_;simp only[Z];refine A2 (rs:=[10,11]) (by kernel_rfl) (by simp) (V rfl (fun e c=>?_) (V rfl (fun e c=>?_) A0))
 case' refine_1=>
  go_simp;refine cd (fw a6 _ _) fun ar G=>?_;have g:=nB (nB I (aL (aj _ _))) G;refine c.out _ _ (g.out.sp.cut C A) (fun a=>?_);clear c e;try simp only[bJ,bK,ci]
  refine A2 (rs:=[11]) (by kernel_rfl) (by simp) (V rfl (fun e c=>?_) A0);go_simp;refine c.out _ _ ((nB g (bel1 _ _)).out.sp.cut C A) (fun a=>?_);clear c e;try simp only[bJ,bK,ci]
  refine A2 (rs:=[12]) (by kernel_rfl) (by simp) (V rfl (fun e c=>?_) A0);go_simp;have h:=nA g (dw (nN 5 (E.tk i)) s0 s0);have d:=aq g.out.sp.lt.2;refine c.out _ _ (h.out.sp.cut C A) (fun a=>?_);clear c e;refine wpAnyH_done (by kernel_rfl) ?_ _;clear g G a;generalize H:ar.alloc _=bb at h⊢;generalize ar.heap.size=b at h d⊢;clear H
 case' refine_2=>
  go_simp;have an:=nB (nA I (dw ⟨0,0,0,0,0,0,⟨#[]⟩,[],[]⟩ s0 s0)) (aL (aj _ _));refine c.out _ _ (an.out.sp.cut C A) (fun a=>?_);clear c e;try simp only[bJ,bK,ci]
  refine A2 (rs:=[10]) (by kernel_rfl) (by simp) (V rfl (fun e c=>?_) A0);go_simp;refine cd (fw a6 _ _) fun ar G=>?_;have g:=nB an G;refine c.out _ _ (g.out.sp.cut C A) (fun a=>?_);clear c e;try simp only[bJ,bK,ci]
  obtain⟨bd,bf,bl,bn,bo,bp,br,bs,a1,bt⟩:=nC g;refine A2 (rs:=[12]) (by kernel_rfl) (by simp) (V rfl (fun e c=>?_) A0);go_simp;have d:=aq I.out.sp.lt.2;have J:=nS (nS (nS (nS (nS (nS (nS (nS (nS g d.out 0 (A1 Ax 5)) d.out 1 (A1 Ax (E.tk i).f)) d.out 2 (A1 Ax 0)) d.out 3 (A1 Ax (E.tk i).l)) d.out 4 (A1 Ax 0)) d.out 5 (A1 Ax 0)) d.out 6 (Br ⟨#[]⟩)) d.out 7 s0) d.out 8 s0;refine c.out _ _ (J.out.sp.cut C A) (fun a=>?_);clear c e;refine wpAnyH_done (by kernel_rfl) ?_ _;generalize H:World.setCell _ _ _=bb at J⊢;have h:=aq J;clear g G an a bd bf bl bn bo bp br bs a1 bt J H;obtain⟨b,ad⟩:=aA W.heap.size;rw[ad]at d;rw[show Value.pointer (Q ⟨W.heap.size,0,O⟩)=Value.pointer (Q ⟨b,0,O⟩) by rw[ad]];replace h:U (fL E W bb i L ((b,dw (nN 5 (E.tk i)) s0 s0)::B)):=by rw[<-ad];exact h
  clear ad
 all_goals
  clear I hS a5 a4 a8;go_wp2_with fail;refine(b0 _ _ _ h.out.sp (by simp only[aJ]at a7;omega)).mono ?_;rintro bA a9 ⟨z,bw,rfl,H,ap⟩;have af:=nP h ap;have ac:=nL h ap;clear ap;obtain⟨b6,b7,b8⟩:=af.out.sp.cells;obtain⟨l,cc,co,cp,cq,cr,cs,ct⟩:=af.out.sp.tok bF;have a5:(j:Int)<(E.n:Int):=by omega
  have a4:(0:Int)<=(j:Int):=by omega
  have cm:((E.tk j).k !=46)=true:=by simp[bD]
  have cn:((E.tk j).k !=47)=true:=by simp[bE]
  have a8:IntKind.i64.wrap (j:Int)=(j:Int):=by rw[cJ];omega
  go_wp2_with fail;go_quiet (fail)
  have ak:=nB af (bdN a9 nq);generalize a9.drewN nq=b3 at ak⊢;obtain⟨bd,bf,bl,bn,bo,bp,br,bs,a1,bt⟩:=nC ak;obtain⟨a0,ck,am⟩:∃a0,b3.setCell ⟨b,0,O⟩ (A1 Ax 6)=a0/\U (fL E W a0 j bw ((b,dw (nN 6 (E.tk i)) s0 s0)::B)):=⟨_,rfl,nS ak d.out 0 _⟩;obtain⟨c7,ce,a3,bx,cl⟩:=nKI [z] #[A1 Ax z] rfl 1 rfl am d.out (by decide);have a2:=nCA am;have a1:=fun ao=>(a2 ao).1;have c9:=fun ao=>(a2 ao).2;clear a2;obtain⟨cu,cx,cy,cz,cB,c2,c3,c4,c5,c6⟩:=nC a3;go_wp2_with fail;refine(lw a3 (by omega) (by omega) ⟨6,(E.tk i).f,0,(E.tk i).l,0,0,⟨#[]⟩,[],[z]⟩ O _ 0 0 _ _ (bk _ _ _ _) bx.out (by rw[ac.out.len];simp only[aJ]at a7;omega) (Fr.nil _ _ _) (Fr.new am.out.kt.size) (im 6 (E.tk i) (E.tk (j-1)).t) ac.out (by rw[H];rfl)).mono ?_;rintro bA c8 ⟨dd,b4,rfl,b1,b2⟩;go_wp2_with fail;go_ret;exact⟨_,_,rfl,b1,(pT b2).out⟩
end
section
variable {E : Pe} {i j : Nat}
abbrev LE(T:Tk)(q:Int):Nd:=⟨5,T.f,0,T.l,0,q,⟨#[]⟩,[],[]⟩
theorem Hv{c8:Int}{k am m:Nat}(hu:c8=1\/c8=40)(es:(E.tk i).k=c8)(a0:i<E.n){x R Ex:Fo}(gz:CB E i x k)(c6:Ls E (CB E) m k R am)(ct:(E.tk am).k=47)(f9:am<E.n)(f8:CLx E (am+1) Ex j)(gb:k<E.n)(hy:am+1<=j)(hA:j<=E.n):CI E 91 #[pV E] i (one (nd 5 (E.tk i) (E.tk (j-1)).t 0 ((x.app R).len:Nat) z0 []) ((x.app R).app Ex)) j:=by
 have hkk:(E.tk k).k=46\/(E.tk k).k=47:=by
  cases c6 with
  |stop _ _=>exact .inr ct
  |go a8 _ _ _=>exact .inl a8
 have ea:=aq c6;clear c6;intro W L B a8 cB;have ar:(E.tk i).k≠6:=by omega
 have b4:=fL.start a8;have hS:U (∀w',B0 W.heap.size W w'->CuT E i w'):=fun w' b=>(a8.below b).cut a0 ar;have cz:(i:Int)<(E.n:Int):=by omega
 have cy:(0:Int)<=(i:Int):=by omega
 have hw:=a8.hn;have c7:IntKind.i64.wrap (i:Int)=(i:Int):=by rw[cJ];omega
 clear a8;go_in;go_wp2_with fail;refine A7 (S:=CuT E i) (by kernel_rfl) (hS.out _ (aL (aj _ _))) (fun a=>?_);simp only[ip,di,fs,Nat.reduceAdd,jt,ju,jw,fd,fF];refine dg 0 (A3 (Q ⟨E.pb,0,O⟩)) rfl rfl (by kernel_rfl) (fun _ _ _=>id) a (fun w' ⟨G,H,I,J,K,ad,af,ak⟩=>by go_simp) ?_;simp only[Z];refine dg 1 (A3 (Q ⟨E.pb,0,O⟩)) rfl rfl (by kernel_rfl) (fun _ _ _=>id) a (fun w' ⟨G,H,I,J,K,ad,af,ak⟩=>by go_simp) ?_;simp only[Z];refine dg 2 (A3 (Q ⟨E.pb,0,O⟩)) rfl rfl (by kernel_rfl) (fun _ _ _=>id) a (fun w' ⟨G,H,I,J,K,ad,af,ak⟩=>by go_simp) ?_;simp only[Z];refine dg 3 (M (Q ⟨E.tb,0,O⟩) E.n E.cap) rfl rfl (by kernel_rfl) (fun _ _ _=>id) a (fun w' ⟨G,H,I,J,K,ad,af,ak⟩=>by go_simp) ?_;simp only[Z];refine dg 4 (A3 (Q ⟨E.pb,0,O⟩)) rfl rfl (by kernel_rfl) (fun _ _ _=>id) a (fun w' ⟨G,H,I,J,K,ad,af,ak⟩=>by go_simp) ?_;simp only[Z];refine dg 5 (A3 (Q ⟨E.pb,0,O⟩)) rfl rfl (by kernel_rfl) (fun _ _ _=>id) a (fun w' ⟨G,H,I,J,K,ad,af,ak⟩=>by go_simp) ?_;simp only[Z];refine dg 6 (A3 (Q ⟨E.pb,1,O⟩)) rfl rfl (by kernel_rfl) (fun _ _ _=>id) a (fun w' ⟨G,H,I,J,K,ad,af,ak⟩=>by go_simp) ?_;simp only[Z];refine dg 7 (A1 Ax (i:Int)) rfl rfl (by kernel_rfl) (fun _ _ _=>id) a (fun w' ⟨G,H,I,J,K,ad,af,ak⟩=>by go_simp) ?_;simp only[Z];refine dg 8 (A3 (Q ⟨E.tb,i*6,O⟩)) rfl rfl (by kernel_rfl) (fun _ _ _=>id) a (fun w' ⟨G,H,I,J,K,ad,af,ak⟩=>by go_simp) ?_;simp only[Z];refine dg 9 (.agg (iK (E.tk i).k (E.tk i))) rfl rfl (by kernel_rfl) (fun _ _ _=>id) a (fun w' ⟨G,H,I,J,K,ad,af,ak⟩=>by go_simp) ?_;simp only[Z];refine A2 (rs:=[10,11]) (by kernel_rfl) (by simp) (V rfl (fun o d=>?_) (V rfl (fun o d=>?_) A0))
 case' refine_1=>
  go_simp;refine cd (fw es _ _) fun y bD=>?_;have s:=nB (nB b4 (aL (aj _ _))) bD;refine d.out _ _ (s.out.sp.cut a0 ar) (fun a=>?_);clear d o;try simp only[bJ,bK,ci]
  refine A2 (rs:=[11]) (by kernel_rfl) (by simp) (V rfl (fun o d=>?_) A0);go_simp;refine d.out _ _ ((nB s (bel1 _ _)).out.sp.cut a0 ar) (fun a=>?_);clear d o;try simp only[bJ,bK,ci]
  refine A2 (rs:=[12]) (by kernel_rfl) (by simp) (V rfl (fun o d=>?_) A0);go_simp;have g:=nA s (dw (nN 5 (E.tk i)) s0 s0);have e:=aq s.out.sp.lt.2;refine d.out _ _ (g.out.sp.cut a0 ar) (fun a=>?_);clear d o;refine wpAnyH_done (by kernel_rfl) ?_ _;clear s bD a;generalize a1:y.alloc _=fz at g⊢;generalize y.heap.size=b at g e⊢;clear a1
 case' refine_2=>
  go_simp;have co:=nB (nA b4 (dw ⟨0,0,0,0,0,0,⟨#[]⟩,[],[]⟩ s0 s0)) (aL (aj _ _));refine d.out _ _ (co.out.sp.cut a0 ar) (fun a=>?_);clear d o;try simp only[bJ,bK,ci]
  refine A2 (rs:=[10]) (by kernel_rfl) (by simp) (V rfl (fun o d=>?_) A0);go_simp;refine cd (fw es _ _) fun y bD=>?_;have s:=nB co bD;refine d.out _ _ (s.out.sp.cut a0 ar) (fun a=>?_);clear d o;try simp only[bJ,bK,ci]
  obtain⟨bl,bn,bo,bp,br,bs,bt,bw,a3,bx⟩:=nC s;refine A2 (rs:=[12]) (by kernel_rfl) (by simp) (V rfl (fun o d=>?_) A0);go_simp;have e:=aq b4.out.sp.lt.2;have b7:=nS (nS (nS (nS (nS (nS (nS (nS (nS s e.out 0 (A1 Ax 5)) e.out 1 (A1 Ax (E.tk i).f)) e.out 2 (A1 Ax 0)) e.out 3 (A1 Ax (E.tk i).l)) e.out 4 (A1 Ax 0)) e.out 5 (A1 Ax 0)) e.out 6 (Br ⟨#[]⟩)) e.out 7 s0) e.out 8 s0;refine d.out _ _ (b7.out.sp.cut a0 ar) (fun a=>?_);clear d o;refine wpAnyH_done (by kernel_rfl) ?_ _;generalize a1:World.setCell _ _ _=fz at b7⊢;have g:=aq b7;clear s bD co a bl bn bo bp br bs bt bw a3 bx b7 a1;obtain⟨b,ca⟩:=aA W.heap.size;rw[ca]at e;rw[show Value.pointer (Q ⟨W.heap.size,0,O⟩)=Value.pointer (Q ⟨b,0,O⟩) by rw[ca]];replace g:U (fL E W fz i L ((b,dw (nN 5 (E.tk i)) s0 s0)::B)):=by rw[<-ca];exact g
  clear ca
 all_goals
  clear b4 hS cz cy c7;go_wp2_with fail;refine(gz _ _ _ g.out.sp (by simp only[aJ,Fo.sz_app]at cB;omega)).mono ?_;rintro b8 fu ⟨z,cm,rfl,a1,df⟩;have a6:=nP g df;have ac:=nL g df;clear df;obtain⟨f3,f4,f5⟩:=a6.out.sp.cells;obtain⟨l,gd,ck,dn,dp,dq,ds,dz⟩:=a6.out.sp.tok gb;have cz:(k:Int)<(E.n:Int):=by omega
  have cy:(0:Int)<=(k:Int):=by omega
  have c7:IntKind.i64.wrap (k:Int)=(k:Int):=by rw[cJ];omega
  go_wp2_with fail;rcases hkk with hkk|hkk;all_goals
   rw[hkk]at ck;go_quiet (fail)
   have ap:=nB a6 (bdN fu nq);generalize fu.drewN nq=d2 at ap⊢;obtain⟨bl,bn,bo,bp,br,bs,bt,bw,a3,bx⟩:=nC ap;obtain⟨fo,gu,b6,ef,g0⟩:=nKI [z] #[A1 Ax z] rfl 1 rfl ap e.out (by decide);have d4:=nCA ap;have a3:=fun dd=>(d4 dd).1;have hh:=fun dd=>(d4 dd).2;clear d4;obtain⟨e8,e9,fa,fb,fc,fe,ff,fg,fk,fn⟩:=nC b6;obtain⟨b0,gv,ec,e1⟩:∃b0,fo.setCell ⟨b,5,O⟩ (A1 Ax 1)=b0/\U (fL E W b0 k cm ((b,dw (LE (E.tk i) (1)) s0 (M (Q ⟨d2.heap.size,0,O⟩) 1 1))::B))/\Kt fo b0:=⟨_,rfl,nS b6 e.out 5 _,b6.out.sp.kset 5 _⟩;have d6:U (eH E W L ((b,dw (LE (E.tk i) ((1:Nat))) s0 (M (Q ⟨d2.heap.size,0,O⟩) 1 1))::B) b0 k cm x (Q ⟨d2.heap.size,0,O⟩) 1 1):=⟨ec,ac.out,by rw[<-Fo.tops_len x L.length,a1];rfl,by rw[a1];exact e1.row ef.out (by decide) (by decide),Fr.new ap.out.kt.size,qJ ap.out.sp (ah _)⟩;go_wp2_with fail;clear gu gv f3 f4 f5 ck dn dp dq ds dz cz cy c7 bl bn bo bp br bs bt bw a3 bx e8 e9 fa fb fc fe ff fg fk fn hh g a6 ap b6 ec ef g0 e1 ac a1 gd;go_loopg [4] m (fun gk hg wr=>∃(k:Nat) (D cp:Fo) (fA:Int) (av:Option Addr) (n cv:Nat) (L1:List Mb),hg= A1 Ax fA/\U (Ls E (CB E) gk k cp am/\eH E W L ((b,dw (LE (E.tk i) ((n:Int))) s0 (M av n cv))::B) wr k L1 D av n cv/\D.app cp=x.app R))
   case atStart=>exact⟨k,x,R,z,_,1,1,cm,rfl,ea.out,d6.out,rfl⟩
   case round=>
    clear d6 ea;obtain⟨g6,D,cp,fA,av,n,cv,L2,rfl,cl⟩:=hrel;obtain⟨f7,a9,bE⟩:=cl.out;cases f7 with
    |stop ep cs=>
     have cn:=a9.nw;have cu:D=x.app R:=by rw[<-bE,Fo.app_nil]
     have a4:=aq a9;clear a9 bE cl;go_wp2_with fail;refine cd (isN (by rw[ct];decide) cn cs) fun d1 el=>?_;have an:U (eH E W L ((b,dw (LE (E.tk i) (n:Int)) s0 (M av n cv))::B) d1 _ L2 D av n cv):=a4.out.below el;clear el;go_wp2_with fail;refine cd (gx ct an.out.nw f9 (by omega)) fun a2 e6=>?_;have A:U (eH E W L ((b,dw (LE (E.tk i) (n:Int)) s0 (M av n cv))::B) a2 (am+1) L2 D av n cv):=an.out.move e6;clear e6;have bA:U (fm E W L ((b,dw (LE (E.tk i) (n:Int)) s0 (M av n cv))::B) a2 (am+1) L2 D (D.tops L.length) av n cv):=⟨A.out.nw,A.out.ac,by rw[Fo.tops_len];exact A.out.ln,A.out.ow,A.out.fr,A.out.sv⟩;have ev:L.length+(D.app Ex).sz+1<=50000000:=by rw[cu];simp only[aJ,Fo.sz_app]at cB⊢;omega
     have c2:L2.length=L.length+D.sz:=A.out.ac.len;go_wp2_with fail;refine(f8 _ _ _ bA.out.nw.out.sp (by rw[c2];simp only[Fo.sz_app]at ev;omega)).mono ?_;rintro b8 y ⟨hf,eb,rfl,⟨eo,_⟩,ce,e5⟩;obtain⟨v,c4⟩:=aA Ex.len;obtain⟨c,bf⟩:=aA (Ex.tops L2.length);obtain⟨u,c3⟩:=aA (D.tops L.length);have c9:c.length=v:=by rw[<-bf,Fo.tops_len,c4]
     have e2:D.len=n:=A.out.ln;rw[c4,bf]at ce;rw[c3]at bA;have ei:U (jD E y hf c (M av n cv)):=ade (Y:=Ex) bA.out (by rw[c9];exact ce) eo;have r:U (fm E W L ((b,dw (LE (E.tk i) (n:Int)) s0 (M av n cv))::B) y _ _ (D.app Ex) u av n cv):=bA.out.up e5;have hB:n+v<=50000000:=by have hJ:=Ex.len_le;have dk:=D.len_le;simp only[Fo.sz_app]at ev;omega
     have ao:U ((Ex.tops L2.length=c/\D.tops L.length=u/\c.length=v)/\D.len=n/\L2.length=L.length+D.sz):=⟨⟨bf,c3,c9⟩,e2,c2⟩;obtain⟨cr,em,rfl⟩:=bI ce;have eg:U (fm E W L ((b,dw (LE (E.tk i) (n:Int)) s0 (M av (n+0) cv))::B) y j eb (D.app Ex) (u++c.take 0) av (n+0) cv/\jD E y (M cr v em) c (M av (n+0) cv)):=⟨by rw[iG,dA];exact r.out,ei.out⟩;clear e5 eo ce bf c9 c4 c3 e2 c2 an A bA r ei a4;go_wp2_with fail;go_loopw [76] (fun d0 wr=>∃(q cv:Nat) (av:Option Addr),q<=v/\d0= A1 Ax q/\U (fm E W L ((b,dw (LE (E.tk i) (n:Int)) s0 (M av (n+q) cv))::B) wr j eb (D.app Ex) (u++c.take q) av (n+q) cv/\jD E wr (M cr v em) c (M av (n+q) cv))) (fun d0 _=>v-(B1 d0).toNat)
     case atStart=>exact⟨0,cv,av,be _,rfl,eg⟩
     case round=>
      clear eg;obtain⟨q,cv,av,hC,rfl,d9⟩:=hrel;obtain⟨cc,e7⟩:=d9.out;have h:=aq cc;have cq:=aq e7;clear cc e7 d9;by_cases gf:q<v
      ·obtain⟨d3,ex⟩:=bj ao.out.1.2.2 gf;obtain⟨b9,rfl⟩:∃b9,cr=Q ⟨b9,0,O⟩:=by
        rcases bq cq.out.ow with⟨ht,_⟩|⟨b9,ho,gt⟩
        ·have:=ao.out.1.2.2;omega
        ·exact⟨b9,(II gt).1⟩
       have hp:=cq.out.at ex;have hG:(0:Int)<=(q:Int):=by omega
       have hH:(q:Int)<(v:Int):=by omega
       obtain⟨bl,bn,bo,bp,br,bs,bt,bw,a3,bx⟩:=nC h.out.nw;have gr:n+q<=50000000:=by omega
       have ge:(u++c.take q).length=n+q:=h.out.ln;go_wp2_with (first|(at_builtin;refine ek rfl _ _ rfl E.base _ (n+q) cv (u++c.take q) rfl ge (aG h.out.ow (bel1 _ _)) (by rw[ba];have:=h.out.nw.out.sp.lt.2;omega) _ d3 rfl (aw _ _) gr ?_;intro C p fq bF bd bb;have d7:U (fm E W L _ fq _ _ _ (u++c.take q++[d3]) (Q ⟨C,0,O⟩) (n+q+1) p):=h.out.put bF bd bb;have f1:U (jD E fq _ c (M (Q ⟨C,0,O⟩) (n+q+1) p)):=cq.out.put bd bb;obtain⟨ck,dn,dp,dq,ds,dz,ha,hc,hd,he⟩:=nC d7.out.nw;obtain⟨fB,g5⟩:=d7.out.box e.out (M (Q ⟨C,0,O⟩) (n+q+1) p);clear bF bd bb)|fail);have f2:U (jD E _ _ c (M (Q ⟨C,0,O⟩) (n+q+1) p)):=f1.out.kt g5;have d8:=fB;rw[show u++c.take q++[d3]=u++c.take (q+1) by rw[dG,ex,cI];rfl]at d8;exact⟨⟨q+1,p,_,by omega,by go_num,d8,f2.out⟩,by simp[B1];omega⟩
      ·obtain rfl:q=v:=by omega
       have bf:c.take q=c:=cw (by rw[ao.out.1.2.2];exact ah _);rw[bf]at h;obtain⟨bl,bn,bo,bp,br,bs,bt,bw,a3,bx⟩:=nC h.out.nw;go_wp2_with fail;refine(lw h.out.nw (by omega) (by omega) ⟨5,(E.tk i).f,0,(E.tk i).l,0,(n:Int),⟨#[]⟩,[],u++c⟩ O _ 0 0 _ _ (bk _ _ _ _) (by rw[h.out.ln];exact h.out.ow) (by have:=h.out.ac.len;rw[this];omega) (Fr.nil _ _ _) h.out.fr (nd 5 (E.tk i) (E.tk (j-1)).t 0 ((x.app R).len:Nat) z0 []) h.out.ac (by rw[Fo.tops_app,<-ao.out.2.2,ao.out.1.1,ao.out.1.2.1,<-cu,ao.out.2.1];rfl)).mono ?_;rintro b8 hK ⟨hL,hm,rfl,eF,e3⟩;rw[cu]at eF e3;go_wp2_with fail;go_ret;exact⟨_,_,rfl,eF,(pT e3).out⟩
    |@go g9 _ cb _ b1 eh ep cs f6 eq=>
     have cn:=a9.nw;have a4:=gD a9 bE eq;have gs:L.length+(D.app (b1.app eh)).sz+1<=50000000:=by rw[bE];simp only[aJ,Fo.sz_app]at cB⊢;omega
     have et:=aq gs;clear a9 bE cl eq;go_wp2_with fail;refine cd (isY ep cn cs) fun d1 dk=>?_;have an:U (eH E W L ((b,dw (LE (E.tk i) ((n:Int))) s0 (M av n cv))::B) d1 (g6+1) L2 D av n cv):=a4.out.1.move dk;clear dk;go_wp2_with fail;refine(f6 _ _ _ an.out.nw.out.sp (by have:=et.out;rw[an.out.ac.len];simp only[Fo.sz_app]at this;omega)).mono ?_;rintro b8 a2 ⟨d5,b3,rfl,e0,e4⟩;have a7:U (oa E W L ((b,dw (LE (E.tk i) ((n:Int))) s0 (M av n cv))::B) a2 cb b3 D b1 d5 av n cv):=an.out.up e4 e0;clear e4 e0;have gm:n<=50000000:=by have q:=et.out;have b8:=a7.out.ln;have hs:=D.len_le;simp only[Fo.sz_app]at q;omega
     have hI:IntKind.i64.wrap ((n:Int)+1)=(n:Int)+1:=by rw[cJ];omega
     obtain⟨bl,bn,bo,bp,br,bs,bt,bw,a3,bx⟩:=nC a7.out.nw;go_wp2_with (at_builtin;refine ek rfl _ _ rfl E.base av n cv (D.tops L.length) rfl (by rw[Fo.tops_len];exact a7.out.ln) (aG a7.out.ow (bel1 a2 _)) (by rw[ba];have:=a7.out.nw.out.sp.lt.2;omega) a2.heap.size d5 rfl (aw a2 _) gm ?_;intro C p y bF bd bb;have r:U (eH E W L ((b,dw (LE (E.tk i) ((n:Int))) s0 (M av n cv))::B) y cb b3 (D.app b1) (Q ⟨C,0,O⟩) (n+1) p):=a7.out.put bF bd bb;obtain⟨ck,dn,dp,dq,ds,dz,ha,hc,hd,he⟩:=nC r.out.nw;obtain⟨g,cc⟩:=nK r.out.nw e.out (M (Q ⟨C,0,O⟩) (n+1) p);obtain⟨e8,e9,fa,fb,fc,fe,ff,fg,fk,fn⟩:=nC g;clear bF bd bb);have a6:=nS g e.out 5 (A1 Ax ((n:Int)+1));have g8:=g.out.sp.kset 5 (A1 Ax ((n:Int)+1));have f0:U (eH E W L ((b,dw (LE (E.tk i) ((n+1:Nat):Int)) s0 (M (Q ⟨C,0,O⟩) (n+1) p))::B) _ cb b3 (D.app b1) (Q ⟨C,0,O⟩) (n+1) p):=⟨by rw[show((n+1:Nat):Int)=(n:Int)+1 by omega];exact a6,r.out.ac,r.out.ln,g8.row (cc.row r.out.ow (by decide) (by decide)) (by decide) (by decide),r.out.fr,r.out.sv⟩;go_roundg g9
     case measure=>omega
     case rel=>exact⟨cb,D.app b1,eh,d5,_,n+1,p,b3,rfl,a4.out.2.2,f0.out,by rw[Fo.app_app];exact a4.out.2.1⟩
end
