import Derived.Test.YtcbmoiabehpliaaGreatDoorHPk01
import Derived.Test.YtcbmoiabehpliaaGreatDoorHPk27
import Derived.Deep.LoopGhost
import Derived.Deep.RegionHeld3
import Derived.Test.YtcbmoiabehpliaaGreatDoorHPk25
import Derived.BigQuiet
set_option linter.unusedSimpArgs false
set_option linter.unusedVariables false
set_option maxRecDepth 100000
set_option maxHeartbeats 12800000
namespace Go.Proofs.YtcbmoiabehpliaaGreatDoor
open Go.RowKit Go.Maps Go.WideMaps
section
variable {E : Pe} {W w w' : World} {i j : Nat} {L L1 L' : List Mb} {B B' : List (Nat × Array Value)}
theorem yj(l:List Int)(cs:Array Value)(u:cs=(l.map (Value.int .i64)).toArray)(s:l.length<=100)(h:Hid (bU E W w i L1 B))(C:1<=i)(G:i<=E.n)(N:Nd)(m:Nat)(v:l.length=m)(o:N.ks=l)(r:N.nm=[])(A:L1.length<=50000000)(a:Nd){R:Fo}(ac:Ac W.heap.size L L1 R)(y:({N with t:=(E.tk (i-1)).t}:Nd)={a with ks:=R.tops L.length}):
  Calls Tryz.prog 100 #[pV E,.agg (aW N s0 (.slice (some ⟨w.heap.size+1,0,none⟩) m m))] ((w.alloc (.cells (aW N s0 (.slice (some ⟨w.heap.size+1,0,none⟩) m m)) 69)).alloc (.cells cs 3)) fun e w'=>∃z L',e= .returned (.int .i64 z)/\(one a R).tops L.length=[z]/\Hid (xY E W w' L L' B (one a R) i)/\Kt w w':=by
 subst u v;have p:=nA h (aW N s0 (.slice (some ⟨w.heap.size+1,0,none⟩) l.length l.length));have x:=ax w (.cells (aW N s0 (.slice (some ⟨w.heap.size+1,0,none⟩) l.length l.length)) 69);have f:=ax (w.alloc (.cells (aW N s0 (.slice (some ⟨w.heap.size+1,0,none⟩) l.length l.length)) 69)) (.cells (l.map (Value.int .i64)).toArray 3);have c:=nB p f;have g:=fY (w.alloc (.cells (aW N s0 (.slice (some ⟨w.heap.size+1,0,none⟩) l.length l.length)) 69)) l l.length rfl s;rw[World.size_alloc]at g;refine(GO c.out.sp C G N none _ 0 0 _ _ (by rw[r];exact World.ownsRow_nil _ _ _ _) (by rw[o];exact cU g (by have:=h.out.sp.lt.2;omega)) A).mono ?_;rintro e w' ⟨rfl,d,k,b⟩;rw[y]at d;exact⟨_,_,rfl,by rw[kG,ac.len],⟨ac.add a (Fr.nil _ _ _) (Fr.new (by have:=h.out.kt.size;omega)),d.tail,c.out.kt.trans k,c.out.bl.trans b⟩,((Kt.of_below x).trans (Kt.of_below f)).trans k⟩
theorem I0(k:Int)(a:cu k=true)(f:k<=78)(w:World):Calls Tryz.prog 154 #[.int .i64 k] w fun e w'=>e= .returned (.tuple #[.int .i64 (sH k),.int .i64 (FL k)])/\w'=w:=by
 have c:k=10\/k=26\/60<k:=of_decide_eq_true a;have d:k=10\/k=26\/k=61\/k=62\/k=63\/k=64\/k=65\/k=66\/k=67\/k=68\/k=69\/k=70\/k=71\/k=72\/k=73\/k=74\/k=75\/k=76\/k=77\/k=78:=by omega
 clear c a f;rcases d with rfl|rfl|rfl|rfl|rfl|rfl|rfl|rfl|rfl|rfl|rfl|rfl|rfl|rfl|rfl|rfl|rfl|rfl|rfl|rfl;all_goals
  go_in;go_wp2;first
   |(go_ret;exact⟨rfl,rfl⟩)
   |(go_ret2;exact⟨rfl,rfl⟩)
end
inductive Ms (E:Pe) (C:Int->Nat->Fo->Nat->Prop) (p:Int) (s:Tk):Nat->Fo->Nat->Fo->Nat->Prop where
 |stop {x:Fo}{k:Nat}:k<E.n->(cu (E.tk k).k=true->sH (E.tk k).k<p)->Ms E C p s 0 x k x k
 |go {m k k1 j:Nat}{x y R:Fo}:k<E.n->cu (E.tk k).k=true->p<=sH (E.tk k).k->C (FL (E.tk k).k) (k+1) y k1->k+1<=k1->k1<=E.n->Ms E C p s m (one (gV (E.tk k).k s (E.tk (k1-1)).t) (x.app y)) k1 R j->Ms E C p s (m+1) x k R j
theorem Ms.le{E:Pe}{C:Int->Nat->Fo->Nat->Prop}{p:Int}{s:Tk}{m k j:Nat}{x R:Fo}(h:Ms E C p s m x k R j):x.sz<=R.sz:=by
 induction h with
 |stop=>exact Nat.le_refl _
 |go _ _ _ _ _ _ _ a=>rw[ag,Fo.sz_app]at a;omega
section
variable {E : Pe} {i j : Nat}
abbrev CX(E:Pe)(p:Int)(i:Nat)(x:Fo)(j:Nat):Prop:=CI E 101 #[pV E,.int .i64 p] i x j
structure iX (E:Pe) (W:World) (L:List Mb) (B:List (Nat×Array Value)) (w:World) (k b q:Nat) (L1:List Mb) (X:Fo) (z:Int):Prop where
 nw:Hid (bU E W w k L1 B)
 ac:Ac W.heap.size L L1 X
 tp:X.tops L.length=[z]
 tb:Hid (TB w b (E.tk q))
theorem G1{p:Int}{x R:Fo}{k m:Nat}(cl:(E.tk i).k≠6)(cw:i<E.n)(a5:∀q,(E.tk q).k<=78)(b4:CI E 153 #[pV E] i x k)(ak:Ms E (CX E) p (E.tk i) m x k R j):CX E p i R j:=by
 intro W L B M cF;obtain⟨bN,b3,cg⟩:=M.cells;obtain⟨bt,bx,a7,bs,a8,bD⟩:=M.tkw cw cl;have c4:(i:Int)<(E.n:Int):=by omega
 have d0:(0:Int)<=(i:Int):=by omega
 have c6:=M.hn;have cI:IntKind.i64.wrap (i:Int)=(i:Int):=by rw[IntKind.wrap_i64];omega
 have bA:=bU.start M;have bE:=ab ak;have c8:=ak.le;clear M ak;go_in;go_wp2_with fail;go_region_held3 (fun w'=>w'.cell? ⟨E.pb,0,none⟩=some (.slice (some ⟨E.tb,0,none⟩) E.n E.cap)/\w'.cell? ⟨E.pb,1,none⟩=some (.int .i64 (i:Int))/\w'.cell? ⟨E.tb,i*6,none⟩=some (.int .i64 (E.tk i).k)/\w'.cell? ⟨E.tb,i*6+1,none⟩=some (.int .i64 (E.tk i).f)/\w'.cell? ⟨E.tb,i*6+2,none⟩=some (.int .i64 (E.tk i).t)/\w'.cell? ⟨E.tb,i*6+3,none⟩=some (.int .i64 (E.tk i).l)/\w'.cell? ⟨E.tb,i*6+4,none⟩=some (.int .i64 (E.tk i).n)/\w'.cell? ⟨E.tb,i*6+5,none⟩=some (.string (E.tk i).x)) (first|go_keep|exact⟨bN,b3,bt,bx,a7,bs,a8,bD⟩) (fail)
 obtain⟨bo,U⟩:=ah ((W.alloc (.cells (bg (E.tk i).k (E.tk i)) 45)).drew);have b0:Below W.heap.size W bo:=by rw[<-U];exact aE (ax W _)
 have Z:=nB bA b0;have br:Hid (TB bo W.heap.size (E.tk i)):=by rw[<-U];exact heap_alloc_new W _
 simp only[bg]at U;rw[U];clear U b0 bN b3 cg bt bx a7 bs a8 bD bA;go_wp2_with fail;refine(b4 _ _ _ Z.out.sp (by omega)).mono ?_;rintro G cm ⟨z,L2,rfl,b2,p2⟩;have bn:Hid (iX E W L B cm k W.heap.size i L2 x z):=⟨nP Z p2,(nL Z p2).out,b2,tK br p2.kt⟩;clear b2 p2 Z br b4;go_wp2_with fail;go_loopg [6] m (fun gk cc wr=>∃(k:Nat) (X:Fo) (h:Int) (L1:List Mb),cc= .int .i64 h/\Hid (Ms E (CX E) p (E.tk i) gk X k R j/\iX E W L B wr k W.heap.size i L1 X h))
 case atStart=>exact⟨k,x,z,L2,rfl,bE.out,bn.out⟩
 case round=>
  clear bn bE;obtain⟨c,X,h,a9,rfl,a4⟩:=hrel;obtain⟨ch,J⟩:=a4.out;cases ch with
  |stop y a6=>
   have N:=J.nw;have a:=ab J;clear J a4;cases g:cu (E.tk j).k with
   |false=>
    go_wp2_with fail;refine au (cH rfl N y) fun w6 A=>?_;go_wp2_with fail;refine au (GP g _) fun w' Y=>?_;subst w';go_wp2_with fail;go_ret;have o:=nB a.out.nw A;exact⟨_,a9,rfl,a.out.tp,a.out.ac,o.out.sp,o.out.kt,o.out.bl⟩
   |true=>
    have cP:=a6 g;go_wp2_with fail;refine au (cH rfl N y) fun w6 A=>?_;have o:=nB a.out.nw A;go_wp2_with fail;refine au (GP g _) fun w' Y=>?_;subst w';go_wp2_with fail;refine au (cH rfl o y) fun cz T=>?_;have H:=nB o T;go_wp2_with fail;refine au (I0 _ g (a5 _) _) fun w' Y=>?_;subst w';go_wp2_with fail;go_ret;exact⟨_,a9,rfl,a.out.tp,a.out.ac,H.out.sp,H.out.kt,H.out.bl⟩
  |@go am _ e _ _ an cN y g a6 ca d3 al a0=>
   have N:=J.nw;have a:=cK J a0;have b9:=a0.le;rw[ag,Fo.sz_app]at b9;have c5:¬sH (E.tk c).k<p:=by omega
   have b8:(E.tk c).k≠6:=fun G=>by rw[G]at g;revert g;decide
   clear J a4 a0;go_wp2_with fail;refine au (cH rfl N y) fun w6 A=>?_;have o:=nB N A;have cn:=tB a.out.1.tb A;go_wp2_with fail;refine au (GP g _) fun w' Y=>?_;subst w';go_wp2_with fail;refine au (cH rfl o y) fun cz T=>?_;have H:=nB o T;have b5:=tB cn T;go_wp2_with fail;refine au (I0 _ g (a5 _) _) fun w' Y=>?_;subst w';clear A T;go_wp2_with fail;refine au (co rfl H y b8) fun bh ar=>?_;have ct:=nX H ar;have ck:=tK b5 ar.2.1;clear ar;have bb:=tB ck (ax bh (.cells (bg (E.tk c).k (E.tk c)) 45));obtain⟨c3,a3,ao,cq⟩:=iV (w:=bh) (q:=c) rfl ct;rw[a3]at bb;simp only[bg]at a3;go_wp2_with fail;clear a3;refine(ca _ _ _ ao.out.sp (by rw[a.out.1.ac.len];omega)).mono ?_;rintro G d2 ⟨I,c2,rfl,ap,K⟩;have cb:=nP ao K;have C:=nL ao K;have cr:=tK cq K.kt;have bd:=tK bb K.kt;clear K;obtain⟨dk,dn,c7,df,c9,d1⟩:=tC bd rfl;go_wp2_with fail;refine au (bQ (q:=i) rfl _ _) fun dq V=>?_;have a2:=nB cb V;have cx:=tB cr V;have a1:=tB bd V;clear V;have bk:=tA cx (k:=(E.tk c).k) rfl;have bw:=fun cs=>(bk cs).1;clear bk;have cT:IntKind.i64.wrap ((E.tk c).k-60)=(E.tk c).k-60:=by rw[IntKind.wrap_i64];have:=a5 c;have:(E.tk c).k=10\/(E.tk c).k=26\/60<(E.tk c).k:=of_decide_eq_true g;omega
   by_cases O:(E.tk c).k=10
   ·rw[O]at bw;go_wp2_with fail;refine(yj [h,I] _ rfl (by simp) a2 (by omega) al ⟨28,(E.tk i).f,0,(E.tk i).l,0,0,⟨#[]⟩,[],[h,I]⟩ 2 rfl rfl rfl (by rw[C.out.len,a.out.1.ac.len];omega) (gV (E.tk c).k (E.tk i) (E.tk (e-1)).t) (a.out.1.ac.app C.out) (by rw[Fo.tops_app,a.out.1.tp,<-a.out.1.ac.len,ap];unfold gV;rw[if_pos O];rfl)).mono ?_;rintro G Q ⟨u,r,rfl,s,d,v⟩;have S:Hid (iX E W L B Q e W.heap.size i r (one (gV (E.tk c).k (E.tk i) (E.tk (e-1)).t) (X.app an)) u):=⟨⟨d.out.sp,d.out.kt,d.out.bl⟩,d.out.ac,s,tK a1 v⟩;clear s d v;go_wp2_with fail;go_roundg am
    case measure=>omega
    case rel=>exact⟨e,_,u,r,rfl,a.out.2,S.out⟩
   by_cases af:(E.tk c).k=26
   ·rw[af]at bw;go_wp2_with fail;refine(yj [h,I] _ rfl (by simp) a2 (by omega) al ⟨29,(E.tk i).f,0,(E.tk i).l,0,0,⟨#[]⟩,[],[h,I]⟩ 2 rfl rfl rfl (by rw[C.out.len,a.out.1.ac.len];omega) (gV (E.tk c).k (E.tk i) (E.tk (e-1)).t) (a.out.1.ac.app C.out) (by rw[Fo.tops_app,a.out.1.tp,<-a.out.1.ac.len,ap];unfold gV;rw[if_neg O,if_pos af];rfl)).mono ?_;rintro G Q ⟨u,r,rfl,s,d,v⟩;have S:Hid (iX E W L B Q e W.heap.size i r (one (gV (E.tk c).k (E.tk i) (E.tk (e-1)).t) (X.app an)) u):=⟨⟨d.out.sp,d.out.kt,d.out.bl⟩,d.out.ac,s,tK a1 v⟩;clear s d v;go_wp2_with fail;go_roundg am
    case measure=>omega
    case rel=>exact⟨e,_,u,r,rfl,a.out.2,S.out⟩
   ·have ds:((E.tk c).k==10)=false:=by simp[O]
    have cB:((E.tk c).k==26)=false:=by simp[af]
    go_wp2_with fail;refine(yj [h,I] _ rfl (by simp) a2 (by omega) al ⟨31,(E.tk i).f,0,(E.tk i).l,(E.tk c).k-60,0,⟨#[]⟩,[],[h,I]⟩ 2 rfl rfl rfl (by rw[C.out.len,a.out.1.ac.len];omega) (gV (E.tk c).k (E.tk i) (E.tk (e-1)).t) (a.out.1.ac.app C.out) (by rw[Fo.tops_app,a.out.1.tp,<-a.out.1.ac.len,ap];unfold gV;rw[if_neg O,if_neg af];rfl)).mono ?_;rintro G Q ⟨u,r,rfl,s,d,v⟩;have S:Hid (iX E W L B Q e W.heap.size i r (one (gV (E.tk c).k (E.tk i) (E.tk (e-1)).t) (X.app an)) u):=⟨⟨d.out.sp,d.out.kt,d.out.bl⟩,d.out.ac,s,tK a1 v⟩;clear s d v;go_wp2_with fail;go_roundg am
    case measure=>omega
    case rel=>exact⟨e,_,u,r,rfl,a.out.2,S.out⟩
end
section
variable {E : Pe} {W w w' : World} {i j : Nat} {L L1 L' : List Mb} {B B' : List (Nat × Array Value)}
theorem B2(h:Hid (bU E W w i L1 B))(x:1<=i)(y:i<=E.n)(N:Nd)(d o:Option Addr)(m a c f:Nat)(on:w.ownsRow E.base 9 1 (.slice d m a) N.nm.length (N.nm.map Value.string))(u:w.ownsRow E.base 3 1 (.slice o c f) N.ks.length (N.ks.map (Value.int .i64)))(v:L1.length<=50000000)(fn:Fr W.heap.size (.slice d m a))(r:Fr W.heap.size (.slice o c f))(g:Nd){R:Fo}(ac:Ac W.heap.size L L1 R)(s:({N with t:=(E.tk (i-1)).t}:Nd)={g with ks:=R.tops L.length}):
  Calls Tryz.prog 100 #[pV E,.agg (aW N (.slice d m a) (.slice o c f))] w fun e w'=>∃z L',e= .returned (.int .i64 z)/\(one g R).tops L.length=[z]/\Hid (xY E W w' L L' B (one g R) i)/\Kt w w':=by
 refine(GO h.out.sp x y N d o m a c f on u v).mono ?_;rintro e w' ⟨rfl,p,k,b⟩;rw[s]at p;exact⟨_,_,rfl,by rw[kG,ac.len],⟨ac.add g fn r,p,h.out.kt.trans k,h.out.bl.trans b⟩,k⟩
theorem Ac.top{s:Nat}{N:Nd}{ks:Fo}(h:Ac s L L1 (one N ks)):∃a,L1[L.length+ks.sz]?=some a/\a.N.k=N.k:=by
 obtain⟨c,rfl,d,_⟩:=h;rw[ua]at d;have g:c.length=ks.sz+1:=by have q:=congrArg List.length d;rw[List.length_map,List.length_append,Fo.flat_len]at q;exact q
 obtain⟨a,e⟩:∃a,c[ks.sz]?=some a:=⟨c[ks.sz]'(by omega),List.getElem?_eq_getElem _⟩;refine⟨a,by rw[List.getElem?_append_right (by omega),Nat.add_sub_cancel_left];exact e,?_⟩;have q:(c.map Mb.N)[ks.sz]?=some a.N:=by rw[List.getElem?_map,e];rfl
 rw[d,List.getElem?_append_right (by rw[Fo.flat_len];exact Nat.le_refl _),Fo.flat_len,Nat.sub_self]at q;have f:=Option.some.inj q;rw[<-f]
theorem Sp.kindAt(h:Sp E w i L B){q:Nat}{d:Mb}(c:L[q]?=some d):∃g cap,w.cell? ⟨E.pb,2,none⟩=some (.slice (some ⟨g,0,none⟩) L.length cap)/\w.cell? ⟨g,q*9,none⟩=some (.int .i64 d.N.k)/\q<L.length:=by
 obtain⟨o,e,a,p⟩:=h.row;have f:=(List.getElem?_eq_some_iff.1 c).1;rcases ay a with⟨m,rfl⟩|⟨g,cap,rfl⟩
 ·omega
 ·exact⟨g,cap,by rw[cell_of_row _ _ _ _ _ _ e];rfl,(gc a c).1,f⟩
end
inductive Ps (E:Pe) (C D:Nat->Fo->Nat->Prop) (s:Tk):Nat->Fo->Nat->Fo->Nat->Prop where
 |stop {X:Fo}{k:Nat}:k<E.n->wj (E.tk k).k=false->Ps E C D s 0 X k X k
 |dot {m k j:Nat}{X R:Fo}:(E.tk k).k=48->(E.tk (k+1)).k=1->k+2<E.n->Ps E C D s m (one (nd 33 s (E.tk (k+1)).t 0 0 (E.tk (k+1)).x []) X) (k+2) R j->Ps E C D s (m+1) X k R j
 |sq {m k k1 j:Nat}{X Y R:Fo}:(E.tk k).k=44->k<E.n->C (k+1) Y k1->(E.tk k1).k=45->k1+1<E.n->Ps E C D s m (one (bH 32 s (E.tk k1).t) (X.app Y)) (k1+1) R j->Ps E C D s (m+1) X k R j
 |call0 {m k j:Nat}{X R:Fo}:(E.tk k).k=40->(E.tk (k+1)).k=41->k+2<E.n->Ps E C D s m (one (bH 34 s (E.tk (k+1)).t) X) (k+2) R j->Ps E C D s (m+1) X k R j
 |call {m k k1 j:Nat}{X Y R:Fo}:(E.tk k).k=40->k+1<E.n->(E.tk (k+1)).k≠41->D (k+1) Y k1->(E.tk k1).k=41->k1+1<E.n->Ps E C D s m (one (bH 34 s (E.tk k1).t) (X.app Y)) (k1+1) R j->Ps E C D s (m+1) X k R j
theorem Ps.le{E:Pe}{C D:Nat->Fo->Nat->Prop}{s:Tk}{m k j:Nat}{X R:Fo}(h:Ps E C D s m X k R j):X.sz<=R.sz:=by
 induction h with
 |stop=>exact Nat.le_refl _
 |dot _ _ _ _ a=>rw[ag]at a;omega
 |sq _ _ _ _ _ _ a=>rw[ag,Fo.sz_app]at a;omega
 |call0 _ _ _ _ a=>rw[ag]at a;omega
 |call _ _ _ _ _ _ _ a=>rw[ag,Fo.sz_app]at a;omega
section
variable {E : Pe} {W w w' w6 : World} {i j k k' : Nat} {L L1 L2 : List Mb} {B : List (Nat × Array Value)} {F : Fo} {l : List Int} {av : Option Addr} {n cv : Nat} {z : Int}
abbrev CB(E:Pe)(i:Nat)(x:Fo)(j:Nat):Prop:=CI E 105 #[pV E] i x j
abbrev Ca(E:Pe)(i:Nat)(x:Fo)(j:Nat):Prop:=CL E 99 #[pV E] i x j
structure bJ (E:Pe) (W:World) (L:List Mb) (B:List (Nat×Array Value)) (w:World) (k:Nat) (L1:List Mb) (F:Fo) (l:List Int) (av:Option Addr) (n cv:Nat):Prop where
 nw:Hid (bU E W w k L1 B)
 ac:Ac W.heap.size L L1 F
 ln:l.length=n
 ow:w.ownsRow E.base 3 1 (.slice av n cv) n (l.map (Value.int .i64))
 fr:Fr W.heap.size (.slice av n cv)
 sv:Sv (.slice av n cv) L1
theorem bJ.below(h:bJ E W L B w k L1 F l av n cv)(b:Below w.heap.size w w'):bJ E W L B w' k L1 F l av n cv:=⟨nB h.nw b,h.ac,h.ln,ai h.ow b,h.fr,h.sv⟩
theorem bJ.move(h:bJ E W L B w k L1 F l av n cv)(q:Sp E w' k' L1 B/\Kt w w'/\Below E.base w w'):bJ E W L B w' k' L1 F l av n cv:=⟨nX h.nw q,h.ac,h.ln,q.2.1.row h.ow (by decide) (by decide),h.fr,h.sv⟩
theorem bJ.up{x:Fo}(h:bJ E W L B w k L1 F l av n cv)(p:xY E w w' L1 L2 B x k'):bJ E W L B w' k' L2 (F.app x) l av n cv:=
 ⟨nP h.nw p,h.ac.app (nL h.nw p).out,h.ln,p.kt.row h.ow (by decide) (by decide),h.fr,h.sv.next p.ac (fun c a=>(h.ow.lt c a).2)⟩
theorem bJ.put{g cap:Nat}{o:Obj}(h:bJ E W L B w k L1 F l av n cv)(f:w6.ownsRow E.base 3 1 (.slice (some ⟨g,0,none⟩) (n+1) cap) (n+1) ((l++[z]).map (Value.int .i64)))(m:(w.alloc o).grownBy w6 (Value.slice av n cv).ownBlock)(a:(Value.slice av n cv).ownBlock=some g\/g=(w.alloc o).heap.size):bJ E W L B w6 k L1 F (l++[z]) (some ⟨g,0,none⟩) (n+1) cap:=by
 have s:=h.nw.out.kt.size;refine⟨nG (nB h.nw (ax w o)) (ai h.ow (ax w o)) m h.fr h.sv,h.ac,by rw[List.length_append,h.ln];rfl,f,?_,?_⟩
 ·rcases a with e|e
  ·exact Fr.new (h.fr g e)
  ·exact Fr.new (by rw[e,World.size_alloc];omega)
 ·rcases a with e|e
  ·intro r d p c;exact h.sv r d p (by rw[e];exact c)
  ·exact iB (h.nw.out.sp.below (ax w o)) (by omega)
structure dN (E:Pe) (w:World) (v:Value) (xs:List Int) (u:Value):Prop where
 ow:w.ownsRow E.base 3 1 v xs.length (xs.map (Value.int .i64))
 ne:∀g,v.ownBlock=some g->u.ownBlock≠some g
theorem dN.put{v u:Value}{a:List Int}{g m c:Nat}{o:Obj}(h:dN E w v a u)(r:(w.alloc o).grownBy w6 u.ownBlock)(f:u.ownBlock=some g\/g=(w.alloc o).heap.size):dN E w6 v a (.slice (some ⟨g,0,none⟩) m c):=by
 refine⟨(ai h.ow (ax w o)).kept r ?_,fun p d e=>?_⟩
 ·cases hv:v.ownBlock with
  |none=>exact .inl rfl
  |some q=>exact .inr (fun e=>h.ne q hv e.symm)
 ·obtain rfl:g=p:=by simpa [Value.ownBlock] using e
  rcases f with e|e
  ·exact h.ne g d e
  ·have:=((ai h.ow (ax w o)).lt g d).2;omega
theorem dN.kt{v u:Value}{a:List Int}(h:dN E w v a u)(q:Kt w w'):dN E w' v a u:=⟨q.row h.ow (by decide) (by decide),h.ne⟩
theorem dN.at{u:Value}{a:List Int}{g m c:Nat}(h:dN E w (.slice (some ⟨g,0,none⟩) m c) a u){q:Nat}{x:Int}(e:a[q]?=some x):w.cell? ⟨g,q,none⟩=some (.int .i64 x):=by
 have:=h.ow.cells rfl q (.int .i64 x) (by rw[List.getElem?_map,e];rfl);have d:(⟨g,0,none⟩:Addr).add q=⟨g,q,none⟩:=by unfold Addr.add;split<;>simp_all
 rw[d]at this;exact this
theorem bJ.box{b:Nat}{N:Nd}{vn vk:Value}(h:bJ E W L ((b,aW N vn vk)::B) w k L1 F l av n cv)(d:E.base<=b)(v:Value):bJ E W L ((b,aW N vn v)::B) (w.setCell ⟨b,8,none⟩ v) k L1 F l av n cv/\Kt w (w.setCell ⟨b,8,none⟩ v):=by
 obtain⟨c,a⟩:=nK h.nw d v;exact⟨⟨c,h.ac,h.ln,a.row h.ow (by decide) (by decide),h.fr,h.sv⟩,a⟩
theorem bJ.boxq{b q:Nat}{cs:Array Value}(h:bJ E W L ((b,cs)::B) w k L1 F l av n cv)(c:E.base<=b)(v:Value):bJ E W L ((b,cs.setIfInBounds q v)::B) (w.setCell ⟨b,q,none⟩ v) k L1 F l av n cv/\Kt w (w.setCell ⟨b,q,none⟩ v):=by
 have a:=h.nw.out.sp.kset q v;exact⟨⟨nS h.nw c q v,h.ac,h.ln,a.row h.ow (by decide) (by decide),h.fr,h.sv⟩,a⟩
theorem bJ.boxk{b d:Nat}{N:Nd}{vn vk:Value}{T:Tk}(h:bJ E W L ((b,aW N vn vk)::B) w k L1 F l av n cv)(g:E.base<=b)(a:Int)(t:Hid (TB w d T)):∃c,w.setCell ⟨b,0,none⟩ (.int .i64 a)=c/\Hid (bJ E W L ((b,aW {N with k:=a} vn vk)::B) c k L1 F l av n cv)/\Hid (TB c d T):=by
 obtain⟨e,f⟩:=h.boxq (q:=0) g (.int .i64 a);exact⟨_,rfl,e,tK t f⟩
end
section
variable {E : Pe} {W w w' : World} {i j k b q : Nat} {L L1 : List Mb} {B : List (Nat × Array Value)} {X : Fo} {z : Int}
theorem G4(h:Hid (iX E W L B w k b q L1 X z))(N:Nd):∃a,((w.alloc (.cells (aW N s0 (.slice (some ⟨w.heap.size+1,0,none⟩) 1 1)) 69)).alloc (.cells #[.int .i64 z] 3))=a/\Hid (bJ E W L ((w.heap.size,aW N s0 (.slice (some ⟨w.heap.size+1,0,none⟩) 1 1))::B) a k L1 X [z] (some ⟨w.heap.size+1,0,none⟩) 1 1)/\Hid (TB a b (E.tk q)):=by
 have e:=nA h.out.nw (aW N s0 (.slice (some ⟨w.heap.size+1,0,none⟩) 1 1));have f:=ax w (.cells (aW N s0 (.slice (some ⟨w.heap.size+1,0,none⟩) 1 1)) 69);have c:=ax (w.alloc (.cells (aW N s0 (.slice (some ⟨w.heap.size+1,0,none⟩) 1 1)) 69)) (.cells #[.int .i64 z] 3);have d:=fY (w.alloc (.cells (aW N s0 (.slice (some ⟨w.heap.size+1,0,none⟩) 1 1)) 69)) [z] 1 rfl (by decide);rw[World.size_alloc]at d;have g:=h.out.nw.out.kt.size;exact⟨_,rfl,⟨nB e c,h.out.ac,rfl,cU d (by have:=h.out.nw.out.sp.lt.2;omega),Fr.new (by omega),iB h.out.nw.out.sp (by omega)⟩,tB (tB h.out.tb f) c⟩
theorem tG{F:Fo}{l:List Int}{av:Option Addr}{n cv:Nat}{T:Tk}{o:Obj}{w6:World}(h:bJ E W L B w k L1 F l av n cv)(t:Hid (TB w b T))(c:(w.alloc o).grownBy w6 (Value.slice av n cv).ownBlock):Hid (TB w6 b T):=
 (c.block b (by have:=lt_of_block t.out;rw[World.size_alloc];omega) (fun a=>bZ h.ow t.out (by decide) a.symm)).trans (tB t (ax w o)).out
theorem Cb{F Y:Fo}{l:List Int}{av:Option Addr}{n cv:Nat}{v:Value}{a:List Int}{d:World}(h:bJ E W L B d k L1 F l av n cv)(o:w.ownsRow E.base 3 1 v a.length (a.map (Value.int .i64)))(f:Fr d.heap.size v):dN E w v a (.slice av n cv):=⟨o,fun c g e=>by have:=f c g;have:=(h.ow.lt c e).2;omega⟩
theorem FQ{ex:Int}{R:Fo}{m:Nat}(C:(E.tk i).k=ex)(i3:i<E.n)(hM:(ex=1/\k=i+1/\X=one (nd 26 (E.tk i) (E.tk i).t 0 0 (E.tk i).x []) .nil)\/(ex=40/\∃N ks a2,wC E (i+1) (one N ks) a2/\(E.tk a2).k=41/\k=a2+1/\i+1<=a2/\X=dE N ks (E.tk i) (E.tk a2).t))(h6:k<E.n)(b2:Ps E (wC E) (Ca E) (E.tk i) m X k R j):CB E i R j:=by
 intro W L B f6 h5;have c4:=bU.start f6;have bA:Hid (Ps E (wC E) (Ca E) (E.tk i) m X k R j):=b2;have fm:=b2.le;clear f6 b2;rcases hM with⟨rfl,ev,cb⟩|⟨rfl,N,ks,a2,df,ge,ev,i7,cb⟩
 case' inl=>
  subst cb ev;go_in;go_wp2_with fail;refine au (dc C c4 (by omega) (by omega)) fun p ct=>?_;obtain⟨gu,ca,bo,a9⟩:=iV (w:=p) C ct;simp only[bg]at ca;obtain⟨bd,a7,a8,a1,ar,bh⟩:=tC a9 C;go_wp2_with fail;refine au (bQ C _ _) fun hb d1=>?_;have ds:=tA (tB a9 d1) C;have bt:=fun hC=>(ds hC).2.2.2.2.2;clear ds ca;go_wp2_with fail;refine(B2 (nA (nB bo d1) _) (by omega) (by omega) ⟨26,(E.tk i).f,0,(E.tk i).l,0,0,(E.tk i).x,[],[]⟩ none none 0 0 0 0 (World.ownsRow_nil _ _ _ _) (World.ownsRow_nil _ _ _ _) (by rw[ag]at fm;omega) (Fr.nil _ _ _) (Fr.nil _ _ _) (nd 26 (E.tk i) (E.tk i).t 0 0 (E.tk i).x []) (Ac.nil _ L) rfl).mono ?_;rintro al fu ⟨z,V,rfl,bk,cT,f7⟩;have dn:Hid (∃k X V m,Ps E (wC E) (Ca E) (E.tk i) m X k R j/\iX E W L B fu k p.heap.size i V X z):=⟨_,_,V,m,bA.out,⟨(pT cT).out.sp,cT.out.kt,cT.out.bl⟩,cT.out.ac,bk,tK (tB (tB a9 d1) (ax _ _)) f7⟩;clear bA cT f7 bk d1 a9 bo ct c4 fm bd a7 a8 a1 ar bh bt;go_wp2_with fail
 case' inr=>
  subst ev;rcases(by omega:N.k=34\/N.k=27\/(N.k≠34/\N.k≠27)) with hN|hN|hN;all_goals
   go_in;go_wp2_with fail;refine au (dc C c4 (by omega) (by omega)) fun p ct=>?_;obtain⟨gu,ca,bo,a9⟩:=iV (w:=p) C ct;simp only[bg]at ca;obtain⟨bd,a7,a8,a1,ar,bh⟩:=tC a9 C;have hZ:(one N ks).sz<=X.sz:=by rw[cb];unfold dE;split<;>simp only[ag]<;>omega
   go_wp2_with fail;refine(df _ _ _ bo.out.sp (by omega)).mono ?_;rintro al hb ⟨z,fa,rfl,bk,c3⟩;have d2:=nP bo c3;have ac:=nL bo c3;have f0:=tK a9 c3.kt;clear c3 ca bd a7 a8 a1 ar bh;go_wp2_with fail;refine au (co ge d2 (by omega) (by omega)) fun w6 d9=>?_;have cr:=nX d2 d9;have c9:=tK f0 d9.2.1;clear d9;obtain⟨bd,a7,a8,a1,ar,bh⟩:=tC c9 C;obtain⟨ds,fo,fn⟩:=ac.out.top;obtain⟨cF,hB,gr,d5,e5⟩:=cr.out.sp.kindAt fo;obtain⟨gs,hE,hw⟩:=cr.out.sp.cells;obtain⟨q,ep⟩:=ah (L.length+ks.sz);have g8:z=(q:Int):=by rw[kG,ep]at bk;exact(List.cons.inj bk).1.symm
   rw[fn,ep]at d5;rw[ep]at e5;subst g8;have hT:(0:Int)<=(q:Int):=by omega
   have gz:(q:Int)<(fa.length:Int):=by omega
   first
    |rw[hN]at d5
    |(obtain⟨hG,gb⟩:=hN;have ii:(N.k==34)=false:=by simp[hG]
      have i0:(N.k==27)=false:=by simp[gb])
   clear fo fn ds;go_wp2_with fail;first
    |(refine(bQ C _ _).mono ?_
      rintro al fu ⟨rfl,ey⟩;have e7:=nB cr ey;have fz:=tB c9 ey;clear ey;have cB:X=one (bH 37 (E.tk i) (E.tk a2).t) (one N ks):=by rw[cb];unfold dE;rw[if_pos (by omega)]
      go_wp2_with fail;refine(yj [(q:Int)] _ rfl (by simp) e7 (by omega) (by omega) ⟨37,(E.tk i).f,0,(E.tk i).l,0,0,⟨#[]⟩,[],[(q:Int)]⟩ 1 rfl rfl rfl (by rw[ac.out.len];omega) (bH 37 (E.tk i) (E.tk a2).t) ac.out (by rw[bk];rfl)).mono ?_;rintro al ht ⟨z,hR,rfl,f5,ch,fB⟩;rw[cB]at bA;have dn:Hid (∃k X V m,Ps E (wC E) (Ca E) (E.tk i) m X k R j/\iX E W L B ht k p.heap.size i V X z):=⟨_,_,hR,m,bA.out,⟨ch.out.sp,ch.out.kt,ch.out.bl⟩,ch.out.ac,f5,tK fz fB⟩;clear ch fB e7 fz cB f5;go_wp2_with fail)
    |(have cB:X=one N ks:=by rw[cb];unfold dE;rw[if_neg (by omega)]
      rw[cB]at bA;have dn:Hid (∃k X V m,Ps E (wC E) (Ca E) (E.tk i) m X k R j/\iX E W L B w6 k p.heap.size i V X (q:Int)):=⟨_,_,fa,m,bA.out,cr,ac.out,bk,c9⟩;clear cB)
   clear bA bk cr c9 d2 f0 bo a9 ct c4 ac bd a7 a8 a1 ar bh gs hE gr hw d5
 all_goals
  obtain⟨k,X,V,m,b2,fA⟩:=dn.out;have e6:=cK b2 fA;clear dn b2 fA;go_loopg [3] m (fun gk gf wr=>∃(k:Nat) (X:Fo) (h:Int) (L1:List Mb),gf= .int .i64 h/\Hid (Ps E (wC E) (Ca E) (E.tk i) gk X k R j/\iX E W L B wr k p.heap.size i L1 X h))
  case atStart=>exact⟨k,X,_,V,rfl,e6.out⟩
  case round=>
   clear e6;obtain⟨o,I,h,cc,rfl,f3⟩:=hrel;obtain⟨e3,c6⟩:=f3.out;have ed:=c6.tb;have am:Hid (iX E W L B wr o p.heap.size i cc I h):=c6;have b6:Hid (cc.length=L.length+I.sz):=c6.ac.len;clear c6 f3;obtain⟨bd,a7,a8,a1,ar,bh⟩:=tC ed C;go_wp2_with fail;refine au (bQ C _ _) fun a ef=>?_;have fk:Hid (iX E W L B a o p.heap.size i cc I h):=⟨nB am.out.nw ef,am.out.ac,am.out.tp,tB ed ef⟩;clear ef bd a7 a8 a1 ar bh ed;have b1:Hid (E.base<=a.heap.size):=fk.out.nw.out.sp.lt.2;obtain⟨iy,b3,T,cs⟩:=G4 fk (nN 33 (E.tk i));simp only[aW]at b3;have ih:=e3.le;cases e3 with
   |stop G A=>
    have i8:((E.tk j).k==48)=false:=by have:=of_decide_eq_false A;simp;omega
    have h7:((E.tk j).k==44)=false:=by have:=of_decide_eq_false A;simp;omega
    have i5:((E.tk j).k==40)=false:=by have:=of_decide_eq_false A;simp;omega
    go_wp2_with fail;refine au (cH rfl T.out.nw (by omega)) fun an d=>?_;have s:Hid (bJ E W L ((a.heap.size,aW (nN 33 (E.tk i)) s0 (.slice (some ⟨a.heap.size+1,0,none⟩) 1 1))::B) an _ _ _ _ (some ⟨a.heap.size+1,0,none⟩) 1 1):=T.out.below d;have a6:=tB cs d;clear d;clear b3;go_wp2_with fail;go_ret;exact⟨_,cc,rfl,am.out.tp,am.out.ac,s.out.nw.out.sp.tail,s.out.nw.out.kt,s.out.nw.out.bl⟩
   |@dot bw _ _ _ _ G A b8 u=>
    go_wp2_with fail;refine au (cH G T.out.nw (by omega)) fun an d=>?_;have s:Hid (bJ E W L ((a.heap.size,aW (nN 33 (E.tk i)) s0 (.slice (some ⟨a.heap.size+1,0,none⟩) 1 1))::B) an _ _ _ _ (some ⟨a.heap.size+1,0,none⟩) 1 1):=T.out.below d;have a6:=tB cs d;clear d;clear b3;go_wp2_with fail;refine au (co G s.out.nw (by omega) (by omega)) fun bE c=>?_;have O:Hid (bJ E W L ((a.heap.size,aW (nN 33 (E.tk i)) s0 (.slice (some ⟨a.heap.size+1,0,none⟩) 1 1))::B) bE _ _ _ _ (some ⟨a.heap.size+1,0,none⟩) 1 1):=s.out.move c;have br:=tK a6 c.2.1;clear c;go_wp2_with fail;refine au (co A O.out.nw (by omega) (by omega)) fun ak c=>?_;have v:Hid (bJ E W L ((a.heap.size,aW (nN 33 (E.tk i)) s0 (.slice (some ⟨a.heap.size+1,0,none⟩) 1 1))::B) ak _ _ _ _ (some ⟨a.heap.size+1,0,none⟩) 1 1):=O.out.move c;have bs:=tK br c.2.1;clear c;obtain⟨bN,e1,h4,hD⟩:=iV (w:=ak) A v.out.nw;have a0:=tB bs (ax ak (.cells (bg 1 (E.tk (o+1))) 45));have y:Hid (bJ E W L _ (ak.alloc (.cells (bg 1 (E.tk (o+1))) 45)) _ _ _ _ _ _ _):=v.out.below (ax ak (.cells (bg 1 (E.tk (o+1))) 45));rw[e1]at a0 y;simp only[bg]at e1;obtain⟨bd,a7,a8,a1,ar,bh⟩:=tC hD A;obtain⟨cN,cP,cI,cl,cq,bt,cg,cz,cm,cw⟩:=nC y.out.nw;obtain⟨f8,fq⟩:=y.out.boxq (q:=6) b1.out (.string (E.tk (o+1)).x);have g:Hid (bJ E W L ((a.heap.size,aW ⟨33,(E.tk i).f,0,(E.tk i).l,0,0,(E.tk (o+1)).x,[],[h]⟩ s0 (.slice (some ⟨a.heap.size+1,0,none⟩) 1 1))::B) _ _ _ _ _ _ _ _):=f8;have a3:=tK a0 fq;clear f8 fq;obtain⟨el,es,ea,eN,eg,eq,ec,eh,d4,d6⟩:=nC g.out.nw;go_wp2_with fail;clear e1;refine(B2 g.out.nw (by omega) (by omega) ⟨33,(E.tk i).f,0,(E.tk i).l,0,0,(E.tk (o+1)).x,[],[h]⟩ none _ 0 0 1 1 (World.ownsRow_nil _ _ _ _) g.out.ow (by have:=b6.out;have q:=u.le;rw[ag]at q;omega) (Fr.nil _ _ _) g.out.fr (nd 33 (E.tk i) (E.tk (o+1)).t 0 0 (E.tk (o+1)).x []) g.out.ac (by rw[am.out.tp];rfl)).mono ?_;rintro al bx ⟨K,S,rfl,Q,e,J⟩;have bD:Hid (iX E W L B bx (o+2) p.heap.size i S (one (nd 33 (E.tk i) (E.tk (o+1)).t 0 0 (E.tk (o+1)).x []) I) K):=⟨⟨(pT e).out.sp,e.out.kt,e.out.bl⟩,e.out.ac,Q,tK a3 J⟩;clear e J Q;go_wp2_with fail;go_roundg bw
    case measure=>omega
    case rel=>exact⟨o+2,_,K,S,rfl,u,bD.out⟩
   |@sq bw _ M _ _ Y _ G A b8 e2 fd u=>
    go_wp2_with fail;refine au (cH G T.out.nw (by omega)) fun an d=>?_;have s:Hid (bJ E W L ((a.heap.size,aW (nN 33 (E.tk i)) s0 (.slice (some ⟨a.heap.size+1,0,none⟩) 1 1))::B) an _ _ _ _ (some ⟨a.heap.size+1,0,none⟩) 1 1):=T.out.below d;have a6:=tB cs d;clear d;clear b3;go_wp2_with fail;refine au (co G s.out.nw (by omega) (by omega)) fun bE c=>?_;have O:Hid (bJ E W L ((a.heap.size,aW (nN 33 (E.tk i)) s0 (.slice (some ⟨a.heap.size+1,0,none⟩) 1 1))::B) bE _ _ _ _ (some ⟨a.heap.size+1,0,none⟩) 1 1):=s.out.move c;have br:=tK a6 c.2.1;clear c;go_wp2_with fail;refine(b8 _ _ _ O.out.nw.out.sp (by have:=b6.out;have q:=u.le;simp only[ag,Fo.sz_app]at q;omega)).mono ?_;rintro al ak ⟨c8,h8,rfl,hd,d7⟩;have v:Hid (bJ E W L ((a.heap.size,aW (nN 33 (E.tk i)) s0 (.slice (some ⟨a.heap.size+1,0,none⟩) 1 1))::B) ak _ _ (I.app Y) _ (some ⟨a.heap.size+1,0,none⟩) 1 1):=O.out.up d7;have bs:=tK br d7.kt;clear d7;go_wp2_with fail;refine au (co e2 v.out.nw (by omega) (by omega)) fun bN c=>?_;have y:Hid (bJ E W L ((a.heap.size,aW (nN 33 (E.tk i)) s0 (.slice (some ⟨a.heap.size+1,0,none⟩) 1 1))::B) bN _ _ _ _ (some ⟨a.heap.size+1,0,none⟩) 1 1):=v.out.move c;have a0:=tK bs c.2.1;clear c;obtain⟨cN,cP,cI,cl,cq,bt,cg,cz,cm,cw⟩:=nC y.out.nw;obtain⟨bn,dq,g,a3⟩:=y.out.boxk b1.out 32 a0;obtain⟨el,es,ea,eN,eg,eq,ec,eh,d4,d6⟩:=nC g.out.nw;go_wp2_with (at_builtin;refine be rfl _ _ rfl E.base _ 1 1 [h] rfl rfl (ai g.out.ow (ax bn _)) (by rw[World.size_alloc];have:=g.out.nw.out.sp.lt.2;omega) bn.heap.size c8 rfl (heap_alloc_new bn _) (by decide) ?_;intro a4 Z fc cn ap b0;have H:Hid (bJ E W L _ fc _ _ _ [h,c8] (some ⟨a4,0,none⟩) 2 Z):=g.out.put cn ap b0;have he:=ap;obtain⟨gn,hy,hH,gm,ho,hA,hK,hu,hn,hp⟩:=nC H.out.nw;obtain⟨f1,hc⟩:=H.out.box b1.out (.slice (some ⟨a4,0,none⟩) 2 Z);obtain⟨hJ,gt,hP,hO,hI,hj,hW,hm,gp,hf⟩:=nC f1.nw;clear cn ap b0);have ao:Hid (bJ E W L _ _ _ _ _ [h,c8] (some ⟨a4,0,none⟩) 2 Z):=f1;have d0:Hid (TB fc p.heap.size (E.tk i)):=tG g.out a3 he;have ei:=tK d0 hc;refine(B2 ao.out.nw (by omega) (by omega) ⟨32,(E.tk i).f,0,(E.tk i).l,0,0,⟨#[]⟩,[],[h,c8]⟩ none _ 0 0 _ _ (World.ownsRow_nil _ _ _ _) (by have:=ao.out.ow;have q:=ao.out.ln;simpa [q] using this) (by have:=ao.out.ac.len;have q:=u.le;simp only[ag,Fo.sz_app]at q this;omega) (Fr.nil _ _ _) ao.out.fr (bH 32 (E.tk i) (E.tk M).t) ao.out.ac (by rw[Fo.tops_app,am.out.tp,<-b6.out,hd];rfl)).mono ?_;rintro al bx ⟨K,S,rfl,Q,e,J⟩;have bD:Hid (iX E W L B bx (M+1) p.heap.size i S (one (bH 32 (E.tk i) (E.tk M).t) (I.app Y)) K):=⟨⟨(pT e).out.sp,e.out.kt,e.out.bl⟩,e.out.ac,Q,tK ei J⟩;clear e J Q;go_wp2_with fail;go_roundg bw
    case measure=>omega
    case rel=>exact⟨M+1,_,K,S,rfl,u,bD.out⟩
   |@call0 bw _ _ _ _ G A b8 u=>
    go_wp2_with fail;refine au (cH G T.out.nw (by omega)) fun an d=>?_;have s:Hid (bJ E W L ((a.heap.size,aW (nN 33 (E.tk i)) s0 (.slice (some ⟨a.heap.size+1,0,none⟩) 1 1))::B) an _ _ _ _ (some ⟨a.heap.size+1,0,none⟩) 1 1):=T.out.below d;have a6:=tB cs d;clear d;clear b3;go_wp2_with fail;refine au (co G s.out.nw (by omega) (by omega)) fun bE c=>?_;have O:Hid (bJ E W L ((a.heap.size,aW (nN 33 (E.tk i)) s0 (.slice (some ⟨a.heap.size+1,0,none⟩) 1 1))::B) bE _ _ _ _ (some ⟨a.heap.size+1,0,none⟩) 1 1):=s.out.move c;have br:=tK a6 c.2.1;clear c;obtain⟨cN,cP,cI,cl,cq,bt,cg,cz,cm,cw⟩:=nC O.out.nw;obtain⟨ak,dq,v,bs⟩:=O.out.boxk b1.out 34 br;obtain⟨el,es,ea,eN,eg,eq,ec,eh,d4,d6⟩:=nC v.out.nw;go_wp2_with fail;refine au (cH A v.out.nw (by omega)) fun bN d=>?_;have y:Hid (bJ E W L ((a.heap.size,aW (nN 34 (E.tk i)) s0 (.slice (some ⟨a.heap.size+1,0,none⟩) 1 1))::B) bN _ _ _ _ (some ⟨a.heap.size+1,0,none⟩) 1 1):=v.out.below d;have a0:=tB bs d;clear d dq;go_wp2_with fail;refine au (co A y.out.nw (by omega) (by omega)) fun bn c=>?_;have g:Hid (bJ E W L ((a.heap.size,aW (nN 34 (E.tk i)) s0 (.slice (some ⟨a.heap.size+1,0,none⟩) 1 1))::B) bn _ _ _ _ (some ⟨a.heap.size+1,0,none⟩) 1 1):=y.out.move c;have a3:=tK a0 c.2.1;clear c;obtain⟨hJ,gt,hP,hO,hI,hj,hW,hm,gp,hf⟩:=nC g.out.nw;go_wp2_with fail;refine(B2 g.out.nw (by omega) (by omega) ⟨34,(E.tk i).f,0,(E.tk i).l,0,0,⟨#[]⟩,[],[h]⟩ none _ 0 0 _ _ (World.ownsRow_nil _ _ _ _) (by have:=g.out.ow;have q:=g.out.ln;simpa [q] using this) (by have:=g.out.ac.len;have q:=u.le;simp only[ag,Fo.sz_app]at q this;omega) (Fr.nil _ _ _) g.out.fr (bH 34 (E.tk i) (E.tk (o+1)).t) g.out.ac (by rw[am.out.tp];rfl)).mono ?_;rintro al bx ⟨K,S,rfl,Q,e,J⟩;have bD:Hid (iX E W L B bx (o+2) p.heap.size i S (one (bH 34 (E.tk i) (E.tk (o+1)).t) I) K):=⟨⟨(pT e).out.sp,e.out.kt,e.out.bl⟩,e.out.ac,Q,tK a3 J⟩;clear e J Q;go_wp2_with fail;go_roundg bw
    case measure=>omega
    case rel=>exact⟨o+2,_,K,S,rfl,u,bD.out⟩
   |@call bw _ M _ _ Y _ G A b8 e2 fd i2 u=>
    have h3:((E.tk (o+1)).k !=41)=true:=by simp[b8]
    go_wp2_with fail;refine au (cH G T.out.nw (by omega)) fun an d=>?_;have s:Hid (bJ E W L ((a.heap.size,aW (nN 33 (E.tk i)) s0 (.slice (some ⟨a.heap.size+1,0,none⟩) 1 1))::B) an _ _ _ _ (some ⟨a.heap.size+1,0,none⟩) 1 1):=T.out.below d;have a6:=tB cs d;clear d;clear b3;go_wp2_with fail;refine au (co G s.out.nw (by omega) (by omega)) fun bE c=>?_;have O:Hid (bJ E W L ((a.heap.size,aW (nN 33 (E.tk i)) s0 (.slice (some ⟨a.heap.size+1,0,none⟩) 1 1))::B) bE _ _ _ _ (some ⟨a.heap.size+1,0,none⟩) 1 1):=s.out.move c;have br:=tK a6 c.2.1;clear c;obtain⟨cN,cP,cI,cl,cq,bt,cg,cz,cm,cw⟩:=nC O.out.nw;obtain⟨ak,dq,v,bs⟩:=O.out.boxk b1.out 34 br;obtain⟨el,es,ea,eN,eg,eq,ec,eh,d4,d6⟩:=nC v.out.nw;go_wp2_with fail;refine au (cH rfl v.out.nw (by omega)) fun bN d=>?_;have y:Hid (bJ E W L ((a.heap.size,aW (nN 34 (E.tk i)) s0 (.slice (some ⟨a.heap.size+1,0,none⟩) 1 1))::B) bN _ _ _ _ (some ⟨a.heap.size+1,0,none⟩) 1 1):=v.out.below d;have a0:=tB bs d;clear d dq;go_wp2_with fail;refine(e2 _ _ _ y.out.nw.out.sp (by have:=b6.out;have q:=u.le;simp only[ag,Fo.sz_app]at q;omega)).mono ?_;rintro al bn ⟨hg,fb,rfl,⟨e9,_⟩,c7,e0⟩;obtain⟨af,d8⟩:=ah Y.len;obtain⟨r,b4⟩:=ah (Y.tops cc.length);have et:r.length=af:=by rw[<-b4,Fo.tops_len,d8]
    rw[d8,b4]at c7;have fg:Hid (dN E bn hg r (.slice (some ⟨a.heap.size+1,0,none⟩) 1 1)):=Cb (Y:=Y) y.out (by rw[et];exact c7) e9;have g:Hid (bJ E W L ((a.heap.size,aW (nN 34 (E.tk i)) s0 (.slice (some ⟨a.heap.size+1,0,none⟩) 1 1))::B) bn _ _ (I.app Y) _ (some ⟨a.heap.size+1,0,none⟩) 1 1):=y.out.up e0;have a3:=tK a0 e0.kt;have h9:af<=50000000:=by have q:=u.le;have i4:=Y.len_le;simp only[ag,Fo.sz_app]at q;omega
    have dk:=cK b4 et;obtain⟨ek,f9,rfl⟩:=aB c7;clear e0 e9 c7 b4 et d8;have ff:=cS g.out fg.out a3.out;clear g fg a3;go_wp2_with fail;go_loopw [95] (fun en wr=>∃(q cv:Nat) (av:Option Addr),q<=af/\en= .int .i64 q/\Hid (bJ E W L ((a.heap.size,aW (nN 34 (E.tk i)) s0 (.slice av (q+1) cv))::B) wr M fb (I.app Y) (h::r.take q) av (q+1) cv/\dN E wr (.slice ek af f9) r (.slice av (q+1) cv)/\TB wr p.heap.size (E.tk i))) (fun en _=>af-(intOf en).toNat)
    case atStart=>exact⟨0,1,_,Nat.zero_le _,rfl,ff⟩
    case round=>
     clear ff;obtain⟨q,cv,av,e5,rfl,e8⟩:=hrel;obtain⟨f2,e4,fF⟩:=e8.out;have H:Hid (bJ E W L ((a.heap.size,aW (nN 34 (E.tk i)) s0 (.slice av (q+1) cv))::B) _ M fb (I.app Y) (h::r.take q) av (q+1) cv):=f2;have d0:Hid (TB _ p.heap.size (E.tk i)):=fF;have eb:Hid (dN E _ (.slice ek af f9) r (.slice av (q+1) cv)):=e4;clear f2 e4 fF e8;by_cases g0:q<af
     ·obtain⟨x,df⟩:=aF dk.out.2 g0;obtain⟨cF,rfl⟩:∃cF,ek=some ⟨cF,0,none⟩:=by
       rcases ay eb.out.ow with⟨i1,_⟩|⟨cF,hB,gd⟩
       ·have:=dk.out.2;omega
       ·exact⟨cF,(Value.slice.inj gd).1⟩
      have i6:=eb.out.at df;have hT:(0:Int)<=(q:Int):=by omega
      have gz:(q:Int)<(af:Int):=by omega
      obtain⟨cN,cP,cI,cl,cq,bt,cg,cz,cm,cw⟩:=nC H.out.nw;have hh:q+1<=50000000:=by omega
      have hL:(h::r.take q).length=q+1:=H.out.ln;go_wp2_with (first|(at_builtin;refine be rfl _ _ rfl E.base _ (q+1) cv (h::r.take q) rfl hL (ai H.out.ow (ax _ _)) (by rw[World.size_alloc];have:=H.out.nw.out.sp.lt.2;omega) _ x rfl (heap_alloc_new _ _) hh ?_;intro a4 Z em cn ap b0;have ao:Hid (bJ E W L _ em _ _ _ (h::r.take q++[x]) (some ⟨a4,0,none⟩) (q+1+1) Z):=H.out.put cn ap b0;have gv:Hid (dN E em _ r (.slice (some ⟨a4,0,none⟩) (q+1+1) Z)):=eb.out.put ap b0;have ei:Hid (TB em p.heap.size (E.tk i)):=tG H.out d0 ap;obtain⟨gn,hy,hH,gm,ho,hA,hK,hu,hn,hp⟩:=nC ao.out.nw;obtain⟨hY,f4⟩:=ao.out.box b1.out (.slice (some ⟨a4,0,none⟩) (q+1+1) Z);clear cn ap b0)|fail);have d3:=tK ei f4;have hQ:Hid (dN E _ _ r (.slice (some ⟨a4,0,none⟩) (q+1+1) Z)):=gv.out.kt f4;have U:=hY;rw[show h::r.take q++[x]=h::r.take (q+1) by rw[List.take_add_one,df];rfl]at U;exact⟨⟨q+1,Z,_,by omega,by go_num,U,hQ.out,d3.out⟩,by simp[intOf];omega⟩
     ·obtain rfl:q=af:=by omega
      have b4:r.take q=r:=List.take_of_length_le (by rw[dk.out.2];exact Nat.le_refl _);rw[b4]at H;go_wp2_with fail;refine au (co fd H.out.nw (by omega) (by omega)) fun hV c=>?_;have U:Hid (bJ E W L ((a.heap.size,aW (nN 34 (E.tk i)) s0 (.slice av (q+1) cv))::B) hV _ _ _ _ av (q+1) cv):=H.out.move c;have d3:=tK d0 c.2.1;clear c;obtain⟨cN,cP,cI,cl,cq,bt,cg,cz,cm,cw⟩:=nC U.out.nw;go_wp2_with fail;refine(B2 U.out.nw (by omega) (by omega) ⟨34,(E.tk i).f,0,(E.tk i).l,0,0,⟨#[]⟩,[],h::r⟩ none _ 0 0 _ _ (World.ownsRow_nil _ _ _ _) (by rw[U.out.ln];exact U.out.ow) (by have:=U.out.ac.len;have q:=u.le;simp only[ag,Fo.sz_app]at q this;omega) (Fr.nil _ _ _) U.out.fr (bH 34 (E.tk i) (E.tk M).t) U.out.ac (by rw[Fo.tops_app,am.out.tp,<-b6.out,dk.out.1];rfl)).mono ?_;rintro al bx ⟨K,S,rfl,Q,e,J⟩;have bD:Hid (iX E W L B bx (M+1) p.heap.size i S (one (bH 34 (E.tk i) (E.tk M).t) (I.app Y)) K):=⟨⟨(pT e).out.sp,e.out.kt,e.out.bl⟩,e.out.ac,Q,tK d3 J⟩;clear e J Q;go_wp2_with fail;go_roundg bw
      case measure=>omega
      case rel=>exact⟨M+1,_,K,S,rfl,u,bD.out⟩
theorem Cc{R:Fo}{m:Nat}(a:(E.tk i).k=1)(d:i<E.n)(e:i+1<E.n)(c:Ps E (wC E) (Ca E) (E.tk i) m (one (nd 26 (E.tk i) (E.tk i).t 0 0 (E.tk i).x []) .nil) (i+1) R j):CB E i R j:=FQ a d (.inl ⟨rfl,rfl,rfl⟩) e c
theorem Cd{R:Fo}{m:Nat}{N:Nd}{ks:Fo}(d:(E.tk i).k=40)(g:i<E.n)(e:wC E (i+1) (one N ks) k)(h:(E.tk k).k=41)(f:i+1<=k)(c:k+1<E.n)(a:Ps E (wC E) (Ca E) (E.tk i) m (dE N ks (E.tk i) (E.tk k).t) (k+1) R j):CB E i R j:=FQ d g (.inr ⟨rfl,N,ks,k,e,h,rfl,f,rfl⟩) c a
end
section
variable {E : Pe} {i j : Nat}
def I1(E:Pe)(i:Nat)(w':World):Prop:=w'.cell? ⟨E.pb,0,none⟩=some (.slice (some ⟨E.tb,0,none⟩) E.n E.cap)/\w'.cell? ⟨E.pb,1,none⟩=some (.int .i64 (i:Int))/\w'.cell? ⟨E.tb,i*6,none⟩=some (.int .i64 (E.tk i).k)/\w'.cell? ⟨E.tb,i*6+1,none⟩=some (.int .i64 (E.tk i).f)/\w'.cell? ⟨E.tb,i*6+2,none⟩=some (.int .i64 (E.tk i).t)/\w'.cell? ⟨E.tb,i*6+3,none⟩=some (.int .i64 (E.tk i).l)/\w'.cell? ⟨E.tb,i*6+4,none⟩=some (.int .i64 (E.tk i).n)/\w'.cell? ⟨E.tb,i*6+5,none⟩=some (.string (E.tk i).x)
theorem Sp.cut{W:World}{L:List Mb}{B:List (Nat×Array Value)}(h:Sp E W i L B)(p:i<E.n)(o:(E.tk i).k≠6):I1 E i W:=by
 obtain⟨g,r,s⟩:=h.cells;obtain⟨f,a,e,d,m,c⟩:=h.tkw p o;exact⟨g,r,f,a,e,d,m,c⟩
theorem KH(w:World)(n:Nat):Below w.heap.size w (w.drewN n):=⟨rfl,rfl,rfl,Nat.le_refl _,fun _ _=>rfl⟩
theorem zG{k:Int}(b7:k=1\/k=40)(a4:(E.tk i).k=k)(C:i<E.n){x:Fo}(bs:CB E i x j)(bn:(E.tk j).k≠46)(br:(E.tk j).k≠47)(bd:j<E.n)(cg:i+1<=j):CI E 95 #[pV E] i (one (bH 6 (E.tk i) (E.tk (j-1)).t) x) j:=by
 intro W L B I am;have A:(E.tk i).k≠6:=by omega
 have M:=bU.start I;have hS:Hid (∀w',Below W.heap.size W w'->I1 E i w'):=fun w' b=>(I.below b).cut C A;have a0:(i:Int)<(E.n:Int):=by omega
 have a5:(0:Int)<=(i:Int):=by omega
 have b8:=I.hn;have ao:IntKind.i64.wrap (i:Int)=(i:Int):=by rw[IntKind.wrap_i64];omega
 clear I;go_in;go_wp2_with fail;refine wp_region_held_drew (S:=I1 E i) (by kernel_rfl) (hS.out _ (aE (Below.refl _ _))) (fun a=>?_);simp only[List.size_toArray,List.length_cons,List.length_nil,Nat.reduceAdd,Array.replicate_succ,Array.replicate_zero,List.push_toArray,List.nil_append,List.cons_append];refine aA 0 (.pointer (some ⟨E.pb,0,none⟩)) rfl rfl (by kernel_rfl) (fun _ _ _=>id) a (fun w' ⟨y,p,r,h,o,s,u,v⟩=>by go_simp) ?_;simp only[List.set];refine aA 1 (.pointer (some ⟨E.pb,0,none⟩)) rfl rfl (by kernel_rfl) (fun _ _ _=>id) a (fun w' ⟨y,p,r,h,o,s,u,v⟩=>by go_simp) ?_;simp only[List.set];refine aA 2 (.pointer (some ⟨E.pb,0,none⟩)) rfl rfl (by kernel_rfl) (fun _ _ _=>id) a (fun w' ⟨y,p,r,h,o,s,u,v⟩=>by go_simp) ?_;simp only[List.set];refine aA 3 (.slice (some ⟨E.tb,0,none⟩) E.n E.cap) rfl rfl (by kernel_rfl) (fun _ _ _=>id) a (fun w' ⟨y,p,r,h,o,s,u,v⟩=>by go_simp) ?_;simp only[List.set];refine aA 4 (.pointer (some ⟨E.pb,0,none⟩)) rfl rfl (by kernel_rfl) (fun _ _ _=>id) a (fun w' ⟨y,p,r,h,o,s,u,v⟩=>by go_simp) ?_;simp only[List.set];refine aA 5 (.pointer (some ⟨E.pb,0,none⟩)) rfl rfl (by kernel_rfl) (fun _ _ _=>id) a (fun w' ⟨y,p,r,h,o,s,u,v⟩=>by go_simp) ?_;simp only[List.set];refine aA 6 (.pointer (some ⟨E.pb,1,none⟩)) rfl rfl (by kernel_rfl) (fun _ _ _=>id) a (fun w' ⟨y,p,r,h,o,s,u,v⟩=>by go_simp) ?_;simp only[List.set];refine aA 7 (.int .i64 (i:Int)) rfl rfl (by kernel_rfl) (fun _ _ _=>id) a (fun w' ⟨y,p,r,h,o,s,u,v⟩=>by go_simp) ?_;simp only[List.set];refine aA 8 (.pointer (some ⟨E.tb,i*6,none⟩)) rfl rfl (by kernel_rfl) (fun _ _ _=>id) a (fun w' ⟨y,p,r,h,o,s,u,v⟩=>by go_simp) ?_;simp only[List.set];refine aA 9 (.agg (bg (E.tk i).k (E.tk i))) rfl rfl (by kernel_rfl) (fun _ _ _=>id) a (fun w' ⟨y,p,r,h,o,s,u,v⟩=>by go_simp) ?_;simp only[List.set];refine wpAnyH_ready (rs:=[10,11]) (by kernel_rfl) (by simp) (AllReadyH.cons rfl (fun e c=>?_) (AllReadyH.cons rfl (fun e c=>?_) AllReadyH.nil))
 case' refine_1=>
  go_simp;refine au (bQ a4 _ _) fun O G=>?_;have g:=nB (nB M (aE (Below.refl _ _))) G;refine c.out _ _ (g.out.sp.cut C A) (fun a=>?_);clear c e;try simp only[List.setIfInBounds_toArray,List.set_cons_zero,List.set_cons_succ]
  refine wpAnyH_ready (rs:=[11]) (by kernel_rfl) (by simp) (AllReadyH.cons rfl (fun e c=>?_) AllReadyH.nil);go_simp;refine c.out _ _ ((nB g (ax _ _)).out.sp.cut C A) (fun a=>?_);clear c e;try simp only[List.setIfInBounds_toArray,List.set_cons_zero,List.set_cons_succ]
  refine wpAnyH_ready (rs:=[12]) (by kernel_rfl) (by simp) (AllReadyH.cons rfl (fun e c=>?_) AllReadyH.nil);go_simp;have m:=nA g (aW (nN 5 (E.tk i)) s0 s0);have d:=ab g.out.sp.lt.2;refine c.out _ _ (m.out.sp.cut C A) (fun a=>?_);clear c e;refine wpAnyH_done (by kernel_rfl) ?_ _;clear g G a;generalize H:O.alloc _=a2 at m⊢;generalize O.heap.size=b at m d⊢;clear H
 case' refine_2=>
  go_simp;have U:=nB (nA M (aW ⟨0,0,0,0,0,0,⟨#[]⟩,[],[]⟩ s0 s0)) (aE (Below.refl _ _));refine c.out _ _ (U.out.sp.cut C A) (fun a=>?_);clear c e;try simp only[List.setIfInBounds_toArray,List.set_cons_zero,List.set_cons_succ]
  refine wpAnyH_ready (rs:=[10]) (by kernel_rfl) (by simp) (AllReadyH.cons rfl (fun e c=>?_) AllReadyH.nil);go_simp;refine au (bQ a4 _ _) fun O G=>?_;have g:=nB U G;refine c.out _ _ (g.out.sp.cut C A) (fun a=>?_);clear c e;try simp only[List.setIfInBounds_toArray,List.set_cons_zero,List.set_cons_succ]
  obtain⟨a3,a6,a1,ar,ak,al,ap,a8,T,a7⟩:=nC g;refine wpAnyH_ready (rs:=[12]) (by kernel_rfl) (by simp) (AllReadyH.cons rfl (fun e c=>?_) AllReadyH.nil);go_simp;have d:=ab M.out.sp.lt.2;have K:=nS (nS (nS (nS (nS (nS (nS (nS (nS g d.out 0 (.int .i64 5)) d.out 1 (.int .i64 (E.tk i).f)) d.out 2 (.int .i64 0)) d.out 3 (.int .i64 (E.tk i).l)) d.out 4 (.int .i64 0)) d.out 5 (.int .i64 0)) d.out 6 (.string ⟨#[]⟩)) d.out 7 s0) d.out 8 s0;refine c.out _ _ (K.out.sp.cut C A) (fun a=>?_);clear c e;refine wpAnyH_done (by kernel_rfl) ?_ _;generalize H:World.setCell _ _ _=a2 at K⊢;have m:=ab K;clear g G U a a3 a6 a1 ar ak al ap a8 T a7 K H;obtain⟨b,J⟩:=ah W.heap.size;rw[J]at d;rw[show Value.pointer (some ⟨W.heap.size,0,none⟩)=Value.pointer (some ⟨b,0,none⟩) by rw[J]];replace m:Hid (bU E W a2 i L ((b,aW (nN 5 (E.tk i)) s0 s0)::B)):=by rw[<-J];exact m
  clear J
 all_goals
  clear M hS a0 a5 ao;go_wp2_with fail;refine(bs _ _ _ m.out.sp (by simp only[ag]at am;omega)).mono ?_;rintro bb a9 ⟨z,bk,rfl,H,af⟩;have V:=nP m af;have ac:=nL m af;clear af;obtain⟨cs,cB,b6⟩:=V.out.sp.cells;obtain⟨l,b3,cc,cm,bx,cb,bE,cq⟩:=V.out.sp.tok bd;have a0:(j:Int)<(E.n:Int):=by omega
  have a5:(0:Int)<=(j:Int):=by omega
  have cw:((E.tk j).k !=46)=true:=by simp[bn]
  have bD:((E.tk j).k !=47)=true:=by simp[br]
  have ao:IntKind.i64.wrap (j:Int)=(j:Int):=by rw[IntKind.wrap_i64];omega
  go_wp2_with fail;go_quiet (fail)
  have Z:=nB V (KH a9 nq);generalize a9.drewN nq=bh at Z⊢;obtain⟨a3,a6,a1,ar,ak,al,ap,a8,T,a7⟩:=nC Z;obtain⟨Q,cr,R⟩:∃Q,bh.setCell ⟨b,0,none⟩ (.int .i64 6)=Q/\Hid (bU E W Q j bk ((b,aW (nN 6 (E.tk i)) s0 s0)::B)):=⟨_,rfl,nS Z d.out 0 _⟩;obtain⟨cz,b4,an,bo,cl⟩:=Ah [z] #[.int .i64 z] rfl 1 rfl R d.out (by decide);have N:=Ag R;have T:=fun Y=>(N Y).1;have cx:=fun Y=>(N Y).2;clear N;obtain⟨b1,b2,b9,ct,bw,cF,ck,bN,b0,ca⟩:=nC an;go_wp2_with fail;refine(eC an (by omega) (by omega) ⟨6,(E.tk i).f,0,(E.tk i).l,0,0,⟨#[]⟩,[],[z]⟩ none _ 0 0 _ _ (World.ownsRow_nil _ _ _ _) bo.out (by rw[ac.out.len];simp only[ag]at am;omega) (Fr.nil _ _ _) (Fr.new R.out.kt.size) (bH 6 (E.tk i) (E.tk (j-1)).t) ac.out (by rw[H];rfl)).mono ?_;rintro bb cn ⟨bA,ch,rfl,bt,bl⟩;go_wp2_with fail;go_ret;exact⟨_,_,rfl,bt,(pT bl).out⟩
end
section
variable {E : Pe} {i j : Nat}
abbrev zH(T:Tk)(q:Int):Nd:=⟨5,T.f,0,T.l,0,q,⟨#[]⟩,[],[]⟩
theorem wI{c8:Int}{k Q m:Nat}(hd:c8=1\/c8=40)(ei:(E.tk i).k=c8)(U:i<E.n){x R Ex:Fo}(f5:CB E i x k)(b8:Ls E (CB E) m k R Q)(cz:(E.tk Q).k=47)(f0:Q<E.n)(fF:Ca E (Q+1) Ex j)(gb:k<E.n)(g5:Q+1<=j)(gv:j<=E.n):CI E 95 #[pV E] i (one (nd 5 (E.tk i) (E.tk (j-1)).t 0 ((x.app R).len:Nat) z0 []) ((x.app R).app Ex)) j:=by
 have hkk:(E.tk k).k=46\/(E.tk k).k=47:=by
  cases b8 with
  |stop _ _=>exact .inr cz
  |go a4 _ _ _=>exact .inl a4
 have ek:=ab b8;clear b8;intro W L B a4 c2;have ak:(E.tk i).k≠6:=by omega
 have bE:=bU.start a4;have hS:Hid (∀w',Below W.heap.size W w'->I1 E i w'):=fun w' b=>(a4.below b).cut U ak;have c6:(i:Int)<(E.n:Int):=by omega
 have cw:(0:Int)<=(i:Int):=by omega
 have he:=a4.hn;have cc:IntKind.i64.wrap (i:Int)=(i:Int):=by rw[IntKind.wrap_i64];omega
 clear a4;go_in;go_wp2_with fail;refine wp_region_held_drew (S:=I1 E i) (by kernel_rfl) (hS.out _ (aE (Below.refl _ _))) (fun a=>?_);simp only[List.size_toArray,List.length_cons,List.length_nil,Nat.reduceAdd,Array.replicate_succ,Array.replicate_zero,List.push_toArray,List.nil_append,List.cons_append];refine aA 0 (.pointer (some ⟨E.pb,0,none⟩)) rfl rfl (by kernel_rfl) (fun _ _ _=>id) a (fun w' ⟨H,K,C,I,J,M,N,G⟩=>by go_simp) ?_;simp only[List.set];refine aA 1 (.pointer (some ⟨E.pb,0,none⟩)) rfl rfl (by kernel_rfl) (fun _ _ _=>id) a (fun w' ⟨H,K,C,I,J,M,N,G⟩=>by go_simp) ?_;simp only[List.set];refine aA 2 (.pointer (some ⟨E.pb,0,none⟩)) rfl rfl (by kernel_rfl) (fun _ _ _=>id) a (fun w' ⟨H,K,C,I,J,M,N,G⟩=>by go_simp) ?_;simp only[List.set];refine aA 3 (.slice (some ⟨E.tb,0,none⟩) E.n E.cap) rfl rfl (by kernel_rfl) (fun _ _ _=>id) a (fun w' ⟨H,K,C,I,J,M,N,G⟩=>by go_simp) ?_;simp only[List.set];refine aA 4 (.pointer (some ⟨E.pb,0,none⟩)) rfl rfl (by kernel_rfl) (fun _ _ _=>id) a (fun w' ⟨H,K,C,I,J,M,N,G⟩=>by go_simp) ?_;simp only[List.set];refine aA 5 (.pointer (some ⟨E.pb,0,none⟩)) rfl rfl (by kernel_rfl) (fun _ _ _=>id) a (fun w' ⟨H,K,C,I,J,M,N,G⟩=>by go_simp) ?_;simp only[List.set];refine aA 6 (.pointer (some ⟨E.pb,1,none⟩)) rfl rfl (by kernel_rfl) (fun _ _ _=>id) a (fun w' ⟨H,K,C,I,J,M,N,G⟩=>by go_simp) ?_;simp only[List.set];refine aA 7 (.int .i64 (i:Int)) rfl rfl (by kernel_rfl) (fun _ _ _=>id) a (fun w' ⟨H,K,C,I,J,M,N,G⟩=>by go_simp) ?_;simp only[List.set];refine aA 8 (.pointer (some ⟨E.tb,i*6,none⟩)) rfl rfl (by kernel_rfl) (fun _ _ _=>id) a (fun w' ⟨H,K,C,I,J,M,N,G⟩=>by go_simp) ?_;simp only[List.set];refine aA 9 (.agg (bg (E.tk i).k (E.tk i))) rfl rfl (by kernel_rfl) (fun _ _ _=>id) a (fun w' ⟨H,K,C,I,J,M,N,G⟩=>by go_simp) ?_;simp only[List.set];refine wpAnyH_ready (rs:=[10,11]) (by kernel_rfl) (by simp) (AllReadyH.cons rfl (fun p d=>?_) (AllReadyH.cons rfl (fun p d=>?_) AllReadyH.nil))
 case' refine_1=>
  go_simp;refine au (bQ ei _ _) fun v bs=>?_;have r:=nB (nB bE (aE (Below.refl _ _))) bs;refine d.out _ _ (r.out.sp.cut U ak) (fun a=>?_);clear d p;try simp only[List.setIfInBounds_toArray,List.set_cons_zero,List.set_cons_succ]
  refine wpAnyH_ready (rs:=[11]) (by kernel_rfl) (by simp) (AllReadyH.cons rfl (fun p d=>?_) AllReadyH.nil);go_simp;refine d.out _ _ ((nB r (ax _ _)).out.sp.cut U ak) (fun a=>?_);clear d p;try simp only[List.setIfInBounds_toArray,List.set_cons_zero,List.set_cons_succ]
  refine wpAnyH_ready (rs:=[12]) (by kernel_rfl) (by simp) (AllReadyH.cons rfl (fun p d=>?_) AllReadyH.nil);go_simp;have g:=nA r (aW (nN 5 (E.tk i)) s0 s0);have e:=ab r.out.sp.lt.2;refine d.out _ _ (g.out.sp.cut U ak) (fun a=>?_);clear d p;refine wpAnyH_done (by kernel_rfl) ?_ _;clear r bs a;generalize am:v.alloc _=d6 at g⊢;generalize v.heap.size=b at g e⊢;clear am
 case' refine_2=>
  go_simp;have cq:=nB (nA bE (aW ⟨0,0,0,0,0,0,⟨#[]⟩,[],[]⟩ s0 s0)) (aE (Below.refl _ _));refine d.out _ _ (cq.out.sp.cut U ak) (fun a=>?_);clear d p;try simp only[List.setIfInBounds_toArray,List.set_cons_zero,List.set_cons_succ]
  refine wpAnyH_ready (rs:=[10]) (by kernel_rfl) (by simp) (AllReadyH.cons rfl (fun p d=>?_) AllReadyH.nil);go_simp;refine au (bQ ei _ _) fun v bs=>?_;have r:=nB cq bs;refine d.out _ _ (r.out.sp.cut U ak) (fun a=>?_);clear d p;try simp only[List.setIfInBounds_toArray,List.set_cons_zero,List.set_cons_succ]
  obtain⟨bd,bk,a8,a7,ao,ap,a6,a3,af,a2⟩:=nC r;refine wpAnyH_ready (rs:=[12]) (by kernel_rfl) (by simp) (AllReadyH.cons rfl (fun p d=>?_) AllReadyH.nil);go_simp;have e:=ab bE.out.sp.lt.2;have b6:=nS (nS (nS (nS (nS (nS (nS (nS (nS r e.out 0 (.int .i64 5)) e.out 1 (.int .i64 (E.tk i).f)) e.out 2 (.int .i64 0)) e.out 3 (.int .i64 (E.tk i).l)) e.out 4 (.int .i64 0)) e.out 5 (.int .i64 0)) e.out 6 (.string ⟨#[]⟩)) e.out 7 s0) e.out 8 s0;refine d.out _ _ (b6.out.sp.cut U ak) (fun a=>?_);clear d p;refine wpAnyH_done (by kernel_rfl) ?_ _;generalize am:World.setCell _ _ _=d6 at b6⊢;have g:=ab b6;clear r bs cq a bd bk a8 a7 ao ap a6 a3 af a2 b6 am;obtain⟨b,bw⟩:=ah W.heap.size;rw[bw]at e;rw[show Value.pointer (some ⟨W.heap.size,0,none⟩)=Value.pointer (some ⟨b,0,none⟩) by rw[bw]];replace g:Hid (bU E W d6 i L ((b,aW (nN 5 (E.tk i)) s0 s0)::B)):=by rw[<-bw];exact g
  clear bw
 all_goals
  clear bE hS c6 cw cc;go_wp2_with fail;refine(f5 _ _ _ g.out.sp (by simp only[ag,Fo.sz_app]at c2;omega)).mono ?_;rintro bN fb ⟨z,cm,rfl,am,dn⟩;have a0:=nP g dn;have ac:=nL g dn;clear dn;obtain⟨f2,f6,fz⟩:=a0.out.sp.cells;obtain⟨l,fn,bA,cs,cP,cl,ca,ct⟩:=a0.out.sp.tok gb;have c6:(k:Int)<(E.n:Int):=by omega
  have cw:(0:Int)<=(k:Int):=by omega
  have cc:IntKind.i64.wrap (k:Int)=(k:Int):=by rw[IntKind.wrap_i64];omega
  go_wp2_with fail;rcases hkk with hkk|hkk;all_goals
   rw[hkk]at bA;go_quiet (fail)
   have al:=nB a0 (KH fb nq);generalize fb.drewN nq=ch at al⊢;obtain⟨bd,bk,a8,a7,ao,ap,a6,a3,af,a2⟩:=nC al;obtain⟨e9,fo,b1,e1,gn⟩:=Ah [z] #[.int .i64 z] rfl 1 rfl al e.out (by decide);have ck:=Ag al;have af:=fun cB=>(ck cB).1;have f3:=fun cB=>(ck cB).2;clear ck;obtain⟨d3,es,eN,e8,dq,en,e3,d0,d2,d7⟩:=nC b1;obtain⟨br,gm,ed,eb⟩:∃br,e9.setCell ⟨b,5,none⟩ (.int .i64 1)=br/\Hid (bU E W br k cm ((b,aW (zH (E.tk i) (1)) s0 (.slice (some ⟨ch.heap.size,0,none⟩) 1 1))::B))/\Kt e9 br:=⟨_,rfl,nS b1 e.out 5 _,b1.out.sp.kset 5 _⟩;have ey:Hid (bG E W L ((b,aW (zH (E.tk i) ((1:Nat))) s0 (.slice (some ⟨ch.heap.size,0,none⟩) 1 1))::B) br k cm x (some ⟨ch.heap.size,0,none⟩) 1 1):=⟨ed,ac.out,by rw[<-Fo.tops_len x L.length,am];rfl,by rw[am];exact eb.row e1.out (by decide) (by decide),Fr.new al.out.kt.size,iB al.out.sp (Nat.le_refl _)⟩;go_wp2_with fail;clear fo gm f2 f6 fz bA cs cP cl ca ct c6 cw cc bd bk a8 a7 ao ap a6 a3 af a2 d3 es eN e8 dq en e3 d0 d2 d7 f3 g a0 al b1 ed e1 gn eb ac am fn;go_loopg [4] m (fun gk fq wr=>∃(k:Nat) (D cF:Fo) (d1:Int) (av:Option Addr) (n cv:Nat) (L1:List Mb),fq= .int .i64 d1/\Hid (Ls E (CB E) gk k cF Q/\bG E W L ((b,aW (zH (E.tk i) ((n:Int))) s0 (.slice av n cv))::B) wr k L1 D av n cv/\D.app cF=x.app R))
   case atStart=>exact⟨k,x,R,z,_,1,1,cm,rfl,ek.out,ey.out,rfl⟩
   case round=>
    clear ey ek;obtain⟨f1,D,cF,d1,av,n,cv,L2,rfl,cI⟩:=hrel;obtain⟨fB,a1,bn⟩:=cI.out;cases fB with
    |stop ep b7=>
     have cn:=a1.nw;have df:D=x.app R:=by rw[<-bn,Fo.app_nil]
     have bb:=ab a1;clear a1 bn cI;go_wp2_with fail;refine au (Dv (by rw[cz];decide) cn b7) fun cr ea=>?_;have V:Hid (bG E W L ((b,aW (zH (E.tk i) (n:Int)) s0 (.slice av n cv))::B) cr _ L2 D av n cv):=bb.out.below ea;clear ea;go_wp2_with fail;refine au (co cz V.out.nw f0 (by omega)) fun T ev=>?_;have O:Hid (bG E W L ((b,aW (zH (E.tk i) (n:Int)) s0 (.slice av n cv))::B) T (Q+1) L2 D av n cv):=V.out.move ev;clear ev;have bl:Hid (bJ E W L ((b,aW (zH (E.tk i) (n:Int)) s0 (.slice av n cv))::B) T (Q+1) L2 D (D.tops L.length) av n cv):=⟨O.out.nw,O.out.ac,by rw[Fo.tops_len];exact O.out.ln,O.out.ow,O.out.fr,O.out.sv⟩;have e7:L.length+(D.app Ex).sz+1<=50000000:=by rw[df];simp only[ag,Fo.sz_app]at c2⊢;omega
     have b9:L2.length=L.length+D.sz:=O.out.ac.len;go_wp2_with fail;refine(fF _ _ _ bl.out.nw.out.sp (by rw[b9];simp only[Fo.sz_app]at e7;omega)).mono ?_;rintro bN v ⟨gp,el,rfl,⟨eh,_⟩,b4,d9⟩;obtain⟨u,cN⟩:=ah Ex.len;obtain⟨c,bh⟩:=ah (Ex.tops L2.length);obtain⟨s,dk⟩:=ah (D.tops L.length);have c3:c.length=u:=by rw[<-bh,Fo.tops_len,cN]
     have eg:D.len=n:=O.out.ln;rw[cN,bh]at b4;rw[dk]at bl;have ef:Hid (dN E v gp c (.slice av n cv)):=Cb (Y:=Ex) bl.out (by rw[c3];exact b4) eh;have y:Hid (bJ E W L ((b,aW (zH (E.tk i) (n:Int)) s0 (.slice av n cv))::B) v _ _ (D.app Ex) s av n cv):=bl.out.up d9;have hh:n+u<=50000000:=by have hg:=Ex.len_le;have cT:=D.len_le;simp only[Fo.sz_app]at e7;omega
     have Z:Hid ((Ex.tops L2.length=c/\D.tops L.length=s/\c.length=u)/\D.len=n/\L2.length=L.length+D.sz):=⟨⟨bh,dk,c3⟩,eg,b9⟩;obtain⟨cb,e0,rfl⟩:=aB b4;have e4:Hid (bJ E W L ((b,aW (zH (E.tk i) (n:Int)) s0 (.slice av (n+0) cv))::B) v j el (D.app Ex) (s++c.take 0) av (n+0) cv/\dN E v (.slice cb u e0) c (.slice av (n+0) cv)):=⟨by rw[List.take_zero,List.append_nil];exact y.out,ef.out⟩;clear d9 eh b4 bh c3 cN dk eg b9 V O bl y ef bb;go_wp2_with fail;go_loopw [76] (fun cg wr=>∃(q cv:Nat) (av:Option Addr),q<=u/\cg= .int .i64 q/\Hid (bJ E W L ((b,aW (zH (E.tk i) (n:Int)) s0 (.slice av (n+q) cv))::B) wr j el (D.app Ex) (s++c.take q) av (n+q) cv/\dN E wr (.slice cb u e0) c (.slice av (n+q) cv))) (fun cg _=>u-(intOf cg).toNat)
     case atStart=>exact⟨0,cv,av,Nat.zero_le _,rfl,e4⟩
     case round=>
      clear e4;obtain⟨q,cv,av,g0,rfl,ec⟩:=hrel;obtain⟨bD,d8⟩:=ec.out;have h:=ab bD;have c9:=ab d8;clear bD d8 ec;by_cases gd:q<u
      ·obtain⟨c7,et⟩:=aF Z.out.1.2.2 gd;obtain⟨b3,rfl⟩:∃b3,cb=some ⟨b3,0,none⟩:=by
        rcases ay c9.out.ow with⟨g6,_⟩|⟨b3,g8,fm⟩
        ·have:=Z.out.1.2.2;omega
        ·exact⟨b3,(Value.slice.inj fm).1⟩
       have hc:=c9.out.at et;have hf:(0:Int)<=(q:Int):=by omega
       have ha:(q:Int)<(u:Int):=by omega
       obtain⟨bd,bk,a8,a7,ao,ap,a6,a3,af,a2⟩:=nC h.out.nw;have gr:n+q<=50000000:=by omega
       have f8:(s++c.take q).length=n+q:=h.out.ln;go_wp2_with (first|(at_builtin;refine be rfl _ _ rfl E.base _ (n+q) cv (s++c.take q) rfl f8 (ai h.out.ow (ax _ _)) (by rw[World.size_alloc];have:=h.out.nw.out.sp.lt.2;omega) _ c7 rfl (heap_alloc_new _ _) gr ?_;intro A o d4 bt ar a9;have e6:Hid (bJ E W L _ d4 _ _ _ (s++c.take q++[c7]) (some ⟨A,0,none⟩) (n+q+1) o):=h.out.put bt ar a9;have f7:Hid (dN E d4 _ c (.slice (some ⟨A,0,none⟩) (n+q+1) o)):=c9.out.put ar a9;obtain⟨bA,cs,cP,cl,ca,ct,f9,fu,gt,fd⟩:=nC e6.out.nw;obtain⟨gs,f4⟩:=e6.out.box e.out (.slice (some ⟨A,0,none⟩) (n+q+1) o);clear bt ar a9)|fail);have gf:Hid (dN E _ _ c (.slice (some ⟨A,0,none⟩) (n+q+1) o)):=f7.out.kt f4;have ex:=gs;rw[show s++c.take q++[c7]=s++c.take (q+1) by rw[List.take_add_one,et,List.append_assoc];rfl]at ex;exact⟨⟨q+1,o,_,by omega,by go_num,ex,gf.out⟩,by simp[intOf];omega⟩
      ·obtain rfl:q=u:=by omega
       have bh:c.take q=c:=List.take_of_length_le (by rw[Z.out.1.2.2];exact Nat.le_refl _);rw[bh]at h;obtain⟨bd,bk,a8,a7,ao,ap,a6,a3,af,a2⟩:=nC h.out.nw;go_wp2_with fail;refine(eC h.out.nw (by omega) (by omega) ⟨5,(E.tk i).f,0,(E.tk i).l,0,(n:Int),⟨#[]⟩,[],s++c⟩ none _ 0 0 _ _ (World.ownsRow_nil _ _ _ _) (by rw[h.out.ln];exact h.out.ow) (by have:=h.out.ac.len;rw[this];omega) (Fr.nil _ _ _) h.out.fr (nd 5 (E.tk i) (E.tk (j-1)).t 0 ((x.app R).len:Nat) z0 []) h.out.ac (by rw[Fo.tops_app,<-Z.out.2.2,Z.out.1.1,Z.out.1.2.1,<-df,Z.out.2.1];rfl)).mono ?_;rintro bN gu ⟨gz,ho,rfl,e5,ds⟩;rw[df]at e5 ds;go_wp2_with fail;go_ret;exact⟨_,_,rfl,e5,(pT ds).out⟩
    |@go ff _ bx _ bo d5 ep b7 fg fa=>
     have cn:=a1.nw;have bb:=cS a1 bn fa;have fc:L.length+(D.app (bo.app d5)).sz+1<=50000000:=by rw[bn];simp only[ag,Fo.sz_app]at c2⊢;omega
     have e2:=ab fc;clear a1 bn cI fa;go_wp2_with fail;refine au (EK ep cn b7) fun cr cT=>?_;have V:Hid (bG E W L ((b,aW (zH (E.tk i) ((n:Int))) s0 (.slice av n cv))::B) cr (f1+1) L2 D av n cv):=bb.out.1.move cT;clear cT;go_wp2_with fail;refine(fg _ _ _ V.out.nw.out.sp (by have:=e2.out;rw[V.out.ac.len];simp only[Fo.sz_app]at this;omega)).mono ?_;rintro bN T ⟨c4,b0,rfl,em,eq⟩;have an:Hid (ft E W L ((b,aW (zH (E.tk i) ((n:Int))) s0 (.slice av n cv))::B) T bx b0 D bo c4 av n cv):=V.out.up eq em;clear eq em;have fk:n<=50000000:=by have q:=e2.out;have bN:=an.out.ln;have hm:=D.len_le;simp only[Fo.sz_app]at q;omega
     have g9:IntKind.i64.wrap ((n:Int)+1)=(n:Int)+1:=by rw[IntKind.wrap_i64];omega
     obtain⟨bd,bk,a8,a7,ao,ap,a6,a3,af,a2⟩:=nC an.out.nw;go_wp2_with (at_builtin;refine be rfl _ _ rfl E.base av n cv (D.tops L.length) rfl (by rw[Fo.tops_len];exact an.out.ln) (ai an.out.ow (ax T _)) (by rw[World.size_alloc];have:=an.out.nw.out.sp.lt.2;omega) T.heap.size c4 rfl (heap_alloc_new T _) fk ?_;intro A o v bt ar a9;have y:Hid (bG E W L ((b,aW (zH (E.tk i) ((n:Int))) s0 (.slice av n cv))::B) v bx b0 (D.app bo) (some ⟨A,0,none⟩) (n+1) o):=an.out.put bt ar a9;obtain⟨bA,cs,cP,cl,ca,ct,f9,fu,gt,fd⟩:=nC y.out.nw;obtain⟨g,bD⟩:=nK y.out.nw e.out (.slice (some ⟨A,0,none⟩) (n+1) o);obtain⟨d3,es,eN,e8,dq,en,e3,d0,d2,d7⟩:=nC g;clear bt ar a9);have a0:=nS g e.out 5 (.int .i64 ((n:Int)+1));have ge:=g.out.sp.kset 5 (.int .i64 ((n:Int)+1));have fA:Hid (bG E W L ((b,aW (zH (E.tk i) ((n+1:Nat):Int)) s0 (.slice (some ⟨A,0,none⟩) (n+1) o))::B) _ bx b0 (D.app bo) (some ⟨A,0,none⟩) (n+1) o):=⟨by rw[show((n+1:Nat):Int)=(n:Int)+1 by omega];exact a0,y.out.ac,y.out.ln,ge.row (bD.row y.out.ow (by decide) (by decide)) (by decide) (by decide),y.out.fr,y.out.sv⟩;go_roundg ff
     case measure=>omega
     case rel=>exact⟨bx,D.app bo,d5,c4,_,n+1,o,b0,rfl,bb.out.2.2,fA.out,by rw[Fo.app_app];exact bb.out.2.1⟩
end
end Go.Proofs.YtcbmoiabehpliaaGreatDoor
