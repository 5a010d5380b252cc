import Derived.Test.YtcbmoiabehpliaaGreatDoorHPk49
import Derived.Test.YtcbmoiabehpliaaGreatDoorHPk50
import Derived.Test.YtcbmoiabehpliaaGreatDoorHPk25
import Derived.Test.YtcbmoiabehpliaaGreatDoorHPk01
import Derived.Test.YtcbmoiabehpliaaGreatDoorHPk31
set_option linter.unusedSimpArgs false
set_option linter.unusedVariables false
set_option maxRecDepth 100000
set_option maxHeartbeats 12800000
namespace Go.Proofs.YtcbmoiabehpliaaGreatDoor
open Go.RowKit
theorem uX(n l o b cap:Nat)(a:Option Addr)(f:Nat->Value)(B:b<=3000)(E:b<=cap)(c:Nat->World->Prop)(r:World->Prop)
  (q:∀m W,c m W->W.cell? ⟨o,0,none⟩=some (.slice a b cap))
  (y:∀m W,c m W->∀j,j<b->∃i,a=some i/\W.cell? (i.add j)=some (f j))
  (w:∀m W,m<b->c (m+1) W->YieldAt Fence.wide (n-1) Tryz.prog l #[.int .i64 (m:Int),f m] W fun e g=>(e= .returned (.bool true)/\c m g)\/(e= .returned (.bool false)/\r g))
  (W:World) (p:c b W):
  CallsIn Fence.wide n Tryz.prog 180 #[.func (.yield l) #[] #[],.pointer (some ⟨o,0,none⟩)] W fun e g=>(∃v,e= .returned v)/\(c 0 g\/r g):=by
 have H:=q _ _ p;refine callsIn_of_wp Tryz.func180 rfl trivial ?_ rfl;simp only[Tryz.ntmps180,List.size_toArray,List.length_cons,List.length_nil,Nat.reduceAdd,Nat.reduceSub,Array.replicate_succ,Array.replicate_zero,List.push_toArray,List.append_toArray,List.nil_append,List.cons_append]
 gi_wp2
 gi_loopw [3] (fun k wr=>∃d:Nat,d<=b/\k= .int .i64 ((d:Int)-1)/\c d wr) (fun k _=>(intOf k+1).toNat)
 case atStart=>exact⟨b,Nat.le_refl _,rfl,p⟩
 case round=>
  obtain⟨d,M,rfl,h⟩:=hrel;have G:=q _ _ h;rcases Nat.eq_zero_or_pos d with rfl|hp
  ·gi_wp2
   go_end0
   exact⟨⟨_,rfl⟩,.inl h⟩
  ·obtain⟨m,rfl⟩:∃m,d=m+1:=⟨d-1,by omega⟩;obtain⟨i,rfl,A⟩:=y _ _ h m (by omega);obtain⟨F,tmps,L,J,I,u⟩:=w m wr (by omega) h;have s:((m+1:Nat):Int)-1=(m:Int):=by omega
   rw[s];have N:(m:Int)<(b:Int):=by omega
   have K:(0:Int)<=(m:Int):=by omega
   gi_wp2
   refine⟨fun t=>by simp[Fence.wide]at t,u.mono ?_⟩;rintro e C (⟨rfl,z⟩|⟨rfl,x⟩)
   ·gi_wp2
    go_roundw
    case rel=>exact⟨m,by omega,by simp,z⟩
    case measure=>simp[intOf]
   ·gi_wp2
    refine bodyPost_ret (results_none rfl _ _ _) rfl ?_;exact⟨⟨_,rfl⟩,.inr x⟩
theorem kT(a:Option Addr)(b cap:Nat)(w:World):
  Calls Tryz.prog 142 #[.slice a b cap] w fun e c=>e= .returned (.func (.func 180) #[] #[.pointer (some ⟨w.heap.size,0,none⟩)])/\c=w.alloc (.cells #[.slice a b cap] 92):=by
 refine calls_of_wp Tryz.func142 rfl ?_;simp only[Tryz.ntmps142,List.size_toArray,List.length_cons,List.length_nil,Nat.reduceAdd,Nat.reduceSub,Array.replicate_succ,Array.replicate_zero,List.push_toArray,List.append_toArray,List.nil_append,List.cons_append];go_wp2;go_ret;exact⟨rfl,rfl⟩
attribute [local go_sem] Oper.semAt_some
def yO:Option Nat->Value
 |some i=> .tuple #[.int .i64 (i:Int),.bool true]
 |none=> .tuple #[.int .i64 0,.bool false]
structure pj (w:World) (B:Nat) (vs:Value) (n:Nat) (D:List Int) (W:World):Prop where
 bl:Below w.heap.size w W
 row:W.ownsRow w.heap.size 3 1 (.slice (some ⟨w.heap.size,0,none⟩) n n) n (D.map (Value.int .i64))
 bx:W.heap[B]?=some (.cells #[.slice (some ⟨w.heap.size,0,none⟩) n n] 67 (0,0))
 bs:W.heap[B+1]?=some (.cells #[vs] 92 (0,0))
 ok:zX n D
theorem pj.put{w:World}{B:Nat}{a:Value}{n:Nat}{D:List Int}{W:World}(h:pj w B a n D W)(e:w.heap.size<B){r:Loop}{k:Nat}(d:B+1<k)(b:W.heap[k]?=some (.loop r))(o:Obj):pj w B a n D (W.putObj k o):=
 ⟨h.bl.grown (grownBy_putObj' W k o) h.bl.size (fun f c=>by cases c;omega),ownsRow_putObj h.row o b rfl,(World.putObj_heap_other (by omega)).trans h.bx,(World.putObj_heap_other (by omega)).trans h.bs,h.ok⟩
structure Iq (w:World) (B:Nat) (vs:Value) (n t:Nat) (ks D:List Int) (j:Nat) (E:List Int) (W0 W:World):Prop where
 st:pj w B vs n E W
 rest:vB t (ks.drop j) E=vB t ks D
 kf:KeepsFrom (B+2) W0 W
theorem lP{W:World}{base e size n:Nat}{v:Value}{b:List Value}(h:W.ownsRow base e size v n b):∃a cap,v= .slice a n cap:=by
 rcases h.2 with⟨rfl,c⟩|⟨f,cap,d,rfl,_⟩
 ·exact⟨none,0,by rw[c]⟩
 ·exact⟨_,_,rfl⟩
theorem uY{W:World}{base e size n m c:Nat}{a:Option Addr}{b:List Value}(h:W.ownsRow base e size (.slice a n c) m b):n=m:=by
 obtain⟨f,d,e⟩:=lP h;cases e;rfl
theorem dS.at{W:World}{base g n c:Nat}{a:List Im}(h:dS W base (.slice (some ⟨g,0,none⟩) n c) a){i:Nat}{x:Im}(d:a[i]?=some x):W.cell? ⟨g,i,none⟩=some (.iface (eK (aY x.N.k)) (.pointer (some ⟨x.b,0,none⟩))):=by
 have f:i<a.length:=(List.getElem?_eq_some_iff.1 d).1;have e:=uY h.row;subst e;rw[h.row.cellAt i (by omega),List.getElem?_map,d];rfl
theorem dS.kidAt{W:World}{base:Nat}{o:Value}{a:List Im}(h:dS W base o a){i:Nat}{x:Im}(f:a[i]?=some x){g n c:Nat}(r:x.kv= .slice (some ⟨g,0,none⟩) n c){j:Nat}{z:Int}(e:x.N.ks[j]?=some z):
  ∃q l,z=((q:Nat):Int)/\q<i/\a[q]?=some l/\W.cell? ⟨g,j,none⟩=some (.iface (eK (aY l.N.k)) (.pointer (some ⟨l.b,0,none⟩))):=by
 obtain⟨z0,u⟩:=h.rng i x z f (List.mem_of_getElem? e);obtain⟨q,rfl⟩:=Int.eq_ofNat_of_zero_le z0;have t:i<a.length:=(List.getElem?_eq_some_iff.1 f).1;have s:j<x.N.ks.length:=(List.getElem?_eq_some_iff.1 e).1;have m:q<i:=by omega
 refine⟨q,a[q]'(by omega),rfl,m,List.getElem?_eq_getElem _,?_⟩;have d:=h.kid i x f;rw[r]at d;have p:=uY d;subst p;rw[d.cellAt j (by omega)];unfold fl;rw[List.getElem?_map,e];simp only[Option.map_some,Int.toNat_natCast];rw[List.getElem?_take,if_pos m,List.getElem?_eq_getElem (by omega)];rfl
theorem qe(w:World)(base:Nat)(ar:Value)(J:List Im)(Y:dS w base ar J)(ns:List Nd)(br:J.map Im.N=ns)(n:Nat)(bn:J.length=n)(ea:1<=n)(s:n<=3000)(b1:∀x∈J,x.N.ks.length<=200):
  Calls Tryz.prog 73 #[ar] w fun e o=>e= .returned (yO (cO (cA (sw ns)) n 0))/\Below w.heap.size w o:=by
 obtain⟨g,i,rfl⟩:∃g b9,ar= .slice (some ⟨g,0,none⟩) n b9:=by
  rcases ay Y.row with⟨h,_⟩|h
  ·omega
  ·rw[<-bn];exact h
 have cn:n<=i:=by
  rcases Y.row.2 with⟨s,_⟩|⟨d0,el,d5,s,_,_,ex,_⟩
  ·cases s
  ·cases s;omega
 obtain⟨c2,c0,dq,cP,c9⟩:=info_parts gD;obtain⟨a2,a7⟩:=ah (cO (cA (sw ns)) n 0);rw[a7];have q:=vC Y br bn a7 b1;clear Y br bn a7 b1;refine callsIn_wide (n:=5).1 ?_;refine callsIn_of_wp_marks Tryz.func73 rfl trivial ?_ rfl;simp only[Tryz.ntmps73,List.size_toArray,List.length_cons,List.length_nil,Nat.reduceAdd,Nat.reduceSub,Array.replicate_succ,Array.replicate_zero,List.push_toArray,List.append_toArray,List.nil_append,List.cons_append];refine wpIn_wide.2 ?_;go_wp2_with (first|(at_make;refine wpList_make_full _ rfl _ _ 67 rfl w.heap.size 3 c2 (.int .i64 0) 1 Tryz.underlying67 c0 dq cP .i64 .i64 _ _ n rfl rfl rfl rfl (by rw[c9];omega) (by unfold maxLen;omega) (Nat.le_refl _) ?_;intro E ap G)|(go_at_call 142;refine(kT (some ⟨g,0,none⟩) n i _).mono ?_;rintro e ed ⟨rfl,rfl⟩));rename_i e0 bt;have b3:Below w.heap.size w E:=⟨G.os,G.tape,G.output,G.size,fun f cN=>G.block f cN (by simp)⟩;rw[show(madeCells (Value.int .i64 0).cells (n*1)).toList=List.replicate n (Value.int .i64 0) by rw[Nat.mul_one];exact toList_madeCells_one _ n]at ap;have bk:w.heap.size<E.heap.size:=(ap.lt w.heap.size rfl).2;obtain⟨c,ao⟩:=ah E.heap.size;have K:pj w c (.slice (some ⟨g,0,none⟩) n i) n (List.replicate n 0) ((E.alloc (.cells #[.slice (some ⟨w.heap.size,0,none⟩) n n] 67)).alloc (.cells #[.slice (some ⟨g,0,none⟩) n i] 92)):=by
  refine⟨(b3.alloc (by omega) _).alloc (by simp;omega) _,?_,?_,?_,?_⟩
  ·rw[List.map_replicate];exact(ap.alloc _).alloc _
  ·exact(Below.heap_alloc _ _ _ (by simp;omega)).trans (by rw[<-ao];exact heap_alloc_new E _)
  ·have:=heap_alloc_new (E.alloc (.cells #[.slice (some ⟨w.heap.size,0,none⟩) n n] 67)) (.cells #[.slice (some ⟨g,0,none⟩) n i] 92);rw[World.size_alloc,ao]at this;exact this
  ·refine⟨by simp,fun r O Z=>?_⟩;obtain⟨s,cT⟩:=List.getElem?_eq_some_iff.1 Z;simp at s cT;omega
 have I:((E.alloc (.cells #[.slice (some ⟨w.heap.size,0,none⟩) n n] 67)).alloc (.cells #[.slice (some ⟨g,0,none⟩) n i] 92)).heap.size=c+2:=by simp;omega
 rw[ao]at bk⊢;generalize (E.alloc (.cells #[.slice (some ⟨w.heap.size,0,none⟩) n n] 67)).alloc (.cells #[.slice (some ⟨g,0,none⟩) n i] 92)=d4 at K I⊢;clear ap G b3 ao;refine(wpIn_wide (n:=5)).1 ?_;refine iP (P:=Tryz.prog) (gf:=180) (lb:=#[.pointer (some ⟨c+1,0,none⟩)]) rfl (enters_of Tryz.func180 (by kernel_rfl) rfl)
  (fun a=>#[.int .i64 (a:Int),match J[a]? with|some x=> .iface (eK (aY x.N.k)) (.pointer (some ⟨x.b,0,none⟩))|none=> .nilIface]) (fun _=>rfl) n
  (fun a b=>∃D,pj w c (.slice (some ⟨g,0,none⟩) n i) n D b/\DB ns a D=sw ns)
  (fun a M b=>(∃D,pj w c (.slice (some ⟨g,0,none⟩) n i) n D b/\DB ns (a+1) D=sw ns)/\∃x,J[a]?=some x/\
   M={tmps:=#[.slice (some ⟨g,0,none⟩) n i,undef,.int .i64 0,.bool false,.pointer (some ⟨c,0,none⟩),.int .i64 (a:Int),.iface (eK (aY x.N.k)) (.pointer (some ⟨x.b,0,none⟩)),undef,undef,undef,undef,
    .slice (some ⟨g,0,none⟩) n i,.int .i64 (n:Int),.slice (some ⟨w.heap.size,0,none⟩) n n,.slice (some ⟨g,0,none⟩) n i,.func (.func 180) #[] #[.pointer (some ⟨c+1,0,none⟩)],.int .i64 (a:Int),.iface (eK (aY x.N.k)) (.pointer (some ⟨x.b,0,none⟩)),
    undef,undef,undef,undef,undef,undef,undef,undef,undef,undef,undef,undef,undef,undef,undef,undef,undef,undef,undef,undef,undef,undef,undef,undef,undef,undef,undef,undef,undef,undef,undef,undef,undef,undef],defers:=[]})
  (fun _=>False)
  ?pZ ?pAx ?pX ?h0 ?assign ?body ?seq ?done ?ret
 case pZ=>
  rintro a b cf ak ⟨D,h,m⟩ U;rw[I]at U⊢;exact⟨D,h.put bk (by omega) U ak,m⟩
 case pAx=>
  rintro a M b cf ak ⟨⟨D,h,m⟩,x,p,rfl⟩ U;rw[I]at U⊢;exact⟨⟨D,h.put bk (by omega) U ak,m⟩,x,p,rfl⟩
 case pX=>intro b cf ak h;exact h.elim
 case h0=>
  intro cF X em;have ds:Below w.heap.size w cF:=K.bl.trans (X.mono (by omega));exact⟨List.replicate n 0,⟨ds,ai K.row X,(X.block _ (by omega)).trans K.bx,(X.block _ (by omega)).trans K.bs,K.ok⟩,by rw[sw,<-q.out.2.1,List.length_map,q.out.2.2.1]⟩
 case assign=>
  rintro W a b eq an ⟨D,h,m⟩ ch;obtain⟨x,p⟩:=aF q.out.2.2.1 an;rw[p]at⊢;have eN:=fun M=>ch M b;have j:=cS h m p;clear h m p
  gi_wp2
  exact ch _ _ ⟨⟨D,j.out.1,j.out.2.1⟩,x,j.out.2.2,rfl⟩ (KeepsFrom.refl _ _)
 case body=>
  rintro W a M b an ⟨⟨D,h,m⟩,x,p,rfl⟩;rw[I];have bd:=aa h.bl (q.out.1.box a x p).cells.2.2.2.2.1;have R:=q.out.1.kid a x p;obtain⟨cr,eh,B⟩:=lP R;rw[B]at bd;have df:=q.out.2.2.2.2 x (List.mem_of_getElem? p);obtain⟨L,a0⟩:=ah x.N.ks.length;rw[a0]at bd df B;have b8:ns[a]?=some x.N:=by rw[<-q.out.2.1,List.getElem?_map,p];rfl
  have bA:DB ns a (vB a x.N.ks D)=sw ns:=by
   rw[DB,List.getD_eq_getElem?_getD,b8,Option.getD_some]at m;exact m
  have j:=sJ p bA a0 B;have b2:Hid (Iq w c (.slice (some ⟨g,0,none⟩) n i) n a x.N.ks D 0 D b b):=⟨h,rfl,KeepsFrom.refl _ _⟩;have al:=fun w=>gw x.N.k x.b w;have d2:(a:Int)<(n:Int):=by omega
  have d9:(0:Int)<=(a:Int):=by omega
  have b4:=fun (cw:Nat) w=>CallsIn.inRound W (callsIn_wide (n:=2).2 (bm cw w));generalize eK (aY x.N.k)=d1 at al⊢;clear p m bA R b8 a0 B h
  gi_wp2_with (refine⟨trivial,?_⟩;gi_at_call 265;refine(b4 _ _).mono ?_;rintro e Q ⟨rfl,cg⟩;subst Q)
  gi_loopw [24] (fun F cl=>∃(r:Nat) (v:List Int),r<=L/\F= .int .i64 r/\Hid (Iq w c (.slice (some ⟨g,0,none⟩) n i) n a x.N.ks D r v b cl)) (fun F _=>L-(intOf F).toNat)
  case atStart=>exact⟨0,D,Nat.zero_le _,rfl,b2⟩
  case round=>
   obtain⟨r,v,Z,rfl,l⟩:=hrel;clear b2 bd al;by_cases c1:r<L
   ·have en:(r:Int)<(L:Int):=by omega
    have d8:(0:Int)<=(r:Int):=by omega
    obtain⟨O,C⟩:=aF j.out.2.2.1 c1;have B:=j.out.2.2.2;obtain⟨gk,cm⟩:∃gk,cr=some ⟨gk,0,none⟩:=by
     have R:=q.out.1.kid a x j.out.1;rw[B]at R;rcases ay R with⟨h,_⟩|⟨gk,b9,h⟩
     ·rw[j.out.2.2.1]at h;omega
     ·cases h;exact⟨_,rfl⟩
    subst cm;obtain⟨d,u,rfl,cI,a1,cx⟩:=(q.out.1.below (l.out.st.bl)).kidAt j.out.1 B C;have b0:=aa l.out.st.bl (q.out.1.box d u a1).cells.2.2.2.1;obtain⟨k,af⟩:=aF l.out.st.ok.1 an;obtain⟨c7,b5⟩:=aF l.out.st.ok.1 (show d<n by omega);have d6:=l.out.st.ok.2 a k af;have H:pj w c (.slice (some ⟨g,0,none⟩) n i) n v wr.drew:=⟨l.out.st.bl.drew,l.out.st.row,l.out.st.bx,l.out.st.bs,l.out.st.ok⟩;have V:=H.row;have bw:wr.drew.cell? ⟨w.heap.size,a,none⟩=some (.int .i64 k):=by rw[V.cellAt a (by omega),List.getElem?_map,af];rfl
    have ev:wr.drew.cell? ⟨w.heap.size,d,none⟩=some (.int .i64 c7):=by rw[V.cellAt d (by omega),List.getElem?_map,b5];rfl
    have ei:=V.frozenAt d;have a6:v.getD a 0=k:=by rw[List.getD_eq_getElem?_getD,af];rfl
    have a9:=(V.stored d (.int .i64 (k+1))).1;rw[<-List.map_set]at a9;have bb:=l.out.st.ok.set a d an cI;rw[a6]at bb;have bN:vB a (x.N.ks.drop (r+1)) (v.set d (k+1))=vB a x.N.ks D:=by
     have s:=l.out.rest;have bo:=(List.getElem?_eq_some_iff.1 C);rw[List.drop_eq_getElem_cons bo.1,bo.2,vB,a6]at s;exact s
    have a3:wr.drew.cell? ⟨c,0,none⟩=_:=aN H.bx;have b6:pj w c (.slice (some ⟨g,0,none⟩) n i) n (v.set d (k+1)) (wr.drew.setCell ⟨w.heap.size,d,none⟩ (.int .i64 (k+1))):=
     ⟨H.bl.setCell (Nat.le_refl _) _,a9,(heap_setCell_other _ _ _ _ (by simp;omega)).trans H.bx,(heap_setCell_other _ _ _ _ (by simp;omega)).trans H.bs,bb⟩
    have ck:Hid (Iq w c (.slice (some ⟨g,0,none⟩) n i) n a x.N.ks D (r+1) (v.set d (k+1)) b (wr.drew.setCell ⟨w.heap.size,d,none⟩ (.int .i64 (k+1)))):=⟨b6,bN,l.out.kf.trans (((KeepsOthers.drew wr).from _).trans ((KeepsOthers.setCell _ _ _).from _))⟩;have ec:d≠a:=by omega
    have es:IntKind.i64.wrap (k+1)=k+1:=by rw[IntKind.wrap_i64];omega
    have e1:=lt_of_block (q.out.1.box d u a1);have c6:(wr.drew.setCell ⟨w.heap.size,d,none⟩ (.int .i64 (k+1))).cell? ⟨c,0,none⟩=some (.slice (some ⟨w.heap.size,0,none⟩) n n)/\(wr.drew.setCell ⟨w.heap.size,d,none⟩ (.int .i64 (k+1))).cell? ⟨u.b,4,none⟩=some (.int .i64 (d:Int))/\(wr.drew.setCell ⟨w.heap.size,d,none⟩ (.int .i64 (k+1))).cell? ⟨w.heap.size,a,none⟩=some (.int .i64 k):=
     ⟨(World.cell?_setCell_far _ _ _ _ (by simp;omega)).trans a3,(World.cell?_setCell_far _ _ _ _ (by simp;omega)).trans b0,(World.cell?_setCell_other _ _ _ _ (by simp;try omega)).trans bw⟩
    have ep:(d:Int)<(n:Int):=by omega
    have ey:(0:Int)<=(d:Int):=by omega
    have al:=fun w=>gw u.N.k u.b w;generalize eK (aY u.N.k)=c8 at al cx;clear C l a9 bb bN b6 V af b5 a6 B a1 H
    gi_wp2_with (refine⟨trivial,?_⟩;gi_at_call 265;refine(b4 _ _).mono ?_;rintro e Q ⟨rfl,cg⟩;subst Q)
    have dk:wr.drew.cell? ⟨c,0,none⟩=some (.slice (some ⟨w.heap.size,0,none⟩) n n)/\wr.drew.cell? ⟨u.b,4,none⟩=some (.int .i64 (d:Int))/\wr.drew.cell? ⟨w.heap.size,a,none⟩=some (.int .i64 k):=⟨a3,b0,bw⟩;refine gH (S:=fun o=>o.cell? ⟨c,0,none⟩=some (.slice (some ⟨w.heap.size,0,none⟩) n n)/\o.cell? ⟨u.b,4,none⟩=some (.int .i64 (d:Int))/\o.cell? ⟨w.heap.size,a,none⟩=some (.int .i64 k)) (by kernel_rfl) (by kernel_rfl) (fun ⟨_,_,h⟩=>h) dk (fun hS=>?_);refine aA 0 (.slice (some ⟨w.heap.size,0,none⟩) n n) rfl rfl (by kernel_rfl) (fun _ _ _=>id) hS (fun o ⟨y,z,A⟩=>by go_simp) ?_;simp only[List.set];refine aA 1 (.iface c8 (.pointer (some ⟨u.b,0,none⟩))) rfl rfl (by kernel_rfl) (fun _ _ _=>id) hS (fun o ⟨y,z,A⟩=>by go_simp) ?_;simp only[List.set];refine aA 6 (.slice (some ⟨w.heap.size,0,none⟩) n n) rfl rfl (by kernel_rfl) (fun _ _ _=>id) hS (fun o ⟨y,z,A⟩=>by go_simp) ?_;simp only[List.set];refine aA 7 (.int .i64 (a:Int)) rfl rfl (by kernel_rfl) (fun _ _ _=>id) hS (fun o ⟨y,z,A⟩=>by go_simp) ?_;simp only[List.set];refine aA 8 (.pointer (some ⟨w.heap.size,a,none⟩)) rfl rfl (by kernel_rfl) (fun _ _ _=>id) hS (fun o ⟨y,z,A⟩=>by go_simp) ?_;simp only[List.set];refine aA 9 (.int .i64 k) rfl rfl (by kernel_rfl) (fun _ _ _=>id) hS (fun o ⟨y,z,A⟩=>by go_simp) ?_;simp only[List.set];refine aA 10 (.int .i64 (k+1)) rfl rfl (by kernel_rfl) (fun _ _ _=>id) hS (fun o ⟨y,z,A⟩=>by go_simp) ?_;simp only[List.set];refine wpAnyH_ready (rs:=[2]) (by kernel_rfl) (by simp) (AllReadyH.cons rfl (fun a5 T=>?_) AllReadyH.nil);go_simp;refine au (bm _ _) fun Q cg=>?_;subst Q;refine T.out _ _ hS (fun hS=>?_);clear T a5;try simp only[Act.put,List.setIfInBounds_toArray,List.set_cons_zero,List.set_cons_succ]
    refine aA 3 (.pointer (some ⟨u.b,0,none⟩)) rfl rfl (by kernel_rfl) (fun _ _ _=>id) hS (fun o ⟨y,z,A⟩=>by go_simp) ?_;simp only[List.set];refine aA 4 (.pointer (some ⟨u.b,4,none⟩)) rfl rfl (by kernel_rfl) (fun _ _ _=>id) hS (fun o ⟨y,z,A⟩=>by go_simp) ?_;simp only[List.set];refine aA 5 (.int .i64 (d:Int)) rfl rfl (by kernel_rfl) (fun _ _ _=>id) hS (fun o ⟨y,z,A⟩=>by go_simp) ?_;simp only[List.set];refine aA 11 (.pointer (some ⟨w.heap.size,d,none⟩)) rfl rfl (by kernel_rfl) (fun _ _ _=>id) hS (fun o ⟨y,z,A⟩=>by go_simp) ?_;simp only[List.set];refine wpAnyH_ready (rs:=[12]) (by kernel_rfl) (by simp) (AllReadyH.cons rfl (fun a5 T=>?_) AllReadyH.nil);go_simp;refine T.out _ _ c6 (fun hS=>?_);clear T a5;refine wpAnyH_done (by kernel_rfl) ?_ _
    gi_wp2
    exact⟨⟨r+1,_,by omega,by go_num,ck⟩,by simp[intOf];omega⟩
   ·obtain rfl:r=L:=by omega
    have a4:Hid (pj w c (.slice (some ⟨g,0,none⟩) n i) n v wr/\DB ns a v=sw ns/\KeepsFrom (c+2) b wr):=by
     refine⟨l.out.st,?_,l.out.kf⟩;have s:=l.out.rest;rw[List.drop_of_length_le (by rw[j.out.2.2.1];exact Nat.le_refl _),vB]at s;rw[s];exact j.out.2.1
    clear l
    gi_wp2
    exact⟨a4.out.2.2,v,a4.out.1,a4.out.2.1⟩
 case seq=>
  intro W c4 dn cc c5 b cs;refine uX 4 W (c+1) n i (some ⟨g,0,none⟩) _ s cn c4 dn (fun a b h=>?_) (fun a b h r Z=>?_) c5 b cs
  ·obtain⟨D,m,_⟩:=cc a b h;exact aN m.bs
  ·obtain⟨D,m,_⟩:=cc a b h;obtain⟨x,p⟩:=aF q.out.2.2.1 Z;refine⟨_,rfl,?_⟩;rw[iJ,p];exact aa m.bl (q.out.1.at p)
 case ret=>intro b h;exact h.elim
 case done=>
  rintro b ⟨D,h,m⟩ ca;have bD:D=sw ns:=m;refine bt _ _ ?_;have a3:=aN h.bx;have j:Hid (pj w c (.slice (some ⟨g,0,none⟩) n i) n D b/\b.heap[c+2]?=some (.deferred (some []))):=⟨h,by rw[<-I];exact ca⟩;have bE:jL (cA D) (n-0) 0 a2:=⟨by rw[bD];exact q.out.2.2.2.1⟩;have eg:w.heap.size<c+2:=by omega
  rw[I];clear h m ca bD bt;go_wp2_with fail;go_loop [43] (fun F=>∃f:Nat,f<=n/\F= .int .i64 f/\jL (cA D) (n-f) f a2) (fun F=>n-(intOf F).toNat)
  case atStart=>exact⟨0,Nat.zero_le _,rfl,bE⟩
  case round=>
   obtain⟨f,ek,rfl,am⟩:=hrel;clear bE;have t:=am.out;by_cases c3:f<n
   ·have d3:(f:Int)<(n:Int):=by omega
    have d7:(0:Int)<=(f:Int):=by omega
    obtain⟨O,C⟩:=aF j.out.1.ok.1 c3;have ef:b.cell? ⟨w.heap.size,f,none⟩=some (.int .i64 O):=by rw[j.out.1.row.cellAt f (by omega),List.getElem?_map,C];rfl
    rw[show n-f=(n-(f+1))+1 by omega,cO]at t;have a8:cA D f=decide (100<O):=by unfold cA;rw[List.getD_eq_getElem?_getD,C];rfl
    rw[a8]at t;by_cases b7:100<O
    ·rw[if_pos (decide_eq_true b7)]at t;have bh:=ab t.symm;clear t a8 C am;go_wp2_with fail;refine⟨by simp,.inl ⟨_,_,rfl,run_takeDeferred j.out.2,?_⟩⟩;refine⟨_,results_tmp2 rfl _ _ _,by rw[bh.out];rfl,?_⟩;exact j.out.1.bl.grown (grownBy_putObj' b (c+2) (.deferred none)) j.out.1.bl.size (fun f e=>by cases e;omega)
    ·rw[if_neg (by simpa using b7)]at t;have cB:jL (cA D) (n-(f+1)) (f+1) a2:=⟨t⟩;clear t a8 C am;go_wp2_with fail;go_round
     case rel=>exact⟨f+1,by omega,by go_num,cB⟩
     case measure=>simp[intOf];omega
   ·obtain rfl:f=n:=by omega
    rw[Nat.sub_self,cO]at t;have bh:=ab t.symm;clear t am;go_wp2_with fail;refine⟨by simp,.inl ⟨_,_,rfl,run_takeDeferred j.out.2,?_⟩⟩;refine⟨_,results_tmp2 rfl _ _ _,by rw[bh.out];rfl,?_⟩;exact j.out.1.bl.grown (grownBy_putObj' b (c+2) (.deferred none)) j.out.1.bl.size (fun f e=>by cases e;omega)
attribute [local go_sem] Oper.semAt_some
def sE(S:List Int)(n:Nat):Option Nat->Value
 |some i=> .tuple #[.int .i64 (i:Int),.bool true]
 |none=> .tuple #[.int .i64 ((n:Int)-1),.bool (decide (S.getD (n-1) 0<(n:Int)))]
structure mO (w:World) (B n:Nat) (S:List Int) (c:List Nat) (W:World):Prop where
 bl:Below w.heap.size w W
 r0:W.heap[w.heap.size]?=some (.cells #[.int .i64 0] 3 (0,0))
 r1:W.heap[w.heap.size+1]?=some (.cells #[.bool false] 4 (0,0))
 row:W.ownsRow w.heap.size 3 1 (.slice (some ⟨w.heap.size+1+1,0,none⟩) n n) n (S.map (Value.int .i64)++List.replicate (n-S.length) (.int .i64 0))
 bx:W.heap[B]?=some (.cells #[.slice (some ⟨w.heap.size+1+1,0,none⟩) n n] 67 (0,0))
 mks:eY (w.heap.size+1+1+1) c W
theorem mO.below{w:World}{B n:Nat}{S:List Int}{c:List Nat}{W b:World}(h:mO w B n S c W)(a:Below W.heap.size W b):mO w B n S c b:=
 ⟨h.bl.trans (a.mono h.bl.size),(a.block _ (lt_of_block h.r0)).trans h.r0,(a.block _ (lt_of_block h.r1)).trans h.r1,ai h.row a,(a.block _ (lt_of_block h.bx)).trans h.bx,h.mks.below a⟩
theorem mO.put{w:World}{B n:Nat}{S:List Int}{c:List Nat}{W:World}(h:mO w B n S c W)(g:w.heap.size+1<B){r:Loop}{k:Nat}(f:B<k)(a:W.heap[k]?=some (.loop r))(o:Obj):mO w B n S c (W.putObj k o):=
 ⟨h.bl.grown (grownBy_putObj' W k o) h.bl.size (fun i e=>by cases e;omega),(World.putObj_heap_other (by omega)).trans h.r0,(World.putObj_heap_other (by omega)).trans h.r1,ownsRow_putObj h.row o a rfl,(World.putObj_heap_other (by omega)).trans h.bx,
  ⟨h.mks.nd,h.mks.lo,fun b d=>(World.putObj_heap_other (by rintro rfl;have:=(h.mks.at_ b d).symm.trans a;cases this)).trans (h.mks.at_ b d)⟩⟩
structure sF (w:World) (B n:Nat) (S:List Int) (c:List Nat) (sz k:Nat) (kv:Value) (a:Int) (W:World):Prop where
 oo:mO w B n S c W
 b5:W.heap[sz]?=some (.cells #[.int .i64 (k:Int)] 3 (0,0))
 b7:W.heap[sz+1]?=some (.cells #[.int .i64 (a-1)] 3 (0,0))
 b8:W.heap[sz+1+1]?=some (.cells #[kv] 92 (0,0))
theorem sF.put{w:World}{B n:Nat}{S:List Int}{c:List Nat}{b k:Nat}{d:Value}{a:Int}{W:World}(h:sF w B n S c b k d a W)(f:w.heap.size+1<B)(g:B<b){r:Loop}{j:Nat}(i:b+1+1<j)(e:W.heap[j]?=some (.loop r))(o:Obj):sF w B n S c b k d a (W.putObj j o):=
 ⟨h.oo.put f (by omega) e o,(World.putObj_heap_other (by omega)).trans h.b5,(World.putObj_heap_other (by omega)).trans h.b7,(World.putObj_heap_other (by omega)).trans h.b8⟩
theorem jp{fn:Func}{p q:Tmp}{t u:TypeId}(h:fn.results=#[.cell p t,.cell q u])(tmps:Array Value)(P:Program)(w:World)(a b:Addr)(v c:Value)(e:tmps.getD p undef= .pointer (some a))(d:tmps.getD q undef= .pointer (some b))
  (j:(loadVar t a).run P w= .ok v w) (g:(loadVar u b).run P w= .ok c w):(results fn tmps).run P w= .ok (.tuple #[v,c]) w:=by
 have f:tmps[p]?.getD undef= .pointer (some a):=by simpa using e
 have i:tmps[q]?.getD undef= .pointer (some b):=by simpa using d
 simp only[results,h];simp[Sem.run_bind,Result.andThen,f,i,asAddr,j,g]
theorem uZ(w:World)(a:Addr)(z:Int)(h:w.cell? a=some (.int .i64 z)):(loadVar 3 a).run Tryz.prog w= .ok (.int .i64 z) w:=by go_simp
theorem qO(w:World)(a:Addr)(z:Bool)(h:w.cell? a=some (.bool z)):(loadVar 4 a).run Tryz.prog w= .ok (.bool z) w:=by go_simp
theorem FB(a b:List Nd):∃t,dR (a++b)=dR a++t:=by
 refine si (p:=fun b=>∃t,dR (a++b)=dR a++t) ⟨[],by simp⟩ (fun d e ⟨t,c⟩=>?_) b;rw[<-List.append_assoc,kO,c];exact⟨t++[_],List.append_assoc _ _ _⟩
theorem vd{ns:List Nd}{k:Nat}{N:Nd}(h:ns[k]?=some N):dR (ns.take (k+1))=dR (ns.take k)++[iI (dR (ns.take k)) k N.ks]:=by
 have a:k<ns.length:=(List.getElem?_eq_some_iff.1 h).1;rw[List.take_add_one,h];show dR (ns.take k++[N])=_;rw[kO,fH,List.length_take,Nat.min_eq_left (by omega)]
theorem Ir{ns:List Nd}{k:Nat}{N:Nd}(h:ns[k]?=some N):(dR ns).getD k 0=iI (dR (ns.take k)) k N.ks:=by
 have c:k<ns.length:=(List.getElem?_eq_some_iff.1 h).1;obtain⟨d,a⟩:=FB (ns.take (k+1)) (ns.drop (k+1));rw[List.take_append_drop,vd h]at a;have b:(dR (ns.take k)).length=k:=by rw[fH,List.length_take,Nat.min_eq_left (by omega)]
 rw[a,List.getD_eq_getElem?_getD,List.append_assoc,List.getElem?_append_right (by omega),b];simp
def Dp(d:List Im)(ks:List Int)(m:Nat):Value:=match ks[m]? with
 |some c=>(match d[c.toNat]? with|some a=> .iface (eK (aY a.N.k)) (.pointer (some ⟨a.b,0,none⟩))|none=> .nilIface)
 |none=> .nilIface
theorem yP{c:List Im}{ks:List Int}{m q:Nat}{a:Im}(d:ks[m]?=some (q:Int))(e:c[q]?=some a):Dp c ks m= .iface (eK (aY a.N.k)) (.pointer (some ⟨a.b,0,none⟩)):=by
 unfold Dp;rw[d];simp[e]
structure Is (w:World) (c:List Nat) (k:Nat) (W:World):Prop where
 bl:Below w.heap.size w W
 r0:W.heap[w.heap.size]?=some (.cells #[.int .i64 (k:Int)] 3 (0,0))
 r1:W.heap[w.heap.size+1]?=some (.cells #[.bool true] 4 (0,0))
 mks:eY (w.heap.size+1+1+1) c W
theorem pm(w:World)(base:Nat)(br:Value)(Q:List Im)(al:dS w base br Q)(ns:List Nd)(cP:Q.map Im.N=ns)(n:Nat)(cx:Q.length=n)(g7:1<=n)(z:n<=3000)(d6:∀x∈Q,x.N.ks.length<=200):
  Calls Tryz.prog 72 #[br] w fun e m=>e= .returned (sE (dR ns) n (cO (cp (dR ns)) n 0))/\Below w.heap.size w m:=by
 obtain⟨O,X,rfl⟩:∃O k,br= .slice (some ⟨O,0,none⟩) n k:=by
  rcases ay al.row with⟨h,_⟩|h
  ·omega
  ·rw[<-cx];exact h
 have gz:n<=X:=by
  rcases al.row.2 with⟨z,_⟩|⟨ey,fA,e8,z,_,_,f6,_⟩
  ·cases z
  ·cases z;omega
 obtain⟨fv,ca,gs,fn,ge⟩:=info_parts gD;obtain⟨a1,cc⟩:=ah (cO (cp (dR ns)) n 0);rw[cc];have i:=vC al cP cx cc d6;clear al cP cx cc d6;refine callsIn_wide (n:=5).1 ?_;refine callsIn_of_wp_marks Tryz.func72 rfl trivial ?_ rfl;simp only[Tryz.ntmps72,List.size_toArray,List.length_cons,List.length_nil,Nat.reduceAdd,Nat.reduceSub,Array.replicate_succ,Array.replicate_zero,List.push_toArray,List.append_toArray,List.nil_append,List.cons_append];refine wpIn_wide.2 ?_;go_wp2_with (at_make;refine wpList_make_full _ rfl _ _ 67 rfl w.heap.size 3 fv (.int .i64 0) 1 Tryz.underlying67 ca gs fn .i64 .i64 _ _ n rfl rfl rfl rfl (by rw[ge];omega) (by unfold maxLen;omega) (by simp;omega) ?_;intro V a8 an);rename_i hE e9;have a5:Below ((w.alloc (.cells #[.int .i64 0] 3)).alloc (.cells #[.bool false] 4)).heap.size ((w.alloc (.cells #[.int .i64 0] 3)).alloc (.cells #[.bool false] 4)) V:=⟨an.os,an.tape,an.output,an.size,fun a d0=>an.block a d0 (by simp)⟩;rw[show(madeCells (Value.int .i64 0).cells (n*1)).toList=List.replicate n (Value.int .i64 0) by rw[Nat.mul_one];exact toList_madeCells_one _ n]at a8;simp only[World.size_alloc]at a8 a5;have gp:w.heap.size+1+1<V.heap.size:=(a8.lt _ rfl).2;have bn:mO w V.heap.size n [] [] (V.alloc (.cells #[.slice (some ⟨w.heap.size+1+1,0,none⟩) n n] 67)):=by
  refine⟨?_,?_,?_,?_,heap_alloc_new V _,⟨List.nodup_nil,fun l hb=>by simp at hb,fun l hb=>by simp at hb⟩⟩
  ·exact((((Below.refl _ w).alloc (Nat.le_refl _) _).alloc (by simp) _).trans (a5.mono (by omega))).alloc (by omega) _
  ·exact(Below.heap_alloc _ _ _ (by omega)).trans ((a5.block _ (by omega)).trans ((Below.heap_alloc _ _ _ (by simp)).trans (heap_alloc_new w _)))
  ·refine(Below.heap_alloc _ _ _ (by omega)).trans ((a5.block _ (by omega)).trans ?_);have:=heap_alloc_new (w.alloc (.cells #[.int .i64 0] 3)) (.cells #[.bool false] 4);rw[World.size_alloc]at this;exact this
  ·exact a8.alloc _
 obtain⟨r,et⟩:=ah V.heap.size;have c9:r<(V.alloc (.cells #[.slice (some ⟨w.heap.size+1+1,0,none⟩) n n] 67)).heap.size:=by simp;omega
 rw[et]at bn gp⊢;generalize V.alloc (.cells #[.slice (some ⟨w.heap.size+1+1,0,none⟩) n n] 67)=e6 at bn c9⊢;clear a8 an a5 et;have d7:Hid (mO w r n (dR (ns.take 0)) [] e6/\cO (cp (dR ns)) (n-0) 0=a1/\∀(F:Nat) q,(dR (ns.take 0))[F]?=some q->1<=q):=⟨bn,i.out.2.2.2.1,fun F q h=>by simp[dR]at h⟩;clear bn;refine(wpIn_wide (n:=5)).1 (wpIn_loop (fun R d=>∃(a:Nat) (k:List Nat),a<=n/\r<d.heap.size/\Hid (mO w r n (dR (ns.take a)) k d/\cO (cp (dR ns)) (n-a) a=a1/\∀(F:Nat) q,(dR (ns.take a))[F]?=some q->1<=q)/\
  ∃d4 ek cF eb cI en eh ed c6 d3 d1 c8 ev ei ef b1 bN b3 b4 cn cm bs:Value,R={tmps:=#[.slice (some ⟨O,0,none⟩) n X,undef,.pointer (some ⟨w.heap.size,0,none⟩),.pointer (some ⟨w.heap.size+1,0,none⟩),.pointer (some ⟨r,0,none⟩),d4,ek,cF,undef,undef,undef,.slice (some ⟨O,0,none⟩) n X,.int .i64 (n:Int),.slice (some ⟨w.heap.size+1+1,0,none⟩) n n,.slice (some ⟨O,0,none⟩) n X,.int .i64 (n:Int),.int .i64 (a:Int),eb,cI,en,eh,ed,c6,d3,d1,c8,ev,ei,ef,undef,undef,undef,undef,undef,undef,undef,undef,undef,undef,undef,undef,undef,undef,undef,undef,b1,bN,b3,b4,cn,cm,bs,undef,undef,undef,undef,undef,undef,undef,undef,undef,undef,undef],defers:=k.map lK}) (fun R _=>n-(intOf (R.tmps.getD 16 undef)).toNat) ?start ?round)
 case start=>exact⟨0,[],Nat.zero_le _,c9,d7,undef,undef,undef,undef,undef,undef,undef,undef,undef,undef,undef,undef,undef,undef,undef,undef,undef,undef,undef,undef,undef,undef,rfl⟩
 case round=>
  rintro R d ⟨a,k,d0,b6,o,d4,ek,cF,eb,cI,en,eh,ed,c6,d3,d1,c8,ev,ei,ef,b1,bN,b3,b4,cn,cm,bs,rfl⟩;clear d7;refine wpIn_wide.2 ?_;by_cases d8:a<n
  ·have g3:(a:Int)<(n:Int):=by omega
   have fa:(0:Int)<=(a:Int):=by omega
   obtain⟨x,Z⟩:=aF i.out.2.2.1 d8;have df:=aa o.out.1.bl (i.out.1.at Z);have cs:=aa o.out.1.bl (i.out.1.box a x Z).cells.2.2.2.2.1;have I:=i.out.1.kid a x Z;obtain⟨y,C,a9⟩:=lP I;have gn:=i.out.2.2.2.2 x (List.mem_of_getElem? Z);obtain⟨v,bD⟩:=ah x.N.ks.length;rw[a9]at cs;rw[bD]at cs gn a9;have s:=cS Z a9 bD;have a4:=fun w=>gw x.N.k x.b w;have eN:x.b<d.heap.size:=Nat.lt_of_lt_of_le (lt_of_block (i.out.1.box a x Z)) o.out.1.bl.size;generalize eK (aY x.N.k)=bw at a4 df;clear Z I a9 bD;go_wp2_with (first|(go_at_call 265;refine(bm _ _).mono ?_;rintro e a2 ⟨rfl,es⟩;subst a2)|(go_at_call 142;refine(kT y v C _).mono ?_;rintro e fd ⟨rfl,ak⟩;subst fd));rename_i hu ex;obtain⟨S,hS⟩:=ah (dR (ns.take a));obtain⟨M,bA⟩:=ah (sh S x.N.ks.reverse (a:Int));rw[hS]at o;obtain⟨g,a7⟩:=ah d.heap.size;have ar:sF w r n S k g a (.slice y v C) (a:Int) (((d.alloc (.cells #[.int .i64 (a:Int)] 3)).alloc (.cells #[.int .i64 ((a:Int)-1)] 3)).alloc (.cells #[.slice y v C] 92)):=by
    refine⟨o.out.1.below ((((Below.refl _ d).alloc (Nat.le_refl _) _).alloc (by simp) _).alloc (by simp;omega) _),?_,?_,?_⟩
    ·exact(Below.heap_alloc _ _ _ (by simp;omega)).trans ((Below.heap_alloc _ _ _ (by simp;omega)).trans (by rw[<-a7];exact heap_alloc_new d _))
    ·refine(Below.heap_alloc _ _ _ (by simp;omega)).trans ?_;have:=heap_alloc_new (d.alloc (.cells #[.int .i64 (a:Int)] 3)) (.cells #[.int .i64 ((a:Int)-1)] 3);rw[World.size_alloc,a7]at this;exact this
    ·have:=heap_alloc_new ((d.alloc (.cells #[.int .i64 (a:Int)] 3)).alloc (.cells #[.int .i64 ((a:Int)-1)] 3)) (.cells #[.slice y v C] 92);rw[World.size_alloc,World.size_alloc,a7]at this;exact this
   have Y:(((d.alloc (.cells #[.int .i64 (a:Int)] 3)).alloc (.cells #[.int .i64 ((a:Int)-1)] 3)).alloc (.cells #[.slice y v C] 92)).heap.size=g+1+1+1:=by simp;omega
   rw[a7]at b6 eN⊢;generalize ((d.alloc (.cells #[.int .i64 (a:Int)] 3)).alloc (.cells #[.int .i64 ((a:Int)-1)] 3)).alloc (.cells #[.slice y v C] 92)=gu at ar Y⊢;have cN:∀l∈k,l<g:=fun l hb=>by rw[<-a7];exact(Array.getElem?_eq_some_iff.1 (o.out.1.mks.at_ l hb)).1
   have eg:ns[a]?=some x.N:=by rw[<-i.out.2.1,List.getElem?_map,s.out.1];rfl
   have ap:(dR ns).getD a 0=iI S a x.N.ks:=by rw[Ir eg,hS]
   clear df cs a4;refine(wpIn_wide (n:=5)).1 ?_;refine iP (P:=Tryz.prog) (gf:=180) (lb:=#[.pointer (some ⟨g+1+1,0,none⟩)]) rfl (enters_of Tryz.func180 (by kernel_rfl) rfl)
    (fun c=>#[.int .i64 (c:Int),Dp Q x.N.ks c]) (fun _=>rfl) v
    (fun c d=>∃b:Int,sF w r n S k g a (.slice y v C) b d/\0<=b/\b<=(a:Int)/\sh S (x.N.ks.take c).reverse b=M)
    (fun c R d=>(∃b:Int,sF w r n S k g a (.slice y v C) b d/\0<=b/\b<=(a:Int)/\sh S (x.N.ks.take (c+1)).reverse b=M)/\R={tmps:=#[.slice (some ⟨O,0,none⟩) n X,undef,.pointer (some ⟨w.heap.size,0,none⟩),.pointer (some ⟨w.heap.size+1,0,none⟩),.pointer (some ⟨r,0,none⟩),.pointer (some ⟨g,0,none⟩),.iface bw (.pointer (some ⟨x.b,0,none⟩)),.pointer (some ⟨g+1,0,none⟩),undef,Dp Q x.N.ks c,undef,.slice (some ⟨O,0,none⟩) n X,.int .i64 (n:Int),.slice (some ⟨w.heap.size+1+1,0,none⟩) n n,.slice (some ⟨O,0,none⟩) n X,.int .i64 (n:Int),.int .i64 (a:Int),.bool true,.int .i64 (a:Int),.pointer (some ⟨O,a,none⟩),.iface bw (.pointer (some ⟨x.b,0,none⟩)),.int .i64 (a:Int),.int .i64 ((a:Int)-1),.iface bw (.pointer (some ⟨x.b,0,none⟩)),.pointer (some ⟨x.b,0,none⟩),.pointer (some ⟨x.b,0,none⟩),.pointer (some ⟨x.b,5,none⟩),.slice y v C,.func (.func 180) #[] #[.pointer (some ⟨g+1+1,0,none⟩)],.int .i64 (c:Int),Dp Q x.N.ks c,undef,undef,undef,undef,undef,undef,undef,undef,undef,undef,undef,undef,undef,undef,b1,bN,b3,b4,cn,cm,bs,undef,undef,undef,undef,undef,undef,undef,undef,undef,undef,undef],defers:=[]})
    (fun d=>Is w k a d/\M=none)
    ?pZ ?pAx ?pX ?h0 ?assign ?body ?seq ?done ?ret
   case pZ=>
    rintro c d eq a3 ⟨b,h,L⟩ T;rw[Y]at T⊢;exact⟨b,h.put (by omega) b6 (by omega) T a3,L⟩
   case pAx=>
    rintro c R d eq a3 ⟨⟨b,h,L⟩,rfl⟩ T;rw[Y]at T⊢;exact⟨⟨b,h.put (by omega) b6 (by omega) T a3,L⟩,rfl⟩
   case pX=>
    rintro d eq a3 ⟨h,bo⟩ T;rw[Y]at T⊢;exact⟨⟨h.bl.grown (grownBy_putObj' d _ a3) h.bl.size (fun F e=>by cases e;omega),(World.putObj_heap_other (by omega)).trans h.r0,(World.putObj_heap_other (by omega)).trans h.r1,
     ⟨h.mks.nd,h.mks.lo,fun l t=>(World.putObj_heap_other (by rintro rfl;have:=(h.mks.at_ _ t).symm.trans T;cases this)).trans (h.mks.at_ l t)⟩⟩,bo⟩
   case h0=>
    intro g5 hb ho;refine⟨(a:Int),⟨ar.oo.below hb,(hb.block _ (by omega)).trans ar.b5,(hb.block _ (by omega)).trans ar.b7,(hb.block _ (by omega)).trans ar.b8⟩,fa,Int.le_refl _,?_⟩;rw[List.take_of_length_le (by rw[s.out.2.2];exact Nat.le_refl _)];exact bA
   case assign=>
    rintro bt c d bh t ⟨b,h,L⟩ af;have gb:Hid (∃b:Int,sF w r n S k g a (.slice y v C) b d/\0<=b/\b<=(a:Int)/\sh S (x.N.ks.take (c+1)).reverse b=M):=⟨b,h,L⟩;clear h L
    gi_wp2
    exact af _ _ ⟨gb.out,rfl⟩ (KeepsFrom.refl _ _)
   case seq=>
    intro bt fB gr el fF d e5;have ff:v<=C:=by
     have I:=i.out.1.kid a x s.out.1;rw[s.out.2.1,s.out.2.2]at I;rcases I.2 with⟨z,d2⟩|⟨ey,fA,e8,z,_,_,f6,_⟩
     ·omega
     ·cases z;omega
    refine uX 4 bt (g+1+1) v C y _ (by omega) ff fB gr (fun c d h=>?_) (fun c d h F W=>?_) fF d e5
    ·obtain⟨b,L,_⟩:=el c d h;exact aN L.b8
    ·obtain⟨b,L,_⟩:=el c d h;obtain⟨q,E⟩:=aF s.out.2.2 W;obtain⟨gk,ap⟩:∃gk,y=some ⟨gk,0,none⟩:=by
      have I:=i.out.1.kid a x s.out.1;rw[s.out.2.1]at I;rcases ay I with⟨h,_⟩|⟨gk,k,h⟩
      ·rw[s.out.2.2]at h;omega
      ·cases h;exact⟨_,rfl⟩
     obtain⟨f,B,rfl,dk,a0,bb⟩:=i.out.1.kidAt s.out.1 (by rw[s.out.2.1,ap]) E;refine⟨_,ap,?_⟩;rw[iJ,yP E a0];exact aa L.oo.bl bb
   case body=>
    rintro bt c R j t ⟨⟨b,h,e0,e3,A⟩,rfl⟩;rw[Y];obtain⟨q,E⟩:=aF s.out.2.2 t;obtain⟨gk,f3⟩:∃gk,y=some ⟨gk,0,none⟩:=by
     have I:=i.out.1.kid a x s.out.1;rw[s.out.2.1]at I;rcases ay I with⟨h,_⟩|⟨gk,k,h⟩
     ·rw[s.out.2.2]at h;omega
     ·cases h;exact⟨_,rfl⟩
    obtain⟨f,B,rfl,dk,a0,bb⟩:=i.out.1.kidAt s.out.1 (by rw[s.out.2.1,f3]) E;rw[yP E a0];have fr:=aa h.oo.bl (i.out.1.box f B a0).cells.2.2.2.1;have hH:=lt_of_block (i.out.1.box f B a0);have J:S.length=a:=by rw[<-hS,fH,List.length_take,<-i.out.2.1,List.length_map,i.out.2.2.1];omega
    obtain⟨u,am⟩:=aF J dk;have g8:=o.out.2.2 f u am;have g6:u<=(f:Int)+1:=by
     have fu:sj S:=by
      rw[<-hS];refine sn _ (fun N al q E=>?_);obtain⟨cb,ca,e⟩:=List.getElem_of_mem (List.mem_of_mem_take al);have a6:(Q.map Im.N)[cb]?=some N:=by rw[i.out.2.1,List.getElem?_eq_getElem ca,e]
      rw[List.getElem?_map]at a6;cases hLi:Q[cb]? with
      |none=>rw[hLi]at a6;cases a6
      |some gm=>
       rw[hLi]at a6;obtain rfl:=Option.some.inj a6;exact(i.out.1.rng cb gm q hLi E).1
     exact(fu f u am).2
    have bE:S.getD f 0=u:=by rw[List.getD_eq_getElem?_getD,am];rfl
    have ak:(if(f:Int)=b-1/\u≠0 then sh S (x.N.ks.take c).reverse (b-u) else none)=M:=by
     rw[List.take_add_one,E,Option.toList_some,List.reverse_append]at A;show _=M;rw[<-A];show _=sh S ((f:Int)::(x.N.ks.take c).reverse) b;rw[sh,Int.toNat_natCast,bE]
    have hA:=aN h.b5;have ct:=aN h.b7;have d9:=aN h.oo.bx;have U:=h.oo.row;have f4:j.cell? ⟨w.heap.size+1+1,f,none⟩=some (.int .i64 u):=by
     rw[U.cellAt f (by omega),List.getElem?_append_left (by simp;omega),List.getElem?_map,am];rfl
    have b0:=aN h.oo.r0;have cr:=aN h.oo.r1;have e4:j.frozen? ⟨w.heap.size,0,none⟩=false:=frozen_of_row _ _ _ _ _ h.oo.r0;have fo:j.frozen? ⟨w.heap.size+1,0,none⟩=false:=frozen_of_row _ _ _ _ _ h.oo.r1;have fg:j.frozen? ⟨g+1,0,none⟩=false:=frozen_of_row _ _ _ _ _ h.b7;have a4:=fun w=>gw B.N.k B.b w;have p:j.drew.cell? ⟨g+1,0,none⟩=some (.int .i64 (b-1))/\j.drew.cell? ⟨B.b,4,none⟩=some (.int .i64 (f:Int)):=⟨ct,fr⟩;have dn:=ab h;generalize eK (aY B.N.k)=ep at a4⊢;by_cases bd:(f:Int)=b-1
    ·rw[if_pos ⟨bd,by omega⟩]at ak;have bk:=ab ak;clear ak A E bb h am bE J U;have fq:b=(f:Int)+1:=by omega
     subst fq;have d5:(f:Int)+1-1=(f:Int):=by omega
     rw[d5]at ct p;clear bd d5;have hO:(f:Int)<(n:Int):=by omega
     have hC:(0:Int)<=(f:Int):=by omega
     gi_wp2
     refine gH (S:=fun m=>m.cell? ⟨g+1,0,none⟩=some (.int .i64 (f:Int))/\m.cell? ⟨B.b,4,none⟩=some (.int .i64 (f:Int))) (by kernel_rfl) (by kernel_rfl) (fun ⟨_,_,h⟩=>h) p (fun p=>?_);refine aA 0 (.iface ep (.pointer (some ⟨B.b,0,none⟩))) rfl rfl (by kernel_rfl) (fun _ _ _=>id) p (fun m ⟨G,H⟩=>by go_simp) ?_;simp only[List.set];refine aA 5 (.int .i64 (f:Int)) rfl rfl (by kernel_rfl) (fun _ _ _=>id) p (fun m ⟨G,H⟩=>by go_simp) ?_;simp only[List.set];refine wpAnyH_ready (rs:=[1]) (by kernel_rfl) (by simp) (AllReadyH.cons rfl (fun bh af=>?_) AllReadyH.nil);go_simp;refine au (bm _ _) fun a2 es=>?_;subst a2;refine af.out _ _ p (fun p=>?_);clear af bh;try simp only[Act.put,List.setIfInBounds_toArray,List.set_cons_zero,List.set_cons_succ]
     refine aA 2 (.pointer (some ⟨B.b,0,none⟩)) rfl rfl (by kernel_rfl) (fun _ _ _=>id) p (fun m ⟨G,H⟩=>by go_simp) ?_;simp only[List.set];refine aA 3 (.pointer (some ⟨B.b,4,none⟩)) rfl rfl (by kernel_rfl) (fun _ _ _=>id) p (fun m ⟨G,H⟩=>by go_simp) ?_;simp only[List.set];refine aA 4 (.int .i64 (f:Int)) rfl rfl (by kernel_rfl) (fun _ _ _=>id) p (fun m ⟨G,H⟩=>by go_simp) ?_;simp only[List.set];refine aA 6 (.bool false) rfl rfl (by kernel_rfl) (fun _ _ _=>id) p (fun m ⟨G,H⟩=>by go_simp) ?_;simp only[List.set];refine wpAnyH_done (by kernel_rfl) ?_ _
     gi_wp2
     have hg:j.drew.cell? ⟨g+1,0,none⟩=some (.int .i64 (f:Int))/\j.drew.cell? ⟨w.heap.size+1+1,f,none⟩=some (.int .i64 u)/\j.drew.cell? ⟨r,0,none⟩=some (.slice (some ⟨w.heap.size+1+1,0,none⟩) n n)/\j.drew.frozen? ⟨g+1,0,none⟩=false:=⟨ct,f4,d9,fg⟩;have hp:IntKind.i64.wrap ((f:Int)-u)=(f:Int)-u:=by rw[IntKind.wrap_i64];omega
     have K:=dn.out;have hn:g+1≠w.heap.size+1+1:=by omega
     have dq:sF w r n S k g a (.slice y v C) ((f:Int)+1-u) (j.setCell ⟨g+1,0,none⟩ (.int .i64 ((f:Int)-u))).drew.drew:=by
      have fc:(f:Int)+1-u-1=(f:Int)-u:=by omega
      refine⟨⟨(K.oo.bl.setCell (by simp;omega) _).drew.drew,(heap_setCell_other _ _ _ _ (by simp;omega)).trans K.oo.r0,(heap_setCell_other _ _ _ _ (by simp;omega)).trans K.oo.r1,?_,(heap_setCell_other _ _ _ _ (by simp;omega)).trans K.oo.bx,(K.oo.mks.keeps (KeepsOthers.setCell _ _ _)).keeps ((KeepsOthers.drew _).trans (KeepsOthers.drew _))⟩,(heap_setCell_other _ _ _ _ (by simp)).trans K.b5,?_,(heap_setCell_other _ _ _ _ (by simp)).trans K.b8⟩
      ·exact(show(j.setCell ⟨g+1,0,none⟩ (.int .i64 ((f:Int)-u))).ownsRow _ _ _ _ _ _ from K.oo.row.kept (grownBy_setCell' j (g+1) _) (.inr (by simp[Value.ownBlock];omega)))
      ·rw[fc];exact heap_setCell_same _ _ 0 _ _ _ K.b7
     have fm:Hid (BI (g+1+1+1) j (fun d=>∃b:Int,sF w r n S k g a (.slice y v C) b d/\0<=b/\b<=(a:Int)/\sh S (x.N.ks.take c).reverse b=M) (fun d=>Is w k a d/\M=none) .normal {tmps:=#[],defers:=[]} (j.setCell ⟨g+1,0,none⟩ (.int .i64 ((f:Int)-u))).drew.drew):=
      ⟨(((KeepsOthers.setCell _ _ _).trans (KeepsOthers.drew _)).trans (KeepsOthers.drew _)).from _,_,dq,by omega,by omega,bk.out⟩
     clear dn bk s i o a4 p K dq
     gi_region
     all_goals exact fm.out
    ·rw[if_neg (fun e=>bd e.1)]at ak;have bk:=ab ak;have c0:Is w k a ((j.drew.setCell ⟨w.heap.size,0,none⟩ (.int .i64 (a:Int))).setCell ⟨w.heap.size+1,0,none⟩ (.bool true)):=
      ⟨((h.oo.bl.drew.setCell (by simp) _).setCell (by simp) _),(heap_setCell_other _ _ _ _ (by simp)).trans (heap_setCell_same _ _ 0 _ _ _ h.oo.r0),heap_setCell_same _ _ 0 _ _ _ ((heap_setCell_other _ _ _ _ (by simp)).trans h.oo.r1),
       ((h.oo.mks.keeps (KeepsOthers.drew j)).keeps (KeepsOthers.setCell _ _ _)).keeps (KeepsOthers.setCell _ _ _)⟩
     have gd:=ab c0;have g0:((f:Int)==b-1)=false:=by rw[beq_eq_false_iff_ne];exact bd
     clear ak A E bb h am bE J U c0
     gi_wp2
     refine gH (S:=fun m=>m.cell? ⟨g+1,0,none⟩=some (.int .i64 (b-1))/\m.cell? ⟨B.b,4,none⟩=some (.int .i64 (f:Int))) (by kernel_rfl) (by kernel_rfl) (fun ⟨_,_,h⟩=>h) p (fun p=>?_);refine aA 0 (.iface ep (.pointer (some ⟨B.b,0,none⟩))) rfl rfl (by kernel_rfl) (fun _ _ _=>id) p (fun m ⟨G,H⟩=>by go_simp) ?_;simp only[List.set];refine aA 5 (.int .i64 (b-1)) rfl rfl (by kernel_rfl) (fun _ _ _=>id) p (fun m ⟨G,H⟩=>by go_simp) ?_;simp only[List.set];refine wpAnyH_ready (rs:=[1]) (by kernel_rfl) (by simp) (AllReadyH.cons rfl (fun bh af=>?_) AllReadyH.nil);go_simp;refine au (bm _ _) fun a2 es=>?_;subst a2;refine af.out _ _ p (fun p=>?_);clear af bh;try simp only[Act.put,List.setIfInBounds_toArray,List.set_cons_zero,List.set_cons_succ]
     refine aA 2 (.pointer (some ⟨B.b,0,none⟩)) rfl rfl (by kernel_rfl) (fun _ _ _=>id) p (fun m ⟨G,H⟩=>by go_simp) ?_;simp only[List.set];refine aA 3 (.pointer (some ⟨B.b,4,none⟩)) rfl rfl (by kernel_rfl) (fun _ _ _=>id) p (fun m ⟨G,H⟩=>by go_simp) ?_;simp only[List.set];refine aA 4 (.int .i64 (f:Int)) rfl rfl (by kernel_rfl) (fun _ _ _=>id) p (fun m ⟨G,H⟩=>by go_simp) ?_;simp only[List.set];refine aA 6 (.bool true) rfl rfl (by kernel_rfl) (fun _ _ _=>id) p (fun m ⟨G,H⟩=>by go_simp) ?_;simp only[List.set];refine wpAnyH_done (by kernel_rfl) ?_ _
     gi_wp2
     exact⟨(((KeepsOthers.drew j).from _).trans ((KeepsOthers.setCell _ _ _).from _)).trans ((KeepsOthers.setCell _ _ _).from _),gd.out,bk.out.symm⟩
   case ret=>
    rintro j ⟨h,bo⟩ ao;rw[Y]at ao⊢;have f2:a1=some a:=by
     have z:=o.out.2.1;rw[show n-a=(n-(a+1))+1 by omega,cO,if_pos]at z
     ·exact z.symm
     ·unfold cp;rw[ap];unfold iI;rw[bA,bo];rfl
    show LeavesInM _ _ _ _ _ _ (((g+1+1+1)::k).map lK) .returning j;refine eJ (w.heap.size+1+1+1) _ j ⟨List.nodup_cons.2 ⟨fun t=>by have:=cN _ t;omega,h.mks.nd⟩,fun l hb=>?_,fun l hb=>?_⟩ (fun cg A=>?_)
    ·rcases List.mem_cons.1 hb with rfl|hb
     ·omega
     ·exact h.mks.lo l hb
    ·rcases List.mem_cons.1 hb with rfl|hb
     ·exact ao
     ·exact h.mks.at_ l hb
    ·have cw:∀l∈(g+1+1+1)::k,w.heap.size+1+1+1<=l:=fun l hb=>by
      rcases List.mem_cons.1 hb with rfl|hb
      ·omega
      ·exact h.mks.lo l hb
     have b0:=(A.same w.heap.size (fun t=>by have:=cw _ t;omega)).trans h.r0;have cr:=(A.same (w.heap.size+1) (fun t=>by have:=cw _ t;omega)).trans h.r1;refine⟨_,jp rfl _ _ _ ⟨w.heap.size,0,none⟩ ⟨w.heap.size+1,0,none⟩ _ _ rfl rfl (uZ _ _ _ (aN b0)) (qO _ _ _ (aN cr)),?_,A.below h.bl (fun l hb=>by have:=cw l hb;omega) (Nat.le_refl _)⟩;rw[f2];rfl
   case done=>
    rintro j ⟨b,h,e0,e3,A⟩ ao;rw[Y]at ao⊢;have ds:M=some b:=by rw[<-A];rfl
    have b2:iI S a x.N.ks=(a:Int)-(b-1):=by unfold iI;rw[bA,ds];show(a:Int)-b+1=_;omega
    have J:S.length=a:=by rw[<-hS,fH,List.length_take,<-i.out.2.1,List.length_map,i.out.2.2.1];omega
    have U:=h.oo.row;have g4:j.cell? ⟨w.heap.size+1+1,a,none⟩=some (.int .i64 0):=by
     rw[U.cellAt a (by omega),List.getElem?_append_right (by simp;omega),List.length_map,J,Nat.sub_self,List.getElem?_replicate,if_pos (by omega)]
    have hv:=U.frozenAt a;have ch:=(U.stored a (.int .i64 ((a:Int)-(b-1)))).1;rw[J,qL S n a ((a:Int)-(b-1)) J d8]at ch;have cl:dR (ns.take (a+1))=S++[(a:Int)-(b-1)]:=by rw[vd eg,hS,b2]
    have ec:eY (w.heap.size+1+1+1) ((g+1+1+1)::k) j:=⟨List.nodup_cons.2 ⟨fun t=>by have:=cN _ t;omega,h.oo.mks.nd⟩,fun l hb=>by
      rcases List.mem_cons.1 hb with rfl|hb
      ·omega
      ·exact h.oo.mks.lo l hb,fun l hb=>by
      rcases List.mem_cons.1 hb with rfl|hb
      ·exact ao
      ·exact h.oo.mks.at_ l hb⟩
    have b9:mO w r n (S++[(a:Int)-(b-1)]) ((g+1+1+1)::k) (j.setCell ⟨w.heap.size+1+1,a,none⟩ (.int .i64 ((a:Int)-(b-1)))):=
     ⟨h.oo.bl.setCell (by simp;omega) _,(heap_setCell_other _ _ _ _ (by simp;omega)).trans h.oo.r0,(heap_setCell_other _ _ _ _ (by simp)).trans h.oo.r1,by rw[List.length_append,J];exact ch,(heap_setCell_other _ _ _ _ (by simp;omega)).trans h.oo.bx,ec.keeps (KeepsOthers.setCell _ _ _)⟩
    have f9:Hid (mO w r n (dR (ns.take (a+1))) ((g+1+1+1)::k) (j.setCell ⟨w.heap.size+1+1,a,none⟩ (.int .i64 ((a:Int)-(b-1))))/\cO (cp (dR ns)) (n-(a+1)) (a+1)=a1/\∀(F:Nat) q,(dR (ns.take (a+1)))[F]?=some q->1<=q):=by
     refine⟨by rw[cl];exact b9,?_,fun F q W=>?_⟩
     ·have z:=o.out.2.1;rw[show n-a=(n-(a+1))+1 by omega,cO,if_neg]at z
      ·exact z
      ·unfold cp;rw[ap,b2];simp;omega
     ·rw[cl]at W;rcases Nat.lt_or_ge F a with g1|g1
      ·rw[List.getElem?_append_left (by omega)]at W;exact o.out.2.2 F q W
      ·rw[List.getElem?_append_right (by omega)]at W;obtain⟨z,d2⟩:=List.getElem?_eq_some_iff.1 W;simp at z d2;omega
    have hh:=aN h.oo.bx;have he:=aN h.b5;have hG:=aN h.b7;have f5:r<(j.setCell ⟨w.heap.size+1+1,a,none⟩ (.int .i64 ((a:Int)-(b-1)))).heap.size:=lt_of_block b9.bx;have gv:((a:Int)-(b-1))<=3001/\1<=((a:Int)-(b-1)):=by omega
    refine ex _ _ ?_;clear ds b2 J U ch cl ec b9 h A ao ex e9 o;go_wp2_with fail;exact⟨⟨a+1,(g+1+1+1)::k,by omega,f5,f9,_,_,_,_,_,_,_,_,_,_,_,_,_,_,_,_,_,_,_,_,_,_,rfl⟩,by simp[intOf];omega⟩
  ·obtain rfl:a=n:=by omega
   have ht:¬(a:Int)<(a:Int):=by omega
   obtain⟨c,rfl⟩:∃c,a=c+1:=⟨a-1,by omega⟩;have hS:dR (ns.take (c+1))=dR ns:=by rw[List.take_of_length_le (by rw[<-i.out.2.1,List.length_map,i.out.2.2.1];exact Nat.le_refl _)]
   rw[hS]at o;have J:(dR ns).length=c+1:=by rw[fH,<-i.out.2.1,List.length_map,i.out.2.2.1]
   obtain⟨q,E⟩:=aF J (show c<c+1 by omega);have c4:a1=none:=by have:=o.out.2.1;rw[Nat.sub_self,cO]at this;exact this.symm
   have cT:(dR ns).getD c 0=q:=by rw[List.getD_eq_getElem?_getD,E];rfl
   have cf:=cS o.out.1 c4 cT;have g9:d.cell? ⟨w.heap.size+1+1,c,none⟩=some (.int .i64 q):=by
    rw[o.out.1.row.cellAt c (by omega),List.getElem?_append_left (by simp;omega),List.getElem?_map,E];rfl
   have d9:=aN o.out.1.bx;have b0:=aN o.out.1.r0;have cr:=aN o.out.1.r1;have e4:d.frozen? ⟨w.heap.size,0,none⟩=false:=frozen_of_row _ _ _ _ _ o.out.1.r0;have fo:d.frozen? ⟨w.heap.size+1,0,none⟩=false:=frozen_of_row _ _ _ _ _ o.out.1.r1;have hP:(c:Int)+1-1=(c:Int):=by omega
   have hc:(0:Int)<=(c:Int):=by omega
   have hL:(c:Int)<(c:Int)+1:=by omega
   clear E cT c4 hS o i;go_wp2_with fail;have gt:w.heap.size≠r:=by omega
   have hM:w.heap.size+1≠r:=by omega
   have hf:w.heap.size≠w.heap.size+1+1:=by omega
   have ha:w.heap.size+1≠w.heap.size+1+1:=by omega
   go_region_held3 (fun m=>m.cell? ⟨r,0,none⟩=some (.slice (some ⟨w.heap.size+1+1,0,none⟩) (c+1) (c+1))/\m.cell? ⟨w.heap.size+1+1,c,none⟩=some (.int .i64 q)) (go_keep) (fail)
   all_goals go_wp2_with fail
   have h:=cf.out.1;show LeavesInM _ _ _ _ _ _ (k.map lK) .returning _;refine eJ (w.heap.size+1+1+1) k _ (((h.mks.keeps (KeepsOthers.setCell _ _ _)).keeps (KeepsOthers.setCell _ _ _)).keeps (KeepsOthers.drew _)) (fun cg A=>?_);have f8:cg.heap[w.heap.size]?=some (.cells #[.int .i64 (c:Int)] 3 (0,0)):=(A.same _ (fun t=>by have:=h.mks.lo _ t;omega)).trans ((heap_setCell_other _ _ _ _ (by simp)).trans (heap_setCell_same _ _ 0 _ _ _ h.r0));have fb:cg.heap[w.heap.size+1]?=some (.cells #[.bool (decide (q<(c:Int)+1))] 4 (0,0)):=(A.same _ (fun t=>by have:=h.mks.lo _ t;omega)).trans (heap_setCell_same _ _ 0 _ _ _ ((heap_setCell_other _ _ _ _ (by simp)).trans h.r1));refine⟨_,jp rfl _ _ _ ⟨w.heap.size,0,none⟩ ⟨w.heap.size+1,0,none⟩ _ _ rfl rfl (uZ _ _ _ (aN f8)) (qO _ _ _ (aN fb)),?_,A.below (((h.bl.setCell (by simp) _).setCell (by simp) _).drew) (fun l hb=>by have:=h.mks.lo l hb;omega) (Nat.le_refl _)⟩;have fz:((c+1:Nat):Int)=(c:Int)+1:=by omega
   rw[cf.out.2.1];simp only[sE,Nat.add_sub_cancel,cf.out.2.2,fz,Int.add_sub_cancel]
end Go.Proofs.YtcbmoiabehpliaaGreatDoor
