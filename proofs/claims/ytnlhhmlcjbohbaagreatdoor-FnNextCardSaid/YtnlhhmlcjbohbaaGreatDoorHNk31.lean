import Derived.Test.YtnlhhmlcjbohbaaGreatDoorHNk27
import Derived.Test.YtnlhhmlcjbohbaaGreatDoorHNk29
import Derived.Test.YtnlhhmlcjbohbaaGreatDoorHNk25
set_option linter.all false
set_option maxRecDepth 100000
set_option maxHeartbeats 12800000
open Option renaming some->M,none->O
open Go renaming undef->Q,World->Y,Value->Ax,grownBy_putObj'->B6,Calls->C5,wpAnyH_ready->C6,TypeId->E2,maxLen->F2
open Go.World renaming putObj_heap_other->R
open Go.Proofs.Tryz renaming prog->U
open Go.RowKit renaming Below->V,Hid->Br,intOf->C7
open Go.KeepsOthers renaming setCell->X
open List renaming set->Z,replicate->B7
open Go.Value renaming slice->A0,pointer->B0,int->B1,tuple->Ce,int->Cr,nilIface->C8,bool->Fs,agg->Ft,ownBlock->F0,iface->F1
open Go.Lib renaming asciiSpaceTab->A2,TabIs->C4
open Bool renaming false->A5,true->E1
open Go.Ending renaming returned->A9
open Go.IntKind renaming i64->B3
open Go.Obj renaming cells->B4
open Go.AllReadyH renaming cons->Ck,nil->C2
namespace Go.Proofs.YtnlhhmlcjbohbaaGreatDoor
open Go.RowKit
variable{B b base e k n:Nat}{L:List Im}{S:List Int}{W W' w:World}{a c:Int}{ns:List Nd}{r:Loop}{v vs:Value}{xs:List Value}
theorem LL(n l Bs b o:Nat)(a:Option Addr)(f:Nat->Ax)(J:b<=3000)(H:b<=o)(c:Nat->Y->Prop)(k:Y->Prop)
  (q:∀m W,c m W->W.cell? ⟨Bs,0,O⟩=M (A0 a b o))
  (y:∀m W,c m W->∀j,j<b->∃h,a=M h/\W.cell? (h.add j)=M (f j))
  (x:∀m W,m<b->c (m+1) W->YieldAt Fence.wide (n-1) U l #[B1 B3 (m:Int),f m] W fun e W'=>(e= A9 (Fs E1)/\c m W')\/(e= A9 (Fs A5)/\k W'))
  (W:Y) (p:c b W):
  CallsIn Fence.wide n U 193 #[.func (.yield l) #[] #[],B0 (M ⟨Bs,0,O⟩)] W fun e W'=>(∃v,e= A9 v)/\(c 0 W'\/k W'):=by
 have F:=q _ _ p;refine callsIn_of_wp Tryz.func193 rfl trivial ?_ rfl;simp only[Tryz.ntmps193,iI,bi,dH,Nat.reduceAdd,Nat.reduceSub,iu,kF,kG,pc,ep,eC]
 gi_wp2
 gi_loopw [3] (fun i wr=>∃d:Nat,d<=b/\i= B1 B3 ((d:Int)-1)/\c d wr) (fun i _=>(C7 i+1).toNat)
 case atStart=>exact⟨b,ae _,rfl,p⟩
 case round=>
  obtain⟨d,I,rfl,g⟩:=hrel;have E:=q _ _ g;rcases qI d with rfl|hp
  ·gi_wp2
   go_end0
   exact⟨⟨_,rfl⟩,.inl g⟩
  ·obtain⟨m,rfl⟩:∃m,d=m+1:=⟨d-1,by omega⟩;obtain⟨h,rfl,G⟩:=y _ _ g m (by omega);obtain⟨C,tmps,A,B,K,w⟩:=x m wr (by omega) g;have r:((m+1:Nat):Int)-1=(m:Int):=by omega
   rw[r];have L:(m:Int)<(b:Int):=by omega
   have ad:(0:Int)<=(m:Int):=by omega
   gi_wp2
   refine⟨fun s=>by simp[Fence.wide]at s,w.mono ?_⟩;rintro e z (⟨rfl,t⟩|⟨rfl,u⟩)
   ·gi_wp2
    go_roundw
    case rel=>exact⟨m,by omega,by simp,t⟩
    case measure=>simp[C7]
   ·gi_wp2
    refine aI (ip rfl _ _ _) rfl ?_;exact⟨⟨_,rfl⟩,.inr u⟩
theorem zG(a:Option Addr)(c b:Nat)(w:Y):
  C5 U 150 #[A0 a c b] w fun e d=>e= A9 (.func (.func 193) #[] #[B0 (M ⟨w.heap.size,0,O⟩)])/\d=w.alloc (B4 #[A0 a c b] 113):=by
 refine calls_of_wp Tryz.func150 rfl ?_;simp only[Tryz.ntmps150,iI,bi,dH,Nat.reduceAdd,Nat.reduceSub,iu,kF,kG,pc,ep,eC];go_wp2;go_ret;exact⟨rfl,rfl⟩
attribute [local go_sem] kH
def adz:Option Nat->Ax
 |some i=> Ce #[B1 B3 (i:Int),Fs E1]
 |none=> Ce #[B1 B3 0,Fs A5]
structure Ey (w:Y) (B:Nat) (vs:Ax) (n:Nat) (D:List Int) (W:Y):Prop where
 bl:V w.heap.size w W
 row:W.ownsRow w.heap.size 3 1 (.slice (M ⟨w.heap.size,0,O⟩) n n) n (D.map (Cr .i64))
 bx:W.heap[B]?=M (.cells #[.slice (M ⟨w.heap.size,0,O⟩) n n] 24 (0,0))
 bs:W.heap[B+1]?=M (.cells #[vs] 113 (0,0))
 ok:aeC n D
theorem Ey.put{D:List Int}(h:Ey w B vs n D W)(c:w.heap.size<B)(d:B+1<k)(b:W.heap[k]?=M (.loop r))(o:Obj):Ey w B vs n D (W.putObj k o):=
 ⟨h.bl.grown (B6 W k o) h.bl.size (fun e a=>by cases a;omega),ownsRow_putObj h.row o b rfl,(R (by omega)).trans h.bx,(R (by omega)).trans h.bs,h.ok⟩
structure apw (w:Y) (B:Nat) (vs:Ax) (n t:Nat) (ks D:List Int) (j:Nat) (E:List Int) (W0 W:Y):Prop where
 st:Ey w B vs n E W
 rest:dpK t (ks.drop j) E=dpK t ks D
 kf:KeepsFrom (B+2) W0 W
theorem A1{size:Nat}(h:W.ownsRow base e size v n xs):∃a b,v= A0 a n b:=by
 rcases h.2 with⟨rfl,c⟩|⟨f,b,d,rfl,_⟩
 ·exact⟨O,0,by rw[c]⟩
 ·exact⟨_,_,rfl⟩
theorem L4{size m c:Nat}{a:Option Addr}(h:W.ownsRow base e size (A0 a n c) m xs):n=m:=by
 obtain⟨b,d,e⟩:=A1 h;cases e;rfl
theorem mq.at{g c:Nat}(h:mq W base (A0 (M ⟨g,0,O⟩) n c) L){i:Nat}{x:Im}(a:L[i]?=M x):W.cell? ⟨g,i,O⟩=M (F1 (pv (ez x.N.k)) (B0 (M ⟨x.b,0,O⟩))):=by
 have e:i<L.length:=(List.getElem?_eq_some_iff.1 a).1;have d:=L4 h.row;subst d;rw[h.row.cellAt i (by omega),bK,a];rfl
theorem mq.kidAt(h:mq W base vs L){i:Nat}{x:Im}(d:L[i]?=M x){g c:Nat}(m:x.kv= A0 (M ⟨g,0,O⟩) n c){j:Nat}{z:Int}(e:x.N.ks[j]?=M z):
  ∃q y,z=((q:Nat):Int)/\q<i/\L[q]?=M y/\W.cell? ⟨g,j,O⟩=M (F1 (pv (ez y.N.k)) (B0 (M ⟨y.b,0,O⟩))):=by
 obtain⟨z0,r⟩:=h.rng i x z d (cG e);obtain⟨q,rfl⟩:=gl z0;have o:i<L.length:=(List.getElem?_eq_some_iff.1 d).1;have p:j<x.N.ks.length:=(List.getElem?_eq_some_iff.1 e).1;have f:q<i:=by omega
 refine⟨q,L[q]'(by omega),rfl,f,aE _,?_⟩;have a:=h.kid i x d;rw[m]at a;have l:=L4 a;subst l;rw[a.cellAt j (by omega)];unfold qx;rw[bK,e];simp only[tj,jz];rw[mu,ab f,aE (by omega)];rfl
theorem Fb(w:Y)(base:Nat)(bD:Ax)(G:List Im)(ar:mq w base bD G)(ns:List Nd)(cf:G.map Im.N=ns)(n:Nat)(bf:G.length=n)(ee:1<=n)(r:n<=3000)(ce:∀x∈G,x.N.ks.length<=200):
  C5 U 97 #[bD] w fun e o=>e= .returned (adz (ir (iL (Ix ns)) n 0))/\V w.heap.size w o:=by
 obtain⟨f,j,rfl⟩:∃f b1,bD= .slice (M ⟨f,0,O⟩) n b1:=by
  rcases bq ar.row with⟨h,_⟩|h
  ·omega
  ·rw[<-bf];exact h
 have c6:n<=j:=by
  rcases ar.row.2 with⟨r,_⟩|⟨ec,d5,d7,r,_,_,ef,_⟩
  ·cases r
  ·cases r;omega
 obtain⟨ds,c9,dk,dn,dq⟩:=dD tr;obtain⟨bb,bh⟩:=aA (ir (iL (Ix ns)) n 0);rw[bh];have q:=Jd ar cf bf bh ce;clear ar cf bf bh ce;refine my (n:=5).1 ?_;refine callsIn_of_wp_marks Tryz.func97 rfl trivial ?_ rfl;simp only[Tryz.ntmps97,iI,bi,dH,Nat.reduceAdd,Nat.reduceSub,iu,kF,kG,pc,ep,eC];refine wpIn_wide.2 ?_;go_wp2_with (first|(at_make;refine yr _ rfl _ _ 24 rfl w.heap.size 3 ds (.int .i64 0) 1 Tryz.underlying24 c9 dk dn .i64 .i64 _ _ n rfl rfl rfl rfl (by rw[dq];omega) (by unfold F2;omega) (ae _) ?_;intro E a5 I)|(go_at_call 150;refine(zG (M ⟨f,0,O⟩) n j _).mono ?_;rintro e e3 ⟨rfl,rfl⟩));rename_i d2 b6;have b8:V w.heap.size w E:=⟨I.os,I.tape,I.output,I.size,fun g dc=>I.block g dc (by simp)⟩;rw[show(madeCells (Cr .i64 0).cells (n*1)).toList=B7 n (Cr .i64 0) by rw[ti];exact ym _ n]at a5;have br:w.heap.size<E.heap.size:=(a5.lt w.heap.size rfl).2;obtain⟨c,ap⟩:=aA E.heap.size;have J:Ey w c (.slice (M ⟨f,0,O⟩) n j) n (B7 n 0) ((E.alloc (.cells #[.slice (M ⟨w.heap.size,0,O⟩) n n] 24)).alloc (.cells #[.slice (M ⟨f,0,O⟩) n j] 113)):=by
  refine⟨(b8.alloc (by omega) _).alloc (by simp;omega) _,?_,?_,?_,?_⟩
  ·rw[List.map_replicate];exact(a5.alloc _).alloc _
  ·exact(cC _ _ _ (by simp;omega)).trans (by rw[<-ap];exact ay E _)
  ·have:=ay (E.alloc (.cells #[.slice (M ⟨w.heap.size,0,O⟩) n n] 24)) (.cells #[.slice (M ⟨f,0,O⟩) n j] 113);rw[dr,ap]at this;exact this
  ·refine⟨by simp,fun s an a2=>?_⟩;obtain⟨r,c0⟩:=List.getElem?_eq_some_iff.1 a2;simp at r c0;omega
 have K:((E.alloc (.cells #[.slice (M ⟨w.heap.size,0,O⟩) n n] 24)).alloc (.cells #[.slice (M ⟨f,0,O⟩) n j] 113)).heap.size=c+2:=by simp;omega
 rw[ap]at br⊢;generalize (E.alloc (.cells #[.slice (M ⟨w.heap.size,0,O⟩) n n] 24)).alloc (.cells #[.slice (M ⟨f,0,O⟩) n j] 113)=d4 at J K⊢;clear a5 I b8 ap;refine(qG (n:=5)).1 ?_;refine wm (P:=U) (gf:=193) (lb:=#[.pointer (M ⟨c+1,0,O⟩)]) rfl (enters_of Tryz.func193 (by kernel_rfl) rfl)
  (fun a=>#[.int .i64 (a:Int),match G[a]? with|some x=> .iface (pv (ez x.N.k)) (.pointer (M ⟨x.b,0,O⟩))|none=> .nilIface]) (fun _=>rfl) n
  (fun a b=>∃D,Ey w c (.slice (M ⟨f,0,O⟩) n j) n D b/\dpN ns a D=Ix ns)
  (fun a L b=>(∃D,Ey w c (.slice (M ⟨f,0,O⟩) n j) n D b/\dpN ns (a+1) D=Ix ns)/\∃x,G[a]?=M x/\
   L={tmps:=#[.slice (M ⟨f,0,O⟩) n j,Q,.int .i64 0,.bool A5,.pointer (M ⟨c,0,O⟩),.int .i64 (a:Int),.iface (pv (ez x.N.k)) (.pointer (M ⟨x.b,0,O⟩)),Q,Q,Q,Q,
    .slice (M ⟨f,0,O⟩) n j,.int .i64 (n:Int),.slice (M ⟨w.heap.size,0,O⟩) n n,.slice (M ⟨f,0,O⟩) n j,.func (.func 193) #[] #[.pointer (M ⟨c+1,0,O⟩)],.int .i64 (a:Int),.iface (pv (ez x.N.k)) (.pointer (M ⟨x.b,0,O⟩)),
    Q,Q,Q,Q,Q,Q,Q,Q,Q,Q,Q,Q,Q,Q,Q,Q,Q,Q,Q,Q,Q,Q,Q,Q,Q,Q,Q,Q,Q,Q,Q,Q,Q,Q],defers:=[]})
  (fun _=>False)
  ?pZ ?pAx ?pX ?h0 ?assign ?body ?seq ?done ?ret
 case pZ=>
  rintro a b cp a7 ⟨D,h,m⟩ ag;rw[K]at ag⊢;exact⟨D,h.put br (by omega) ag a7,m⟩
 case pAx=>
  rintro a L b cp a7 ⟨⟨D,h,m⟩,x,p,rfl⟩ ag;rw[K]at ag⊢;exact⟨⟨D,h.put br (by omega) ag a7,m⟩,x,p,rfl⟩
 case pX=>intro b cp a7 h;exact h.elim
 case h0=>
  intro cy a0 eF;have c5:V w.heap.size w cy:=J.bl.trans (a0.mono (by omega));exact⟨B7 n 0,⟨c5,bJ J.row a0,(a0.block _ (by omega)).trans J.bx,(a0.block _ (by omega)).trans J.bs,J.ok⟩,by rw[Ix,<-q.out.2.1,cA,q.out.2.2.1]⟩
 case assign=>
  rintro a6 a b d3 a3 ⟨D,h,m⟩ b7;obtain⟨x,p⟩:=co q.2.2.1 a3;rw[p]at⊢;have d1:=fun L=>b7 L b;have i:=iF h m p;clear h m p
  gi_wp2
  exact b7 _ _ ⟨⟨D,i.1,i.2.1⟩,x,i.2.2,rfl⟩ (KeepsFrom.refl _ _)
 case body=>
  rintro a6 a L b a3 ⟨⟨D,h,m⟩,x,p,rfl⟩;rw[K];have bj:=aj h.bl (q.1.box a x p).cells.2.2.2.2.1;have af:=q.1.kid a x p;obtain⟨cB,d8,B⟩:=A1 af;rw[B]at bj;have dd:=q.2.2.2.2 x (cG p);obtain⟨al,bo⟩:=aA x.N.ks.length;rw[bo]at bj dd B;have ch:ns[a]?=M x.N:=by rw[<-q.out.2.1,bK,p];rfl
  have b9:dpN ns a (dpK a x.N.ks D)=Ix ns:=by
   rw[dpN,aK,ch,gj]at m;exact m
  have i:=CB p b9 bo B;have b0:Br (apw w c (.slice (M ⟨f,0,O⟩) n j) n a x.N.ks D 0 D b b):=⟨h,rfl,KeepsFrom.refl _ _⟩;have a4:=fun w=>sD x.N.k x.b w;have es:(a:Int)<(n:Int):=by omega
  have eq:(0:Int)<=(a:Int):=by omega
  have cn:=fun (cF:Nat) w=>CallsIn.inRound a6 (my (n:=2).2 (fx cF w));generalize pv (ez x.N.k)=e2 at a4⊢;clear p m b9 af ch bo B h
  gi_wp2_with (refine⟨trivial,?_⟩;gi_at_call 285;refine(cn _ _).mono ?_;rintro e am ⟨rfl,cl⟩;subst am)
  gi_loopw [24] (fun F d0=>∃(s:Nat) (v:List Int),s<=al/\F= .int .i64 s/\Br (apw w c (.slice (M ⟨f,0,O⟩) n j) n a x.N.ks D s v b d0)) (fun F _=>al-(C7 F).toNat)
  case atStart=>exact⟨0,D,aF _,rfl,b0⟩
  case round=>
   obtain⟨s,v,a2,rfl,l⟩:=hrel;clear b0 bj a4;by_cases da:s<al
   ·have ek:(s:Int)<(al:Int):=by omega
    have ei:(0:Int)<=(s:Int):=by omega
    obtain⟨an,C⟩:=co i.2.2.1 da;have B:=i.2.2.2;obtain⟨gk,c8⟩:∃gk,cB=M ⟨gk,0,O⟩:=by
     have af:=q.1.kid a x i.1;rw[B]at af;rcases bq af with⟨h,_⟩|⟨gk,b1,h⟩
     ·rw[i.out.2.2.1]at h;omega
     ·cases h;exact⟨_,rfl⟩
    subst c8;obtain⟨d,u,rfl,dg,bt,c7⟩:=(q.1.below (l.st.bl)).kidAt i.1 B C;have cg:=aj l.st.bl (q.1.box d u bt).cells.2.2.2.1;obtain⟨k,a1⟩:=co l.st.ok.1 a3;obtain⟨cI,ca⟩:=co l.st.ok.1 (show d<n by omega);have eh:=l.st.ok.2 a k a1;have H:Ey w c (.slice (M ⟨f,0,O⟩) n j) n v wr.drew:=⟨l.st.bl.drew,l.st.row,l.st.bx,l.st.bs,l.st.ok⟩;have ak:=H.row;have b2:wr.drew.cell? ⟨w.heap.size,a,O⟩=M (.int .i64 k):=by rw[ak.cellAt a (by omega),bK,a1];rfl
    have d6:wr.drew.cell? ⟨w.heap.size,d,O⟩=M (.int .i64 cI):=by rw[ak.cellAt d (by omega),bK,ca];rfl
    have ea:=ak.frozenAt d;have bn:v.getD a 0=k:=by rw[aK,a1];rfl
    have bw:=(ak.stored d (.int .i64 (k+1))).1;rw[<-List.map_set]at bw;have bA:=l.st.ok.set a d a3 dg;rw[bn]at bA;have ck:dpK a (x.N.ks.drop (s+1)) (v.set d (k+1))=dpK a x.N.ks D:=by
     have r:=l.rest;have cc:=(List.getElem?_eq_some_iff.1 C);rw[iH cc.1,cc.2,dpK,bn]at r;exact r
    have bd:wr.drew.cell? ⟨c,0,O⟩=_:=du H.bx;have cr:Ey w c (.slice (M ⟨f,0,O⟩) n j) n (v.set d (k+1)) (wr.drew.setCell ⟨w.heap.size,d,O⟩ (.int .i64 (k+1))):=
     ⟨H.bl.setCell (ae _) _,bw,(aC _ _ _ _ (by simp;omega)).trans H.bx,(aC _ _ _ _ (by simp;omega)).trans H.bs,bA⟩
    have cs:Br (apw w c (.slice (M ⟨f,0,O⟩) n j) n a x.N.ks D (s+1) (v.set d (k+1)) b (wr.drew.setCell ⟨w.heap.size,d,O⟩ (.int .i64 (k+1)))):=⟨cr,ck,l.kf.trans (((KeepsOthers.drew wr).from _).trans ((X _ _ _).from _))⟩;have ev:d≠a:=by omega
    have e0:IntKind.i64.wrap (k+1)=k+1:=by rw[di];omega
    have e1:=ai (q.1.box d u bt);have c2:(wr.drew.setCell ⟨w.heap.size,d,O⟩ (.int .i64 (k+1))).cell? ⟨c,0,O⟩=M (.slice (M ⟨w.heap.size,0,O⟩) n n)/\(wr.drew.setCell ⟨w.heap.size,d,O⟩ (.int .i64 (k+1))).cell? ⟨u.b,4,O⟩=M (.int .i64 (d:Int))/\(wr.drew.setCell ⟨w.heap.size,d,O⟩ (.int .i64 (k+1))).cell? ⟨w.heap.size,a,O⟩=M (.int .i64 k):=
     ⟨(World.cell?_setCell_far _ _ _ _ (by simp;omega)).trans bd,(World.cell?_setCell_far _ _ _ _ (by simp;omega)).trans cg,(World.cell?_setCell_other _ _ _ _ (by simp;try omega)).trans b2⟩
    have ex:(d:Int)<(n:Int):=by omega
    have ew:(0:Int)<=(d:Int):=by omega
    have a4:=fun w=>sD u.N.k u.b w;generalize pv (ez u.N.k)=dx at a4 c7;clear C l bw bA ck cr ak a1 ca bn B bt H
    gi_wp2_with (refine⟨trivial,?_⟩;gi_at_call 285;refine(cn _ _).mono ?_;rintro e am ⟨rfl,cl⟩;subst am)
    have c1:wr.drew.cell? ⟨c,0,O⟩=M (.slice (M ⟨w.heap.size,0,O⟩) n n)/\wr.drew.cell? ⟨u.b,4,O⟩=M (.int .i64 (d:Int))/\wr.drew.cell? ⟨w.heap.size,a,O⟩=M (.int .i64 k):=⟨bd,cg,b2⟩;refine tI (S:=fun o=>o.cell? ⟨c,0,O⟩=M (.slice (M ⟨w.heap.size,0,O⟩) n n)/\o.cell? ⟨u.b,4,O⟩=M (.int .i64 (d:Int))/\o.cell? ⟨w.heap.size,a,O⟩=M (.int .i64 k)) (by kernel_rfl) (by kernel_rfl) (fun ⟨_,_,h⟩=>h) c1 (fun hS=>?_);refine dh 0 (.slice (M ⟨w.heap.size,0,O⟩) n n) rfl rfl (by kernel_rfl) (fun _ _ _=>id) hS (fun o ⟨y,z,A⟩=>by go_simp) ?_;simp only[Z];refine dh 1 (.iface dx (.pointer (M ⟨u.b,0,O⟩))) rfl rfl (by kernel_rfl) (fun _ _ _=>id) hS (fun o ⟨y,z,A⟩=>by go_simp) ?_;simp only[Z];refine dh 6 (.slice (M ⟨w.heap.size,0,O⟩) n n) rfl rfl (by kernel_rfl) (fun _ _ _=>id) hS (fun o ⟨y,z,A⟩=>by go_simp) ?_;simp only[Z];refine dh 7 (.int .i64 (a:Int)) rfl rfl (by kernel_rfl) (fun _ _ _=>id) hS (fun o ⟨y,z,A⟩=>by go_simp) ?_;simp only[Z];refine dh 8 (.pointer (M ⟨w.heap.size,a,O⟩)) rfl rfl (by kernel_rfl) (fun _ _ _=>id) hS (fun o ⟨y,z,A⟩=>by go_simp) ?_;simp only[Z];refine dh 9 (.int .i64 k) rfl rfl (by kernel_rfl) (fun _ _ _=>id) hS (fun o ⟨y,z,A⟩=>by go_simp) ?_;simp only[Z];refine dh 10 (.int .i64 (k+1)) rfl rfl (by kernel_rfl) (fun _ _ _=>id) hS (fun o ⟨y,z,A⟩=>by go_simp) ?_;simp only[Z];refine C6 (rs:=[2]) (by kernel_rfl) (by simp) (Ck rfl (fun a9 ad=>?_) C2);go_simp;refine cJ (fx _ _) fun am cl=>?_;subst am;refine ad _ _ hS (fun hS=>?_);clear ad a9;try simp only[Act.put,dv,dw,dy]
    refine dh 3 (.pointer (M ⟨u.b,0,O⟩)) rfl rfl (by kernel_rfl) (fun _ _ _=>id) hS (fun o ⟨y,z,A⟩=>by go_simp) ?_;simp only[Z];refine dh 4 (.pointer (M ⟨u.b,4,O⟩)) rfl rfl (by kernel_rfl) (fun _ _ _=>id) hS (fun o ⟨y,z,A⟩=>by go_simp) ?_;simp only[Z];refine dh 5 (.int .i64 (d:Int)) rfl rfl (by kernel_rfl) (fun _ _ _=>id) hS (fun o ⟨y,z,A⟩=>by go_simp) ?_;simp only[Z];refine dh 11 (.pointer (M ⟨w.heap.size,d,O⟩)) rfl rfl (by kernel_rfl) (fun _ _ _=>id) hS (fun o ⟨y,z,A⟩=>by go_simp) ?_;simp only[Z];refine C6 (rs:=[12]) (by kernel_rfl) (by simp) (Ck rfl (fun a9 ad=>?_) C2);go_simp;refine ad _ _ c2 (fun hS=>?_);clear ad a9;refine wpAnyH_done (by kernel_rfl) ?_ _
    gi_wp2
    exact⟨⟨s+1,_,by omega,by go_num,cs⟩,by simp[C7];omega⟩
   ·obtain rfl:s=al:=by omega
    have bk:Br (Ey w c (.slice (M ⟨f,0,O⟩) n j) n v wr/\dpN ns a v=Ix ns/\KeepsFrom (c+2) b wr):=by
     refine⟨l.st,?_,l.kf⟩;have r:=l.rest;rw[ju (by rw[i.out.2.2.1];exact ae _),dpK]at r;rw[r];exact i.2.1
    clear l
    gi_wp2
    exact⟨bk.2.2,v,bk.1,bk.2.1⟩
 case seq=>
  intro a6 cw cx b5 c4 b c3;refine LL 4 a6 (c+1) n j (M ⟨f,0,O⟩) _ r c6 cw cx (fun a b h=>?_) (fun a b h s a2=>?_) c4 b c3
  ·obtain⟨D,m,_⟩:=b5 a b h;exact du m.bs
  ·obtain⟨D,m,_⟩:=b5 a b h;obtain⟨x,p⟩:=co q.2.2.1 a2;refine⟨_,rfl,?_⟩;rw[vA,p];exact aj m.bl (q.1.at p)
 case ret=>intro b h;exact h.elim
 case done=>
  rintro b ⟨D,h,m⟩ b3;have b4:D=Ix ns:=m;refine b6 _ _ ?_;have bd:=du h.bx;have i:Br (Ey w c (.slice (M ⟨f,0,O⟩) n j) n D b/\b.heap[c+2]?=M (.deferred (M []))):=⟨h,by rw[<-K];exact b3⟩;have bE:xK (iL D) (n-0) 0 bb:=⟨by rw[b4];exact q.2.2.2.1⟩;have eg:w.heap.size<c+2:=by omega
  rw[K];clear h m b3 b4 b6;go_wp2_with fail;go_loop [43] (fun F=>∃g:Nat,g<=n/\F= .int .i64 g/\xK (iL D) (n-g) g bb) (fun F=>n-(C7 F).toNat)
  case atStart=>exact⟨0,aF _,rfl,bE⟩
  case round=>
   obtain⟨g,em,rfl,ao⟩:=hrel;clear bE;have t:=ao.out;by_cases df:g<n
   ·have en:(g:Int)<(n:Int):=by omega
    have el:(0:Int)<=(g:Int):=by omega
    obtain⟨an,C⟩:=co i.1.ok.1 df;have d9:b.cell? ⟨w.heap.size,g,O⟩=M (.int .i64 an):=by rw[i.out.1.row.cellAt g (by omega),bK,C];rfl
    rw[show n-g=(n-(g+1))+1 by omega,ir]at t;have be:iL D g=decide (100<an):=by unfold iL;rw[aK,C];rfl
    rw[be]at t;by_cases cm:100<an
    ·rw[ab (bv cm)]at t;have a8:=aw t.symm;clear t be C ao;go_wp2_with fail;refine⟨by simp,.inl ⟨_,_,rfl,run_takeDeferred i.2,?_⟩⟩;refine⟨_,results_tmp2 rfl _ _ _,by rw[a8.out];rfl,?_⟩;exact i.1.bl.grown (B6 b (c+2) (.deferred O)) i.1.bl.size (fun g e=>by cases e;omega)
    ·rw[aa (by simpa using cm)]at t;have cu:xK (iL D) (n-(g+1)) (g+1) bb:=⟨t⟩;clear t be C ao;go_wp2_with fail;go_round
     case rel=>exact⟨g+1,by omega,by go_num,cu⟩
     case measure=>simp[C7];omega
   ·obtain rfl:g=n:=by omega
    rw[eD,ir]at t;have a8:=aw t.symm;clear t ao;go_wp2_with fail;refine⟨by simp,.inl ⟨_,_,rfl,run_takeDeferred i.2,?_⟩⟩;refine⟨_,results_tmp2 rfl _ _ _,by rw[a8.out];rfl,?_⟩;exact i.1.bl.grown (B6 b (c+2) (.deferred O)) i.1.bl.size (fun g e=>by cases e;omega)
attribute [local go_sem] kH
def I8(S:List Int)(n:Nat):Option Nat->Ax
 |some i=> Ce #[B1 B3 (i:Int),Fs E1]
 |none=> Ce #[B1 B3 ((n:Int)-1),Fs (decide (S.getD (n-1) 0<(n:Int)))]
structure BI (w:Y) (B n:Nat) (S:List Int) (c:List Nat) (W:Y):Prop where
 bl:V w.heap.size w W
 r0:W.heap[w.heap.size]?=M (.cells #[.int .i64 0] 3 (0,0))
 r1:W.heap[w.heap.size+1]?=M (.cells #[.bool A5] 4 (0,0))
 row:W.ownsRow w.heap.size 3 1 (.slice (M ⟨w.heap.size+1+1,0,O⟩) n n) n (S.map (Cr .i64)++B7 (n-S.length) (.int .i64 0))
 bx:W.heap[B]?=M (.cells #[.slice (M ⟨w.heap.size+1+1,0,O⟩) n n] 24 (0,0))
 mks:qj (w.heap.size+1+1+1) c W
theorem BI.below{c:List Nat}(h:BI w B n S c W)(a:V W.heap.size W W'):BI w B n S c W':=
 ⟨h.bl.trans (a.mono h.bl.size),(a.block _ (ai h.r0)).trans h.r0,(a.block _ (ai h.r1)).trans h.r1,bJ h.row a,(a.block _ (ai h.bx)).trans h.bx,h.mks.below a⟩
theorem BI.put{c:List Nat}(h:BI w B n S c W)(f:w.heap.size+1<B)(g:B<k)(b:W.heap[k]?=M (.loop r))(o:Obj):BI w B n S c (W.putObj k o):=
 ⟨h.bl.grown (B6 W k o) h.bl.size (fun i e=>by cases e;omega),(R (by omega)).trans h.r0,(R (by omega)).trans h.r1,ownsRow_putObj h.row o b rfl,(R (by omega)).trans h.bx,
  ⟨h.mks.nd,h.mks.lo,fun a d=>(R (by rintro rfl;have:=(h.mks.at_ a d).symm.trans b;cases this)).trans (h.mks.at_ a d)⟩⟩
structure I9 (w:Y) (B n:Nat) (S:List Int) (c:List Nat) (sz k:Nat) (kv:Ax) (a:Int) (W:Y):Prop where
 oo:BI w B n S c W
 b5:W.heap[sz]?=M (.cells #[.int .i64 (k:Int)] 3 (0,0))
 b7:W.heap[sz+1]?=M (.cells #[.int .i64 (a-1)] 3 (0,0))
 b8:W.heap[sz+1+1]?=M (.cells #[kv] 113 (0,0))
theorem I9.put{c:List Nat}{b:Nat}{d:Ax}(h:I9 w B n S c b k d a W)(e:w.heap.size+1<B)(i:B<b){j:Nat}(g:b+1+1<j)(f:W.heap[j]?=M (.loop r))(o:Obj):I9 w B n S c b k d a (W.putObj j o):=
 ⟨h.oo.put e (by omega) f o,(R (by omega)).trans h.b5,(R (by omega)).trans h.b7,(R (by omega)).trans h.b8⟩
theorem xk{fn:Func}{p q:Tmp}{t u:E2}(h:fn.results=#[.cell p t,.cell q u])(tmps:Array Ax)(P:Program)(w:Y)(a b:Addr)(v c:Ax)(f:tmps.getD p Q= B0 (M a))(i:tmps.getD q Q= B0 (M b))
  (d:(loadVar t a).run P w= .ok v w) (e:(loadVar u b).run P w= .ok c w):(results fn tmps).run P w= .ok (Ce #[v,c]) w:=by
 have g:tmps[p]?.getD Q= B0 (M a):=by simpa using f
 have j:tmps[q]?.getD Q= B0 (M b):=by simpa using i
 simp only[results,h];simp[Sem.run_bind,Result.andThen,g,j,asAddr,d,e]
theorem aaa(w:Y)(a:Addr)(z:Int)(h:w.cell? a=M (B1 B3 z)):(loadVar 3 a).run U w= .ok (B1 B3 z) w:=by go_simp
theorem Gm(w:Y)(a:Addr)(z:Bool)(h:w.cell? a=M (Fs z)):(loadVar 4 a).run U w= .ok (Fs z) w:=by go_simp
theorem al4(a b:List Nd):∃t,iD (a++b)=iD a++t:=by
 refine ua (p:=fun b=>∃t,iD (a++b)=iD a++t) ⟨[],by simp⟩ (fun d e ⟨t,c⟩=>?_) b;rw[<-cH,tL,c];exact⟨t++[_],cH _ _ _⟩
theorem aab{N:Nd}(h:ns[k]?=M N):iD (ns.take (k+1))=iD (ns.take k)++[sC (iD (ns.take k)) k N.ks]:=by
 have a:k<ns.length:=(List.getElem?_eq_some_iff.1 h).1;rw[iw,h];show iD (ns.take k++[N])=_;rw[tL,jA,jx,yv (by omega)]
theorem apx{N:Nd}(h:ns[k]?=M N):(iD ns).getD k 0=sC (iD (ns.take k)) k N.ks:=by
 have c:k<ns.length:=(List.getElem?_eq_some_iff.1 h).1;obtain⟨d,a⟩:=al4 (ns.take (k+1)) (ns.drop (k+1));rw[vD,aab h]at a;have b:(iD (ns.take k)).length=k:=by rw[jA,jx,yv (by omega)]
 rw[a,aK,cH,fy (by omega),b];simp
def aji(c:List Im)(ks:List Int)(m:Nat):Ax:=match ks[m]? with
 |some d=>(match c[d.toNat]? with|some a=> F1 (pv (ez a.N.k)) (B0 (M ⟨a.b,0,O⟩))|none=> C8)
 |none=> C8
theorem adA{ks:List Int}{m q:Nat}{y:Im}(a:ks[m]?=M (q:Int))(c:L[q]?=M y):aji L ks m= F1 (pv (ez y.N.k)) (B0 (M ⟨y.b,0,O⟩)):=by
 unfold aji;rw[a];simp[c]
structure apy (w:Y) (c:List Nat) (k:Nat) (W:Y):Prop where
 bl:V w.heap.size w W
 r0:W.heap[w.heap.size]?=M (.cells #[.int .i64 (k:Int)] 3 (0,0))
 r1:W.heap[w.heap.size+1]?=M (.cells #[.bool E1] 4 (0,0))
 mks:qj (w.heap.size+1+1+1) c W
theorem Ez(w:Y)(base:Nat)(c0:Ax)(ad:List Im)(a4:mq w base c0 ad)(ns:List Nd)(d5:ad.map Im.N=ns)(n:Nat)(b2:ad.length=n)(he:1<=n)(y:n<=3000)(d2:∀x∈ad,x.N.ks.length<=200):
  C5 U 96 #[c0] w fun e p=>e= .returned (I8 (iD ns) n (ir (gu (iD ns)) n 0))/\V w.heap.size w p:=by
 obtain⟨ag,ao,rfl⟩:∃ag k,c0= .slice (M ⟨ag,0,O⟩) n k:=by
  rcases bq a4.row with⟨h,_⟩|h
  ·omega
  ·rw[<-b2];exact h
 have hh:n<=ao:=by
  rcases a4.row.2 with⟨y,_⟩|⟨fp,fa,fc,y,_,_,fq,_⟩
  ·cases y
  ·cases y;omega
 obtain⟨gm,cb,gb,gd,ge⟩:=dD tr;obtain⟨a7,b3⟩:=aA (ir (gu (iD ns)) n 0);rw[b3];have i:=Jd a4 d5 b2 b3 d2;clear a4 d5 b2 b3 d2;refine my (n:=5).1 ?_;refine callsIn_of_wp_marks Tryz.func96 rfl trivial ?_ rfl;simp only[Tryz.ntmps96,iI,bi,dH,Nat.reduceAdd,Nat.reduceSub,iu,kF,kG,pc,ep,eC];refine wpIn_wide.2 ?_;go_wp2_with (at_make;refine yr _ rfl _ _ 24 rfl w.heap.size 3 gm (.int .i64 0) 1 Tryz.underlying24 cb gb gd .i64 .i64 _ _ n rfl rfl rfl rfl (by rw[ge];omega) (by unfold F2;omega) (by simp;omega) ?_;intro an be a5);rename_i gt fs;have a8:V ((w.alloc (.cells #[.int .i64 0] 3)).alloc (.cells #[.bool A5] 4)).heap.size ((w.alloc (.cells #[.int .i64 0] 3)).alloc (.cells #[.bool A5] 4)) an:=⟨a5.os,a5.tape,a5.output,a5.size,fun a d1=>a5.block a d1 (by simp)⟩;rw[show(madeCells (Cr .i64 0).cells (n*1)).toList=B7 n (Cr .i64 0) by rw[ti];exact ym _ n]at be;simp only[dr]at be a8;have f8:w.heap.size+1+1<an.heap.size:=(be.lt _ rfl).2;have bA:BI w an.heap.size n [] [] (an.alloc (.cells #[.slice (M ⟨w.heap.size+1+1,0,O⟩) n n] 24)):=by
  refine⟨?_,?_,?_,?_,ay an _,⟨Gx,fun l hb=>by simp at hb,fun l hb=>by simp at hb⟩⟩
  ·exact((((ah _ w).alloc (ae _) _).alloc (by simp) _).trans (a8.mono (by omega))).alloc (by omega) _
  ·exact(cC _ _ _ (by omega)).trans ((a8.block _ (by omega)).trans ((cC _ _ _ (by simp)).trans (ay w _)))
  ·refine(cC _ _ _ (by omega)).trans ((a8.block _ (by omega)).trans ?_);have:=ay (w.alloc (.cells #[.int .i64 0] 3)) (.cells #[.bool A5] 4);rw[dr]at this;exact this
  ·exact be.alloc _
 obtain⟨r,dc⟩:=aA an.heap.size;have dd:r<(an.alloc (.cells #[.slice (M ⟨w.heap.size+1+1,0,O⟩) n n] 24)).heap.size:=by simp;omega
 rw[dc]at bA f8⊢;generalize an.alloc (.cells #[.slice (M ⟨w.heap.size+1+1,0,O⟩) n n] 24)=e9 at bA dd⊢;clear be a5 a8 dc;have c6:Br (BI w r n (iD (ns.take 0)) [] e9/\ir (gu (iD ns)) (n-0) 0=a7/\∀(H:Nat) q,(iD (ns.take 0))[H]?=M q->1<=q):=⟨bA,i.2.2.2.1,fun H q h=>by simp[iD]at h⟩;clear bA;refine(qG (n:=5)).1 (wpIn_loop (fun ak d=>∃(a:Nat) (k:List Nat),a<=n/\r<d.heap.size/\Br (BI w r n (iD (ns.take a)) k d/\ir (gu (iD ns)) (n-a) a=a7/\∀(H:Nat) q,(iD (ns.take a))[H]?=M q->1<=q)/\
  ∃ew ex eF ee ef eg eh ei ek el en eq es et ev ct cu cw cx cy cF cI:Ax,ak={tmps:=#[.slice (M ⟨ag,0,O⟩) n ao,Q,.pointer (M ⟨w.heap.size,0,O⟩),.pointer (M ⟨w.heap.size+1,0,O⟩),.pointer (M ⟨r,0,O⟩),ew,ex,eF,Q,Q,Q,.slice (M ⟨ag,0,O⟩) n ao,.int .i64 (n:Int),.slice (M ⟨w.heap.size+1+1,0,O⟩) n n,.slice (M ⟨ag,0,O⟩) n ao,.int .i64 (n:Int),.int .i64 (a:Int),ee,ef,eg,eh,ei,ek,el,en,eq,es,et,ev,Q,Q,Q,Q,Q,Q,Q,Q,Q,Q,Q,Q,Q,Q,Q,Q,ct,cu,cw,cx,cy,cF,cI,Q,Q,Q,Q,Q,Q,Q,Q,Q,Q,Q],defers:=k.map Af}) (fun ak _=>n-(C7 (ak.tmps.getD 16 Q)).toNat) ?start ?round)
 case start=>exact⟨0,[],aF _,dd,c6,Q,Q,Q,Q,Q,Q,Q,Q,Q,Q,Q,Q,Q,Q,Q,Q,Q,Q,Q,Q,Q,Q,rfl⟩
 case round=>
  rintro ak d ⟨a,k,d1,b1,m,ew,ex,eF,ee,ef,eg,eh,ei,ek,el,en,eq,es,et,ev,ct,cu,cw,cx,cy,cF,cI,rfl⟩;clear c6;refine wpIn_wide.2 ?_;by_cases d3:a<n
  ·have hn:(a:Int)<(n:Int):=by omega
   have f2:(0:Int)<=(a:Int):=by omega
   obtain⟨x,a1⟩:=co i.2.2.1 d3;have dx:=aj m.1.bl (i.1.at a1);have b9:=aj m.1.bl (i.1.box a x a1).cells.2.2.2.2.1;have G:=i.1.kid a x a1;obtain⟨v,C,bt⟩:=A1 G;have f3:=i.2.2.2.2 x (cG a1);obtain⟨A,cc⟩:=aA x.N.ks.length;rw[bt]at b9;rw[cc]at b9 f3 bt;have s:=iF a1 bt cc;have bd:=fun w=>sD x.N.k x.b w;have f9:x.b<d.heap.size:=gh (ai (i.1.box a x a1)) m.1.bl.size;generalize pv (ez x.N.k)=cs at bd dx;clear a1 G bt cc;go_wp2_with (first|(go_at_call 285;refine(fx _ _).mono ?_;rintro e bn ⟨rfl,d8⟩;subst bn)|(go_at_call 150;refine(zG v A C _).mono ?_;rintro e gs ⟨rfl,a0⟩;subst gs));rename_i gv dg;obtain⟨S,hS⟩:=aA (iD (ns.take a));obtain⟨af,b4⟩:=aA (xI S x.N.ks.reverse (a:Int));rw[hS]at m;obtain⟨g,bh⟩:=aA d.heap.size;have bf:I9 w r n S k g a (.slice v A C) (a:Int) (((d.alloc (.cells #[.int .i64 (a:Int)] 3)).alloc (.cells #[.int .i64 ((a:Int)-1)] 3)).alloc (.cells #[.slice v A C] 113)):=by
    refine⟨m.1.below ((((ah _ d).alloc (ae _) _).alloc (by simp) _).alloc (by simp;omega) _),?_,?_,?_⟩
    ·exact(cC _ _ _ (by simp;omega)).trans ((cC _ _ _ (by simp;omega)).trans (by rw[<-bh];exact ay d _))
    ·refine(cC _ _ _ (by simp;omega)).trans ?_;have:=ay (d.alloc (.cells #[.int .i64 (a:Int)] 3)) (.cells #[.int .i64 ((a:Int)-1)] 3);rw[dr,bh]at this;exact this
    ·have:=ay ((d.alloc (.cells #[.int .i64 (a:Int)] 3)).alloc (.cells #[.int .i64 ((a:Int)-1)] 3)) (.cells #[.slice v A C] 113);rw[dr,dr,bh]at this;exact this
   have a2:(((d.alloc (.cells #[.int .i64 (a:Int)] 3)).alloc (.cells #[.int .i64 ((a:Int)-1)] 3)).alloc (.cells #[.slice v A C] 113)).heap.size=g+1+1+1:=by simp;omega
   rw[bh]at b1 f9⊢;generalize ((d.alloc (.cells #[.int .i64 (a:Int)] 3)).alloc (.cells #[.int .i64 ((a:Int)-1)] 3)).alloc (.cells #[.slice v A C] 113)=g0 at bf a2⊢;have ds:∀l∈k,l<g:=fun l hb=>by rw[<-bh];exact(Array.getElem?_eq_some_iff.1 (m.1.mks.at_ l hb)).1
   have d6:ns[a]?=M x.N:=by rw[<-i.out.2.1,bK,s.out.1];rfl
   have a9:(iD ns).getD a 0=sC S a x.N.ks:=by rw[apx d6,hS]
   clear dx b9 bd;refine(qG (n:=5)).1 ?_;refine wm (P:=U) (gf:=193) (lb:=#[.pointer (M ⟨g+1+1,0,O⟩)]) rfl (enters_of Tryz.func193 (by kernel_rfl) rfl)
    (fun c=>#[.int .i64 (c:Int),aji ad x.N.ks c]) (fun _=>rfl) A
    (fun c d=>∃b:Int,I9 w r n S k g a (.slice v A C) b d/\0<=b/\b<=(a:Int)/\xI S (x.N.ks.take c).reverse b=af)
    (fun c ak d=>(∃b:Int,I9 w r n S k g a (.slice v A C) b d/\0<=b/\b<=(a:Int)/\xI S (x.N.ks.take (c+1)).reverse b=af)/\ak={tmps:=#[.slice (M ⟨ag,0,O⟩) n ao,Q,.pointer (M ⟨w.heap.size,0,O⟩),.pointer (M ⟨w.heap.size+1,0,O⟩),.pointer (M ⟨r,0,O⟩),.pointer (M ⟨g,0,O⟩),.iface cs (.pointer (M ⟨x.b,0,O⟩)),.pointer (M ⟨g+1,0,O⟩),Q,aji ad x.N.ks c,Q,.slice (M ⟨ag,0,O⟩) n ao,.int .i64 (n:Int),.slice (M ⟨w.heap.size+1+1,0,O⟩) n n,.slice (M ⟨ag,0,O⟩) n ao,.int .i64 (n:Int),.int .i64 (a:Int),.bool E1,.int .i64 (a:Int),.pointer (M ⟨ag,a,O⟩),.iface cs (.pointer (M ⟨x.b,0,O⟩)),.int .i64 (a:Int),.int .i64 ((a:Int)-1),.iface cs (.pointer (M ⟨x.b,0,O⟩)),.pointer (M ⟨x.b,0,O⟩),.pointer (M ⟨x.b,0,O⟩),.pointer (M ⟨x.b,5,O⟩),.slice v A C,.func (.func 193) #[] #[.pointer (M ⟨g+1+1,0,O⟩)],.int .i64 (c:Int),aji ad x.N.ks c,Q,Q,Q,Q,Q,Q,Q,Q,Q,Q,Q,Q,Q,Q,ct,cu,cw,cx,cy,cF,cI,Q,Q,Q,Q,Q,Q,Q,Q,Q,Q,Q],defers:=[]})
    (fun d=>apy w k a d/\af=O)
    ?pZ ?pAx ?pX ?h0 ?assign ?body ?seq ?done ?ret
   case pZ=>
    rintro c d eb bk ⟨b,h,L⟩ al;rw[a2]at al⊢;exact⟨b,h.put (by omega) b1 (by omega) al bk,L⟩
   case pAx=>
    rintro c ak d eb bk ⟨⟨b,h,L⟩,rfl⟩ al;rw[a2]at al⊢;exact⟨⟨b,h.put (by omega) b1 (by omega) al bk,L⟩,rfl⟩
   case pX=>
    rintro d eb bk ⟨h,cg⟩ al;rw[a2]at al⊢;exact⟨⟨h.bl.grown (B6 d _ bk) h.bl.size (fun H e=>by cases e;omega),(R (by omega)).trans h.r0,(R (by omega)).trans h.r1,
     ⟨h.mks.nd,h.mks.lo,fun l t=>(R (by rintro rfl;have:=(h.mks.at_ _ t).symm.trans al;cases this)).trans (h.mks.at_ l t)⟩⟩,cg⟩
   case h0=>
    intro gz hb hv;refine⟨(a:Int),⟨bf.oo.below hb,(hb.block _ (by omega)).trans bf.b5,(hb.block _ (by omega)).trans bf.b7,(hb.block _ (by omega)).trans bf.b8⟩,f2,Int.le_refl _,?_⟩;rw[dj (by rw[s.out.2.2];exact ae _)];exact b4
   case assign=>
    rintro cm c d br t ⟨b,h,L⟩ ap;have e0:Br (∃b:Int,I9 w r n S k g a (.slice v A C) b d/\0<=b/\b<=(a:Int)/\xI S (x.N.ks.take (c+1)).reverse b=af):=⟨b,h,L⟩;clear h L
    gi_wp2
    exact ap _ _ ⟨e0,rfl⟩ (KeepsFrom.refl _ _)
   case seq=>
    intro cm e6 e8 df fz d fv;have f4:A<=C:=by
     have G:=i.1.kid a x s.1;rw[s.out.2.1,s.out.2.2]at G;rcases G.2 with⟨y,da⟩|⟨fp,fa,fc,y,_,_,fq,_⟩
     ·omega
     ·cases y;omega
    refine LL 4 cm (g+1+1) A C v _ (by omega) f4 e6 e8 (fun c d h=>?_) (fun c d h H ar=>?_) fz d fv
    ·obtain⟨b,L,_⟩:=df c d h;exact du L.b8
    ·obtain⟨b,L,_⟩:=df c d h;obtain⟨q,E⟩:=co s.2.2 ar;obtain⟨gk,a9⟩:∃gk,v=M ⟨gk,0,O⟩:=by
      have G:=i.1.kid a x s.1;rw[s.out.2.1]at G;rcases bq G with⟨h,_⟩|⟨gk,k,h⟩
      ·rw[s.out.2.2]at h;omega
      ·cases h;exact⟨_,rfl⟩
     obtain⟨f,B,rfl,d7,bj,bs⟩:=i.1.kidAt s.1 (by rw[s.out.2.1,a9]) E;refine⟨_,a9,?_⟩;rw[vA,adA E bj];exact aj L.oo.bl bs
   case body=>
    rintro cm c ak j t ⟨⟨b,h,fA,fB,z⟩,rfl⟩;rw[a2];obtain⟨q,E⟩:=co s.2.2 t;obtain⟨gk,fF⟩:∃gk,v=M ⟨gk,0,O⟩:=by
     have G:=i.1.kid a x s.1;rw[s.out.2.1]at G;rcases bq G with⟨h,_⟩|⟨gk,k,h⟩
     ·rw[s.out.2.2]at h;omega
     ·cases h;exact⟨_,rfl⟩
    obtain⟨f,B,rfl,d7,bj,bs⟩:=i.1.kidAt s.1 (by rw[s.out.2.1,fF]) E;rw[adA E bj];have f5:=aj h.oo.bl (i.1.box f B bj).cells.2.2.2.1;have hG:=ai (i.1.box f B bj);have F:S.length=a:=by rw[<-hS,jA,jx,<-i.out.2.1,cA,i.out.2.2.1];omega
    obtain⟨u,a6⟩:=co F d7;have hA:=m.2.2 f u a6;have hC:u<=(f:Int)+1:=by
     have f6:Dy S:=by
      rw[<-hS];refine Aw _ (fun N a4 q E=>?_);obtain⟨cl,cb,e⟩:=il (vI a4);have bb:(ad.map Im.N)[cl]?=M N:=by rw[i.out.2.1,aE cb,e]
      rw[bK]at bb;cases hLi:ad[cl]? with
      |none=>rw[hLi]at bb;cases bb
      |some gr=>
       rw[hLi]at bb;obtain rfl:=bu bb;exact(i.1.rng cl gr q hLi E).1
     exact(f6 f u a6).2
    have ca:S.getD f 0=u:=by rw[aK,a6];rfl
    have a0:(if(f:Int)=b-1/\u≠0 then xI S (x.N.ks.take c).reverse (b-u) else O)=af:=by
     rw[iw,E,Gy,List.reverse_append]at z;show _=af;rw[<-z];show _=xI S ((f:Int)::(x.N.ks.take c).reverse) b;rw[xI,jz,ca]
    have g6:=du h.b5;have b0:=du h.b7;have c8:=du h.oo.bx;have am:=h.oo.row;have fb:j.cell? ⟨w.heap.size+1+1,f,O⟩=M (.int .i64 u):=by
     rw[am.cellAt f (by omega),ia (by simp;omega),bK,a6];rfl
    have cp:=du h.oo.r0;have cr:=du h.oo.r1;have fm:j.frozen? ⟨w.heap.size,0,O⟩=A5:=bI _ _ _ _ _ h.oo.r0;have fn:j.frozen? ⟨w.heap.size+1,0,O⟩=A5:=bI _ _ _ _ _ h.oo.r1;have fo:j.frozen? ⟨g+1,0,O⟩=A5:=bI _ _ _ _ _ h.b7;have bd:=fun w=>sD B.N.k B.b w;have o:j.drew.cell? ⟨g+1,0,O⟩=M (.int .i64 (b-1))/\j.drew.cell? ⟨B.b,4,O⟩=M (.int .i64 (f:Int)):=⟨b0,f5⟩;have c4:=aw h;generalize pv (ez B.N.k)=ec at bd⊢;by_cases bw:(f:Int)=b-1
    ·rw[ab ⟨bw,by omega⟩]at a0;have bo:=aw a0;clear a0 z E bs h a6 ca F am;have fg:b=(f:Int)+1:=by omega
     subst fg;have c9:(f:Int)+1-1=(f:Int):=by omega
     rw[c9]at b0 o;clear bw c9;have hu:(f:Int)<(n:Int):=by omega
     have ht:(0:Int)<=(f:Int):=by omega
     gi_wp2
     refine tI (S:=fun p=>p.cell? ⟨g+1,0,O⟩=M (.int .i64 (f:Int))/\p.cell? ⟨B.b,4,O⟩=M (.int .i64 (f:Int))) (by kernel_rfl) (by kernel_rfl) (fun ⟨_,_,h⟩=>h) o (fun o=>?_);refine dh 0 (.iface ec (.pointer (M ⟨B.b,0,O⟩))) rfl rfl (by kernel_rfl) (fun _ _ _=>id) o (fun p ⟨I,J⟩=>by go_simp) ?_;simp only[Z];refine dh 5 (.int .i64 (f:Int)) rfl rfl (by kernel_rfl) (fun _ _ _=>id) o (fun p ⟨I,J⟩=>by go_simp) ?_;simp only[Z];refine C6 (rs:=[1]) (by kernel_rfl) (by simp) (Ck rfl (fun br ap=>?_) C2);go_simp;refine cJ (fx _ _) fun bn d8=>?_;subst bn;refine ap _ _ o (fun o=>?_);clear ap br;try simp only[Act.put,dv,dw,dy]
     refine dh 2 (.pointer (M ⟨B.b,0,O⟩)) rfl rfl (by kernel_rfl) (fun _ _ _=>id) o (fun p ⟨I,J⟩=>by go_simp) ?_;simp only[Z];refine dh 3 (.pointer (M ⟨B.b,4,O⟩)) rfl rfl (by kernel_rfl) (fun _ _ _=>id) o (fun p ⟨I,J⟩=>by go_simp) ?_;simp only[Z];refine dh 4 (.int .i64 (f:Int)) rfl rfl (by kernel_rfl) (fun _ _ _=>id) o (fun p ⟨I,J⟩=>by go_simp) ?_;simp only[Z];refine dh 6 (.bool A5) rfl rfl (by kernel_rfl) (fun _ _ _=>id) o (fun p ⟨I,J⟩=>by go_simp) ?_;simp only[Z];refine wpAnyH_done (by kernel_rfl) ?_ _
     gi_wp2
     have hg:j.drew.cell? ⟨g+1,0,O⟩=M (.int .i64 (f:Int))/\j.drew.cell? ⟨w.heap.size+1+1,f,O⟩=M (.int .i64 u)/\j.drew.cell? ⟨r,0,O⟩=M (.slice (M ⟨w.heap.size+1+1,0,O⟩) n n)/\j.drew.frozen? ⟨g+1,0,O⟩=A5:=⟨b0,fb,c8,fo⟩;have hE:IntKind.i64.wrap ((f:Int)-u)=(f:Int)-u:=by rw[di];omega
     have K:=c4.out;have ho:g+1≠w.heap.size+1+1:=by omega
     have d0:I9 w r n S k g a (.slice v A C) ((f:Int)+1-u) (j.setCell ⟨g+1,0,O⟩ (.int .i64 ((f:Int)-u))).drew.drew:=by
      have ff:(f:Int)+1-u-1=(f:Int)-u:=by omega
      refine⟨⟨(K.oo.bl.setCell (by simp;omega) _).drew.drew,(aC _ _ _ _ (by simp;omega)).trans K.oo.r0,(aC _ _ _ _ (by simp;omega)).trans K.oo.r1,?_,(aC _ _ _ _ (by simp;omega)).trans K.oo.bx,(K.oo.mks.keeps (X _ _ _)).keeps ((KeepsOthers.drew _).trans (KeepsOthers.drew _))⟩,(aC _ _ _ _ (by simp)).trans K.b5,?_,(aC _ _ _ _ (by simp)).trans K.b8⟩
      ·exact(show(j.setCell ⟨g+1,0,O⟩ (.int .i64 ((f:Int)-u))).ownsRow _ _ _ _ _ _ from K.oo.row.kept (grownBy_setCell' j (g+1) _) (.inr (by simp[F0];omega)))
      ·rw[ff];exact aL _ _ 0 _ _ _ K.b7
     have e5:Br (af0 (g+1+1+1) j (fun d=>∃b:Int,I9 w r n S k g a (.slice v A C) b d/\0<=b/\b<=(a:Int)/\xI S (x.N.ks.take c).reverse b=af) (fun d=>apy w k a d/\af=O) .normal {tmps:=#[],defers:=[]} (j.setCell ⟨g+1,0,O⟩ (.int .i64 ((f:Int)-u))).drew.drew):=
      ⟨(((X _ _ _).trans (KeepsOthers.drew _)).trans (KeepsOthers.drew _)).from _,_,d0,by omega,by omega,bo⟩
     clear c4 bo s i m bd o K d0
     gi_region
     all_goals exact e5
    ·rw[aa (fun e=>bw e.1)]at a0;have bo:=aw a0;have dq:apy w k a ((j.drew.setCell ⟨w.heap.size,0,O⟩ (.int .i64 (a:Int))).setCell ⟨w.heap.size+1,0,O⟩ (.bool E1)):=
      ⟨((h.oo.bl.drew.setCell (by simp) _).setCell (by simp) _),(aC _ _ _ _ (by simp)).trans (aL _ _ 0 _ _ _ h.oo.r0),aL _ _ 0 _ _ _ ((aC _ _ _ _ (by simp)).trans h.oo.r1),
       ((h.oo.mks.keeps (KeepsOthers.drew j)).keeps (X _ _ _)).keeps (X _ _ _)⟩
     have e4:=aw dq;have g9:((f:Int)==b-1)=A5:=by rw[bH];exact bw
     clear a0 z E bs h a6 ca F am dq
     gi_wp2
     refine tI (S:=fun p=>p.cell? ⟨g+1,0,O⟩=M (.int .i64 (b-1))/\p.cell? ⟨B.b,4,O⟩=M (.int .i64 (f:Int))) (by kernel_rfl) (by kernel_rfl) (fun ⟨_,_,h⟩=>h) o (fun o=>?_);refine dh 0 (.iface ec (.pointer (M ⟨B.b,0,O⟩))) rfl rfl (by kernel_rfl) (fun _ _ _=>id) o (fun p ⟨I,J⟩=>by go_simp) ?_;simp only[Z];refine dh 5 (.int .i64 (b-1)) rfl rfl (by kernel_rfl) (fun _ _ _=>id) o (fun p ⟨I,J⟩=>by go_simp) ?_;simp only[Z];refine C6 (rs:=[1]) (by kernel_rfl) (by simp) (Ck rfl (fun br ap=>?_) C2);go_simp;refine cJ (fx _ _) fun bn d8=>?_;subst bn;refine ap _ _ o (fun o=>?_);clear ap br;try simp only[Act.put,dv,dw,dy]
     refine dh 2 (.pointer (M ⟨B.b,0,O⟩)) rfl rfl (by kernel_rfl) (fun _ _ _=>id) o (fun p ⟨I,J⟩=>by go_simp) ?_;simp only[Z];refine dh 3 (.pointer (M ⟨B.b,4,O⟩)) rfl rfl (by kernel_rfl) (fun _ _ _=>id) o (fun p ⟨I,J⟩=>by go_simp) ?_;simp only[Z];refine dh 4 (.int .i64 (f:Int)) rfl rfl (by kernel_rfl) (fun _ _ _=>id) o (fun p ⟨I,J⟩=>by go_simp) ?_;simp only[Z];refine dh 6 (.bool E1) rfl rfl (by kernel_rfl) (fun _ _ _=>id) o (fun p ⟨I,J⟩=>by go_simp) ?_;simp only[Z];refine wpAnyH_done (by kernel_rfl) ?_ _
     gi_wp2
     exact⟨(((KeepsOthers.drew j).from _).trans ((X _ _ _).from _)).trans ((X _ _ _).from _),e4,bo.out.symm⟩
   case ret=>
    rintro j ⟨h,cg⟩ a3;rw[a2]at a3⊢;have fu:a7=M a:=by
     have y:=m.2.1;rw[show n-a=(n-(a+1))+1 by omega,ir,ab]at y
     ·exact y.symm
     ·unfold gu;rw[a9];unfold sC;rw[b4,cg];rfl
    show LeavesInM _ _ _ _ _ _ (((g+1+1+1)::k).map Af) .returning j;refine pq (w.heap.size+1+1+1) _ j ⟨List.nodup_cons.2 ⟨fun t=>by have:=ds _ t;omega,h.mks.nd⟩,fun l hb=>?_,fun l hb=>?_⟩ (fun bE z=>?_)
    ·rcases List.mem_cons.1 hb with rfl|hb
     ·omega
     ·exact h.mks.lo l hb
    ·rcases List.mem_cons.1 hb with rfl|hb
     ·exact a3
     ·exact h.mks.at_ l hb
    ·have ce:∀l∈(g+1+1+1)::k,w.heap.size+1+1+1<=l:=fun l hb=>by
      rcases List.mem_cons.1 hb with rfl|hb
      ·omega
      ·exact h.mks.lo l hb
     have cp:=(z.same w.heap.size (fun t=>by have:=ce _ t;omega)).trans h.r0;have cr:=(z.same (w.heap.size+1) (fun t=>by have:=ce _ t;omega)).trans h.r1;refine⟨_,xk rfl _ _ _ ⟨w.heap.size,0,O⟩ ⟨w.heap.size+1,0,O⟩ _ _ rfl rfl (aaa _ _ _ (du cp)) (Gm _ _ _ (du cr)),?_,z.below h.bl (fun l hb=>by have:=ce l hb;omega) (ae _)⟩;rw[fu];rfl
   case done=>
    rintro j ⟨b,h,fA,fB,z⟩ a3;rw[a2]at a3⊢;have dk:af=M b:=by rw[<-z];rfl
    have ch:sC S a x.N.ks=(a:Int)-(b-1):=by unfold sC;rw[b4,dk];show(a:Int)-b+1=_;omega
    have F:S.length=a:=by rw[<-hS,jA,jx,<-i.out.2.1,cA,i.out.2.2.1];omega
    have am:=h.oo.row;have g7:j.cell? ⟨w.heap.size+1+1,a,O⟩=M (.int .i64 0):=by
     rw[am.cellAt a (by omega),fy (by simp;omega),cA,F,eD,Cb,ab (by omega)]
    have hc:=am.frozenAt a;have cn:=(am.stored a (.int .i64 ((a:Int)-(b-1)))).1;rw[F,F6 S n a ((a:Int)-(b-1)) F d3]at cn;have b6:iD (ns.take (a+1))=S++[(a:Int)-(b-1)]:=by rw[aab d6,hS,ch]
    have d4:qj (w.heap.size+1+1+1) ((g+1+1+1)::k) j:=⟨List.nodup_cons.2 ⟨fun t=>by have:=ds _ t;omega,h.oo.mks.nd⟩,fun l hb=>by
      rcases List.mem_cons.1 hb with rfl|hb
      ·omega
      ·exact h.oo.mks.lo l hb,fun l hb=>by
      rcases List.mem_cons.1 hb with rfl|hb
      ·exact a3
      ·exact h.oo.mks.at_ l hb⟩
    have cf:BI w r n (S++[(a:Int)-(b-1)]) ((g+1+1+1)::k) (j.setCell ⟨w.heap.size+1+1,a,O⟩ (.int .i64 ((a:Int)-(b-1)))):=
     ⟨h.oo.bl.setCell (by simp;omega) _,(aC _ _ _ _ (by simp;omega)).trans h.oo.r0,(aC _ _ _ _ (by simp)).trans h.oo.r1,by rw[aB,F];exact cn,(aC _ _ _ _ (by simp;omega)).trans h.oo.bx,d4.keeps (X _ _ _)⟩
    have e3:Br (BI w r n (iD (ns.take (a+1))) ((g+1+1+1)::k) (j.setCell ⟨w.heap.size+1+1,a,O⟩ (.int .i64 ((a:Int)-(b-1))))/\ir (gu (iD ns)) (n-(a+1)) (a+1)=a7/\∀(H:Nat) q,(iD (ns.take (a+1)))[H]?=M q->1<=q):=by
     refine⟨by rw[b6];exact cf,?_,fun H q ar=>?_⟩
     ·have y:=m.2.1;rw[show n-a=(n-(a+1))+1 by omega,ir,aa]at y
      ·exact y
      ·unfold gu;rw[a9,ch];simp;omega
     ·rw[b6]at ar;rcases aH H a with g1|g1
      ·rw[ia (by omega)]at ar;exact m.2.2 H q ar
      ·rw[fy (by omega)]at ar;obtain⟨y,da⟩:=List.getElem?_eq_some_iff.1 ar;simp at y da;omega
    have g3:=du h.oo.bx;have g4:=du h.b5;have g5:=du h.b7;have fr:r<(j.setCell ⟨w.heap.size+1+1,a,O⟩ (.int .i64 ((a:Int)-(b-1)))).heap.size:=ai cf.bx;have hf:((a:Int)-(b-1))<=3001/\1<=((a:Int)-(b-1)):=by omega
    refine dg _ _ ?_;clear dk ch F am cn b6 d4 cf h z a3 dg fs m;go_wp2_with fail;exact⟨⟨a+1,(g+1+1+1)::k,by omega,fr,e3,_,_,_,_,_,_,_,_,_,_,_,_,_,_,_,_,_,_,_,_,_,_,rfl⟩,by simp[C7];omega⟩
  ·obtain rfl:a=n:=by omega
   have hp:¬(a:Int)<(a:Int):=by omega
   obtain⟨c,rfl⟩:∃c,a=c+1:=⟨a-1,by omega⟩;have hS:iD (ns.take (c+1))=iD ns:=by rw[dj (by rw[<-i.out.2.1,cA,i.out.2.2.1];exact ae _)]
   rw[hS]at m;have F:(iD ns).length=c+1:=by rw[jA,<-i.out.2.1,cA,i.out.2.2.1]
   obtain⟨q,E⟩:=co F (show c<c+1 by omega);have dn:a7=O:=by have:=m.2.1;rw[eD,ir]at this;exact this.symm
   have d9:(iD ns).getD c 0=q:=by rw[aK,E];rfl
   have bD:=iF m.1 dn d9;have g8:d.cell? ⟨w.heap.size+1+1,c,O⟩=M (.int .i64 q):=by
    rw[m.out.1.row.cellAt c (by omega),ia (by simp;omega),bK,E];rfl
   have c8:=du m.1.bx;have cp:=du m.1.r0;have cr:=du m.1.r1;have fm:d.frozen? ⟨w.heap.size,0,O⟩=A5:=bI _ _ _ _ _ m.1.r0;have fn:d.frozen? ⟨w.heap.size+1,0,O⟩=A5:=bI _ _ _ _ _ m.1.r1;have ha:(c:Int)+1-1=(c:Int):=by omega
   have hH:(0:Int)<=(c:Int):=by omega
   have hL:(c:Int)<(c:Int)+1:=by omega
   clear E d9 dn hS m i;go_wp2_with fail;have h3:w.heap.size≠r:=by omega
   have h5:w.heap.size+1≠r:=by omega
   have h6:w.heap.size≠w.heap.size+1+1:=by omega
   have h7:w.heap.size+1≠w.heap.size+1+1:=by omega
   go_region_held3 (fun p=>p.cell? ⟨r,0,O⟩=M (.slice (M ⟨w.heap.size+1+1,0,O⟩) (c+1) (c+1))/\p.cell? ⟨w.heap.size+1+1,c,O⟩=M (.int .i64 q)) (go_keep) (fail)
   all_goals go_wp2_with fail
   have h:=bD.1;show LeavesInM _ _ _ _ _ _ (k.map Af) .returning _;refine pq (w.heap.size+1+1+1) k _ (((h.mks.keeps (X _ _ _)).keeps (X _ _ _)).keeps (KeepsOthers.drew _)) (fun bE z=>?_);have gn:bE.heap[w.heap.size]?=M (.cells #[.int .i64 (c:Int)] 3 (0,0)):=(z.same _ (fun t=>by have:=h.mks.lo _ t;omega)).trans ((aC _ _ _ _ (by simp)).trans (aL _ _ 0 _ _ _ h.r0));have gp:bE.heap[w.heap.size+1]?=M (.cells #[.bool (decide (q<(c:Int)+1))] 4 (0,0)):=(z.same _ (fun t=>by have:=h.mks.lo _ t;omega)).trans (aL _ _ 0 _ _ _ ((aC _ _ _ _ (by simp)).trans h.r1));refine⟨_,xk rfl _ _ _ ⟨w.heap.size,0,O⟩ ⟨w.heap.size+1,0,O⟩ _ _ rfl rfl (aaa _ _ _ (du gn)) (Gm _ _ _ (du gp)),?_,z.below (((h.bl.setCell (by simp) _).setCell (by simp) _).drew) (fun l hb=>by have:=h.mks.lo l hb;omega) (ae _)⟩;have fd:((c+1:Nat):Int)=(c:Int)+1:=by omega
   rw[bD.out.2.1];simp only[I8,oL,bD.out.2.2,fd,Int.add_sub_cancel]
open Go.Maps Go.WideMaps
theorem kD{fn:Func}{p q:Tmp}{u:E2}(h:fn.results=#[.tmp p,.cell q u])(tmps:Array Ax)(P:Program)(w:Y)(a:Addr)(v b:Ax)(d:tmps.getD p Q=v)(f:tmps.getD q Q= B0 (M a))
  (c:(loadVar u a).run P w= .ok b w):(results fn tmps).run P w= .ok (Ce #[v,b]) w:=by
 have e:tmps[p]?.getD Q=v:=by simpa using d
 have g:tmps[q]?.getD Q= B0 (M a):=by simpa using f
 simp only[results,h];simp[Result.andThen,e,g,asAddr,c]
theorem rA(w:Y)(b:Nat)(c n:Int)(h:lh b w c n):(loadVar 75 ⟨b,0,O⟩).run U w= .ok (.agg #[.int .i64 c,.int .i64 n]) w:=
 Gv w b 75 75 _ _ _ h Tryz.underlying75 rfl (by kernel_rfl)
def aac(w:Y)(ns:List Nd)(e:Ending)(b:Y):Prop:=
 V w.heap.size w b/\
 (((dL ns).1≠0/\e= A9 (Ce #[C8,Ft #[B1 B3 (dL ns).1,B1 B3 (dL ns).2]]))\/
  (dL ns=(0,0)/\∃base vs L a,e= A9 (Ce #[nV a,Ft #[B1 B3 0,B1 B3 0]])/\L[ns.length-1]?=M a/\L.map Im.N=ns/\mq b base vs L/\∀a∈L,dA w a.vn a.N.nm))
theorem aad(w:Y)(v:Ax)(ns:List Nd)(h:gw w v ns)(u:ns.length<=1048576)(p:jD ns=E1):
  C5 U 62 #[Ft #[v]] w fun e F=>e= A9 (Ce #[C8,Ft #[B1 B3 1,B1 B3 0]])/\V w.heap.size w F:=by
 obtain⟨G,H,rfl⟩:=h.form;have i:∀b c,V w.heap.size w ((w.alloc b).alloc c):=fun b c=>((ah _ w).alloc (ae _) b).alloc (by simp) c;have s:∀b (g:Array Ax) (l:E2),((w.alloc b).alloc (B4 g l)).heap[w.heap.size+1]?=M (B4 g l (0,0)):=fun b g l=>by
  have:=ay (w.alloc b) (B4 g l);rw[dr]at this;exact this
 have q:=aG p;by_cases d:ns.length=0
 ·rw[d];go_in;go_wp2;exact aI (kD rfl _ _ _ ⟨w.heap.size+1,0,O⟩ _ _ rfl rfl (rA _ _ 1 0 (s _ _ _))) rfl ⟨rfl,i _ _⟩
 by_cases f:3000<ns.length
 ·obtain⟨a,j⟩:∃a:Nat,ns.length=a+1:=⟨ns.length-1,by omega⟩;rw[j]at f u⊢;have A:decide ((a:Int)<0)=A5:=aD (by omega);have B:(3000:Int)<=(a:Int):=by omega
  have E:(0:Int)<=(a:Int):=by omega
  clear h p q d f j;go_in;go_wp2;exact aI (kD rfl _ _ _ ⟨w.heap.size+1,0,O⟩ _ _ rfl rfl (rA _ _ 1 0 (s _ _ _))) rfl ⟨rfl,i _ _⟩
 ·have C:(ns.getD (ns.length-1) zNd).k≠1:=by rcases q with e|e|e;exact absurd e d;exact absurd e f;exact e
  have r:ns.length-1<ns.length:=by omega
  obtain⟨m,o⟩:∃m,ns[ns.length-1]?=M m:=⟨_,aE r⟩;rw[aK,o,gj]at C;obtain⟨z,rfl,ad,L,t⟩:=h.get o;have n:=t.c0;obtain⟨y,x⟩:=aA ns.length;rw[x]at n d f u r⊢;obtain⟨a,j⟩:∃a:Nat,y=a+1:=⟨y-1,by omega⟩;subst j;rw[oL]at n;have I:((a+1:Nat):Int)-1=(a:Int):=by omega
  have E:(0:Int)<=(a:Int):=by omega
  have A:decide ((a:Int)<0)=A5:=aD (by omega);have B:decide ((3000:Int)<=(a:Int))=A5:=aD (by omega);have K:(a:Int)<(a:Int)+1:=by omega
  have J:∀b c,((w.alloc b).alloc c).cell? (z.add (a*9))=M (B1 B3 m.k):=fun b c=>aj (i b c) n;clear h p q d f o t x r;go_in;go_wp2;exact aI (kD rfl _ _ _ ⟨w.heap.size+1,0,O⟩ _ _ rfl rfl (rA _ _ 1 0 (s _ _ _))) rfl ⟨rfl,i _ _⟩
structure aae (w0:Y) (lb mb:Nat) (vs:Ax) (L:List Im) (W:Y):Prop where
 bl:V w0.heap.size w0 W
 lk:Lk W lb mb vs
 ns:mq W w0.heap.size vs L
theorem lh.keep{n:Int}(h:lh b W c n)(a:V B W W')(d:b<B):lh b W' c n:=(a.block _ d).trans h
theorem apz(c:Nat):wu c≠75:=by
 unfold wu;split<;>decide
theorem mq.setFt(h:mq W base vs L){n:Int}(g:lh b W c n)(f:b<base)(j:Nat)(v:Ax):mq (W.setCell ⟨b,j,O⟩ v) base vs L:=
 ⟨kI h.row f _,fun e a d=>(aC W ⟨b,j,O⟩ a.b v (rK (h.box e a d) (show W.heap[b]?=M (B4 #[B1 B3 c,B1 B3 n] 75 (0,0)) from g) (apz _))).trans (h.box e a d),fun e a d=>kI (h.kid e a d) f _,h.far,h.rng⟩
theorem mq.putFt(h:mq W base vs L){n:Int}(e:lh b W c n)(d:b<base)(a n2:Int):mq ((W.setCell ⟨b,0,O⟩ (B1 B3 a)).setCell ⟨b,1,O⟩ (B1 B3 n2)) base vs L:=
 (h.setFt e d 0 _).setFt (c:=a) (n:=n) (aL _ b 0 _ _ _ e) d 1 _
structure ask (w:Y) (v:Ax) (w0:Y):Prop where
 tb:w0.heap[w.heap.size]?=M (.cells #[v] 34 (0,0))
 fb:lh (w.heap.size+1) w0 0 0
 bl:V w.heap.size w w0
 sz:w0.heap.size=w.heap.size+1+1
def ajj(c:Ax->Prop)(w:Y)(ns:List Nd)(e:Ending)(b:Y):Prop:=
 V w.heap.size w b/\
 (((dL ns).1≠0/\e= A9 (Ce #[C8,Ft #[B1 B3 (dL ns).1,B1 B3 (dL ns).2]]))\/
  (dL ns=(0,0)/\∃base vs L a,e= A9 (Ce #[nV a,Ft #[B1 B3 0,B1 B3 0]])/\L[ns.length-1]?=M a/\L.map Im.N=ns/\mq b base vs L/\∀a∈L,dA w a.vn a.N.nm/\c a.vn))
theorem Ja(af:Ax->Prop)(w:Y)(v:Ax)(ns:List Nd)(ev:∀(ca:Addr) (n c i:Nat) (N:Nd) (vn:Ax),v= A0 (M ca) n c->ns[i]?=M N->w.cell? ⟨(ca.add (i*9)).block,(ca.add (i*9)).off+7,O⟩=M vn->af vn)(h:gw w v ns)(gz:ns.length<=1048576)(fu:∀N∈ns,jC N)(fg:oE w)(cB:E2)(fr:Nat×Nat)(et:w.heap[0]?=M (B4 eu cB fr))
  (fo:∀W,V w.heap.size w W->C4 U W "strings.asciiSpace" .u8 A2) (cq:jD ns=A5):
  C5 U 62 #[Ft #[v]] w (ajj af w ns):=by
 have fA:=aw ev;clear ev;obtain⟨hj,c,rfl⟩:=h.form;have bx:=jg cq;have a8:=iF h fu cq;have bj:=iF fg et fo;have en:¬ns.length=0:=fun g=>bx (.inl g);have eq:¬3000<ns.length:=fun g=>bx (.inr (.inl g));have cf:(ns.getD (ns.length-1) zNd).k=1:=by
  by_cases C:(ns.getD (ns.length-1) zNd).k=1
  ·exact C
  ·exact absurd (.inr (.inr C)) bx
 obtain⟨N,E⟩:∃N,ns[ns.length-1]?=M N:=⟨_,aE (by omega)⟩;rw[aK,E,gj]at cf;obtain⟨b9,rfl,vn,hJ,fd⟩:=h.get E;have be:=fd.c0;rw[cf]at be;have gp:∀ar av,V w.heap.size w ((w.alloc ar).alloc av):=fun ar av=>((ah _ w).alloc (ae _) ar).alloc (by simp) av;obtain⟨n,cy⟩:=aA ns.length;have I:Br (ns.length=n):=cy;rw[cy]at a8 be en eq⊢;obtain⟨a,g0⟩:∃a:Nat,n=a+1:=⟨n-1,by omega⟩;have fm:n-1=a:=by omega
 rw[fm]at be;have hE:a<3000:=by omega
 have hv:((a+1:Nat):Int)-1=(a:Int):=by omega
 have hH:(0:Int)<=(a:Int):=by omega
 have ht:decide ((a:Int)<0)=A5:=aD (by omega);have hu:decide ((3000:Int)<=(a:Int))=A5:=aD (by omega);have hI:(a:Int)<(a:Int)+1:=by omega
 have gr:∀ar av,((w.alloc ar).alloc av).cell? (b9.add (a*9))=M (B1 B3 1):=fun ar av=>aj (gp ar av) be;clear h cq bx en eq cf E fd cy gz fu fg et fo fm be;subst g0;go_in;go_wp2_with fail;generalize e9:(w.alloc _).alloc _=o;obtain⟨da,c4,c1,s0⟩:=GI e9;have m:Br (ask w (A0 (M b9) (a+1) c) o):=⟨da,c4,c1,by omega⟩;clear da c4 c1 s0 e9 gr;have bE:=ai bj.2.1;have bk:Br (oE o/\o.heap[0]?=M (B4 eu cB fr)/\(∀W,V o.heap.size o W->C4 U W "strings.asciiSpace" .u8 A2)):=
  ⟨bj.1.below m.bl (ae _),(m.bl.block _ bE).trans bj.2.1,fun W gm=>bj.2.2 W (m.bl.trans (gm.mono m.bl.size))⟩
 refine(rB (H:=Unit) o fr cB bk.2.1).mono ?_;rintro g s ⟨rfl,cv,bA⟩;obtain⟨B,cw⟩:=aA o.heap.size;have g5:=m.sz;have gb:s.cell? ⟨w.heap.size,0,O⟩=M (A0 (M b9) (a+1) c):=du ((bA.block _ (by omega)).trans m.tb);have g6:=bA.size;have g7:w.heap.size<s.heap.size:=by omega
 have g8:w.heap.size≠s.heap.size:=by omega
 rw[cw]at cv⊢;have a1:=iF cv bA cw;clear cv bA cw bE g5 g6;go_wp2_with fail;have c2:=ay s (B4 #[.map (M B),A0 O 0 0] 178);have cr:V s.heap.size s (s.alloc (B4 #[.map (M B),A0 O 0 0] 178)):=(ah _ s).alloc (ae _) _;have b2:aae o s.heap.size B (A0 O 0 0) [] (s.alloc (B4 #[.map (M B),A0 O 0 0] 178)):=by
  have dc:=a1.2.1.trans (cr.mono a1.2.1.size);have g4:B<s.heap.size:=by
   obtain⟨hw,hs,gv,_⟩:=a1.1;exact ai gv
  exact⟨dc,⟨c2,ub a1.1 (cr.block _ g4),bk.1.below dc (ae _)⟩,⟨cE _ _ _ _,fun i d k=>by simp at k,fun i d k=>by simp at k,fun d k=>by simp at k,fun i d fv k=>by simp at k⟩⟩
 have cu:o.heap.size<=s.heap.size:=a1.2.1.size;generalize s.alloc (B4 #[.map (M B),A0 O 0 0] 178)=f9 at b2⊢;obtain⟨ap,fk⟩:=aA s.heap.size;rw[fk]at b2 cu⊢;have fF:Br (o.heap.size<=ap):=cu;obtain⟨bb,cm⟩:=aA (ir (fE ns) (a+1) 0);have b8:Br (ir (fE ns) (a+1) 0=bb):=cm;have c5:xK (fE ns) (a+1-0) 0 bb:=⟨cm⟩;have c7:Br (aae o ap B (A0 O 0 0) [] f9):=b2;clear cm gb g7 g8 a1 c2 cr b2 fk cu;go_loopw [37] (fun cF wr=>∃(f:Nat) (j:List Im) (b3:Ax),f<=a+1/\cF= B1 B3 f/\xK (fE ns) (a+1-f) f bb/\Br (aae o ap B b3 j wr/\j.length=f/\j.map Im.N=ns.take f/\∀d∈j,dA w d.vn d.N.nm/\af d.vn)) (fun cF _=>a+1-(C7 cF).toNat)
 case atStart=>exact⟨0,[],_,aF _,rfl,c5,c7,rfl,rfl,fun d k=>by simp at k⟩
 case round=>
  obtain⟨f,j,b3,hA,rfl,b5,e⟩:=hrel;clear c7 c5;have r:=b5.out;by_cases bE:f<a+1
  ·obtain⟨q,am⟩:=co I.out bE;have hD:(f:Int)<(a:Int)+1:=by omega
   have hC:(0:Int)<=(f:Int):=by omega
   obtain⟨ho,gn,hL,hK,gs⟩:=a8.1.get am;obtain rfl:=bu gn;have A:V w.heap.size w wr:=m.bl.trans (e.1.bl.mono m.bl.size);obtain⟨dd,df,dg,dk,dn,dq,ds,cb,dx,b0,cs⟩:=gs;obtain⟨bn,bs,rfl⟩:=b0.form;obtain⟨hp,hq,rfl⟩:=cs.form;have d9:=aj A dd;have ec:=aj A df;have ee:=aj A dg;have ef:=aj A dk;have eg:=aj A dn;have eh:=aj A dq;have ei:=aj A ds;have cc:=aj A cb;have ce:=aj A dx;have bd:∀L,V wr.heap.size wr (wr.alloc L):=fun L=>(ah _ wr).alloc (ae _) L;have ao:=fun L=>ait o (wr.alloc L) bk.1 (e.1.bl.trans ((bd L).mono e.1.bl.size)) ap B fF b3 j (e.1.lk.below (bd L)) (e.1.ns.below (bd L)) q _ _ (b0.below m.bl) (cs.below m.bl) (a8.2.1 q (cG am)) (by rw[e.out.2.1];omega) ns (by rw[e.out.2.1];exact e.2.2.1) (by rw[e.out.2.1];exact am) bk.2.2;rw[show a+1-f=(a+1-(f+1))+1 by omega,ir]at r;have el:fE ns f=!(jf ns f q):=by unfold fE;rw[aK,am];rfl
   have ek:E6 ns j.length q=jf ns f q:=by rw[alo,e.out.2.1]
   rw[el]at r;unfold jo at ao;have a9:Br (E6 ns j.length q=jf ns f q):=ek;have fB:Br (ns[f]?=M q):=am;obtain⟨c8,cl⟩:=aA q.nm.length;obtain⟨hg,ew⟩:=aA q.ks.length;have b7:Br (dA w (A0 bn q.nm.length bs) q.nm/\af (A0 bn q.nm.length bs)):=⟨b0,fA.out _ _ _ f q _ rfl am cb⟩;rw[cl]at ao cc;replace b7:Br (dA w (A0 bn c8 bs) q.nm/\af (A0 bn c8 bs)):=by rw[<-cl];exact b7
   rw[ew]at ao ce;clear dd df dg dk dn dq ds cb dx b0 cs am ek el cl ew b5;cases k:jf ns f q with
   |true=>
    rw[k]at r a9;rw[aa (by decide)]at r;have fz:xK (fE ns) (a+1-(f+1)) (f+1) bb:=⟨r⟩;clear r k;go_wp2_with fail;refine(ao _).mono ?_;rintro g t ⟨rfl,l,b1⟩;rw[a9.out];obtain⟨g9,d,fp,bf,fq,fs⟩:=b1 a9.out;have f4:Br (aae o ap B g9 (j++[d]) t/\(j++[d]).length=f+1/\(j++[d]).map Im.N=ns.take (f+1)/\∀bh∈j++[d],dA w bh.vn bh.N.nm/\af bh.vn):=
     ⟨⟨l,fq,fs⟩,by rw[aB,e.out.2.1];rfl,by rw[eB,e.out.2.2.1,iw,fB.out];simp[fp],fun bh hy=>by
      rcases List.mem_append.1 hy with hy|hy
      ·exact e.2.2.2 bh hy
      ·obtain rfl:=List.mem_singleton.1 hy;rw[fp,bf];exact b7⟩
    clear ao b1 l fq fs e d9 ec ee ef eg eh ei cc ce A bd;go_wp2_with fail;exact⟨⟨f+1,_,_,by omega,by go_num,fz,f4⟩,by simp[C7];omega⟩
   |false=>
    rw[k]at r a9;rw[ab (by decide)]at r;have u:Br (dL ns=(2,(f:Int))):=by
     show dL ns=(2,(f:Int));unfold dL;rw[a8.out.2.2,aa (by decide),I.out,b8.out,<-r];rfl
    clear r k;go_wp2_with fail;refine(ao _).mono ?_;rintro g t ⟨rfl,l,b1⟩;rw[a9.out];have z:=m.fb.keep l (by rw[m.out.sz];omega);obtain⟨ag,bt,bw⟩:=jq z;have F:Br (lh (w.heap.size+1) t 0 0/\V w.heap.size w t):=⟨z,m.bl.trans (l.mono m.bl.size)⟩;clear ao b1 l z e d9 ec ee ef eg eh ei cc ce A bd;go_wp2_with fail;exact aI (kD rfl _ _ _ ⟨w.heap.size+1,0,O⟩ _ _ rfl rfl (rA _ _ 2 f (qp F.1 2 f))) rfl ⟨(F.2.setCell (by simp) _).setCell (by simp) _,.inl ⟨(by rw[u.out];intro g;simp at g),(by rw[u.out];rfl)⟩⟩
  ·obtain rfl:f=a+1:=by omega
   rw[eD,ir]at r;have f3:Br (bb=O):=r.symm;have fa:=qo (show ir (fE ns) (a+1) 0=O by rw[b8.out];exact r.symm);have a3:j.map Im.N=ns:=by rw[e.out.2.2.1];exact dj (by rw[I.out];exact ae _)
   have fc:∀(i:Nat) d,j[i]?=M d->ns[i]?=M d.N:=fun i d k=>by rw[<-a3,bK,k];rfl
   have ct:∀d∈j,d.N.ks.length<=200:=fun d k=>by
    obtain⟨i,bD,g⟩:=il k;have E:ns[i]?=M d.N:=fc i d (by rw[aE bD,g]);have bD:i<a+1:=by rw[<-I.out];exact(List.getElem?_eq_some_iff.1 E).1
    have cg:=fa i (aF _) (by omega);unfold fE at cg;rw[aK,E,gj]at cg;have ch:jf ns i d.N=E1:=by simpa using cg
    unfold jf abc at ch;rw[cd]at ch;exact(aG ch.1).2.2.2
   have eF:Dy (iD ns):=Aw ns (fun N E fv K=>by
    rw[<-a3]at E;obtain⟨d,k,rfl⟩:=List.mem_map.1 E;obtain⟨i,bD,g⟩:=il k;exact(e.1.ns.rng i d fv (by rw[aE bD,g]) K).1)
   obtain⟨C,br,rfl⟩:∃C c,b3= A0 (M ⟨C,0,O⟩) (a+1) c:=by
    rcases bq e.1.ns.row with⟨h,_⟩|h
    ·rw[e.out.2.1]at h;omega
    ·rw[e.out.2.1]at h;exact h
   have b4:wr.cell? ⟨ap,1,O⟩=M (A0 (M ⟨C,0,O⟩) (a+1) br):=by rw[au _ _ _ _ _ _ e.out.1.lk.b];rfl
   have y:=Ez wr o.heap.size _ j e.1.ns ns a3 (a+1) e.2.1 (by omega) (by omega) ct;have c6:Br (∀W,V wr.heap.size wr W->C5 U 97 #[A0 (M ⟨C,0,O⟩) (a+1) br] W fun g ha=>g= A9 (adz (ir (iL (Ix ns)) (a+1) 0))/\V W.heap.size W ha):=
    fun W gf=>Fb W o.heap.size _ j (e.1.ns.below gf) ns a3 (a+1) e.2.1 (by omega) (by omega) ct
   obtain⟨c9,cp⟩:=aA (ir (gu (iD ns)) (a+1) 0);have x:dL ns=tf3 (iD ns) (Ix ns) (a+1) c9:=by
    unfold dL;rw[a8.out.2.2,aa (by decide),I.out,b8.out,f3.out];show tf3 (iD ns) (Ix ns) (a+1) (ir (gu (iD ns)) (a+1) 0)=_;rw[cp]
   rw[cp]at y;have gt:=m.sz;have ag:=m.fb.keep e.1.bl (by rw[m.out.sz];omega);have p:Br (aae o ap B (A0 (M ⟨C,0,O⟩) (a+1) br) j wr/\lh (w.heap.size+1) wr 0 0/\j.map Im.N=ns/\j.length=a+1/\V w.heap.size w wr):=⟨e.1,ag,a3,e.2.1,m.bl.trans (e.1.bl.mono m.bl.size)⟩;have f2:Br (∀d∈j,dA w d.vn d.N.nm/\af d.vn):=e.2.2.2;have a5:=aiu eF (jA ns) (by rw[I.out];omega);rw[I.out,oL]at a5;clear r fa fc ct eF b5 e ag cp a3 gt;cases c9 with
   |some i=>
    have u:Br (dL ns=(3,(i:Int))):=x;unfold I8 at y;clear x a5;go_wp2_with fail;refine y.mono ?_;rintro g t ⟨rfl,l⟩;have z:=p.2.1.below l;obtain⟨ag,bt,bw⟩:=jq z;have F:Br (lh (w.heap.size+1) t 0 0/\V w.heap.size w t):=⟨z,p.2.2.2.2.trans (l.mono p.2.2.2.2.size)⟩;clear l z y b4;go_wp2_with fail;exact aI (kD rfl _ _ _ ⟨w.heap.size+1,0,O⟩ _ _ rfl rfl (rA _ _ 3 i (qp F.1 3 i))) rfl ⟨(F.2.setCell (by simp) _).setCell (by simp) _,.inl ⟨(by rw[u.out];intro g;simp at g),(by rw[u.out];rfl)⟩⟩
   |none=>
    rw[tf3,oL]at x;unfold I8 at y;rw[oL]at y;have ge:((a+1:Nat):Int)-1=(a:Int):=by omega
    rw[ge]at y x;by_cases K:(iD ns).getD a 0<((a+1:Nat):Int)
    ·rw[ab (a5.2 K)]at x;rw[bv K]at y;have u:Br (dL ns=(3,(a:Int))):=x;clear x a5 K;go_wp2_with fail;refine y.mono ?_;rintro g t ⟨rfl,l⟩;have z:=p.2.1.below l;obtain⟨ag,bt,bw⟩:=jq z;have F:Br (lh (w.heap.size+1) t 0 0/\V w.heap.size w t):=⟨z,p.2.2.2.2.trans (l.mono p.2.2.2.2.size)⟩;clear l z y b4;go_wp2_with fail;exact aI (kD rfl _ _ _ ⟨w.heap.size+1,0,O⟩ _ _ rfl rfl (rA _ _ 3 a (qp F.1 3 a))) rfl ⟨(F.2.setCell (by simp) _).setCell (by simp) _,.inl ⟨(by rw[u.out];intro g;simp at g),(by rw[u.out];rfl)⟩⟩
    ·rw[aa (fun h=>K (a5.1 h))]at x;rw[aD K]at y;obtain⟨f8,ex⟩:=aA (ir (iL (Ix ns)) (a+1) 0);rw[ex]at x c6;clear a5 K ex;go_wp2_with fail;refine y.mono ?_;rintro g t ⟨rfl,l⟩;have a6:=c6.out t l;have cI:=aj l b4;clear y b4;cases f8 with
     |some i=>
      have u:Br (dL ns=(4,(i:Int))):=x;unfold adz at a6;clear x;have a7:Br (V wr.heap.size wr t):=l;clear l;go_wp2_with fail;refine a6.mono ?_;rintro g a0 ⟨rfl,a4⟩;have J:=a7.out.trans (a4.mono a7.size);have al:=p.2.1.below J;obtain⟨ag,bt,bw⟩:=jq al;have G:Br (lh (w.heap.size+1) a0 0 0/\V w.heap.size w a0):=⟨al,p.2.2.2.2.trans (J.mono p.2.2.2.2.size)⟩;clear a4 J al a6 cI;go_wp2_with fail;exact aI (kD rfl _ _ _ ⟨w.heap.size+1,0,O⟩ _ _ rfl rfl (rA _ _ 4 i (qp G.1 4 i))) rfl ⟨(G.2.setCell (by simp) _).setCell (by simp) _,.inl ⟨(by rw[u.out];intro g;simp at g),(by rw[u.out];rfl)⟩⟩
     |none=>
      have u:Br (dL ns=(0,0)):=x;unfold adz at a6;clear x;have a7:Br (V wr.heap.size wr t):=l;clear l;go_wp2_with fail;refine a6.mono ?_;rintro g a0 ⟨rfl,a4⟩;have J:=a7.out.trans (a4.mono a7.size);have h0:=aj a4 cI;have al:=p.2.1.below J;have cz:=p.1.ns.below J;obtain⟨d,k⟩:=co p.2.2.2.1 (show a<a+1 by omega);have gd:a0.cell? ⟨C,a,O⟩=M (nV d):=by have fn:=cz.row;rw[p.out.2.2.2.1]at fn;rw[fn.cellAt a (by omega),bK,k];rfl
      obtain⟨ag,bt,bw⟩:=jq al;have G:Br (lh (w.heap.size+1) a0 0 0/\V w.heap.size w a0/\mq a0 o.heap.size (A0 (M ⟨C,0,O⟩) (a+1) br) j/\j[a]?=M d):=⟨al,p.2.2.2.2.trans (J.mono p.2.2.2.2.size),cz,k⟩;obtain⟨hc,bf⟩:=aA (nV d);rw[bf]at gd;have f7:Br (nV d=hc):=bf;clear a4 J al a6 cI cz k bf;go_wp2_with fail;exact aI (kD rfl _ _ _ ⟨w.heap.size+1,0,O⟩ _ _ rfl rfl (rA _ _ 0 0 (qp G.1 0 0))) rfl ⟨(G.2.1.setCell (by simp) _).setCell (by simp) _,.inr ⟨u,o.heap.size,_,j,d,by rw[f7.out];rfl,by rw[I.out,oL];exact G.2.2.2,p.2.2.1,G.2.2.1.putFt G.1 (by rw[m.out.sz];omega) 0 0,f2⟩⟩
theorem aaf(a:Ax->Prop)(w:Y)(v:Ax)(ns:List Nd)(j:∀(b:Addr) (n c i:Nat) (N:Nd) (vn:Ax),v= A0 (M b) n c->ns[i]?=M N->w.cell? ⟨(b.add (i*9)).block,(b.add (i*9)).off+7,O⟩=M vn->a vn)(h:gw w v ns)(e:ns.length<=1048576)(o:∀N∈ns,jC N)(l:oE w)(f:E2)(fr:Nat×Nat)(g:w.heap[0]?=M (B4 eu f fr))
  (m:∀W,V w.heap.size w W->C4 U W "strings.asciiSpace" .u8 A2):
  C5 U 62 #[Ft #[v]] w (ajj a w ns):=by
 cases hb:jD ns with
 |true=>
  have d:dL ns=(1,0):=by unfold dL;rw[ab hb]
  refine(aad w v ns h e hb).mono ?_;rintro p q ⟨rfl,k⟩;exact⟨k,.inl ⟨by rw[d];decide,by rw[d]⟩⟩
 |false=>exact Ja a w v ns j h e o l f fr g m hb
theorem abI(w:Y)(v:Ax)(ns:List Nd)(h:gw w v ns)(n:ns.length<=1048576)(q:∀N∈ns,jC N)(m:oE w)(a:E2)(fr:Nat×Nat)(l:w.heap[0]?=M (B4 eu a fr))
  (o:∀W,V w.heap.size w W->C4 U W "strings.asciiSpace" .u8 A2):
  C5 U 62 #[Ft #[v]] w (aac w ns):=
 (aaf (fun _=>True) w v ns (fun _ _ _ _ _ _ _ _ _=>trivial) h n q m a fr l o).mono fun t u h=>⟨h.1,h.2.imp id fun ⟨b,c,d,e,r,f,g,i,j,k⟩=>⟨b,c,d,e,r,f,g,i,j,fun s p=>(k s p).1⟩⟩
theorem aag(w:Y)(v:Ax)(ns:List Nd)(h:gw w v ns)(E:ns.length<=1048576)(I:∀N∈ns,jC N)(a:oE w)(J:E2)(fr:Nat×Nat)(s:w.heap[0]?=M (.cells eu J fr))
  (G:∀W,V w.heap.size w W->C4 U W "strings.asciiSpace" .u8 A2):
  C5 U 27 #[.agg #[v]] w fun e af=>e= .returned (.agg #[.int .i64 (dL ns).1,.int .i64 (dL ns).2])/\V w.heap.size w af:=by
 have A:∀u x,V w.heap.size w ((w.alloc u).alloc x):=fun u x=>((ah _ w).alloc (ae _) u).alloc (by simp) x;have o:Br (∀W,V w.heap.size w W->C5 U 62 #[.agg #[v]] W (aac W ns)):=fun W f=>
  abI W v ns (h.below f) E I (a.below f (ae _)) J fr ((f.block _ (ai s)).trans s) (fun p ad=>G p (f.trans (ad.mono f.size)))
 obtain⟨j,k,rfl⟩:=h.form;obtain⟨m,F⟩:=aA ns.length;rw[F]at o⊢;obtain⟨c,q⟩:=aA ((dL ns).1);obtain⟨d,r⟩:=aA ((dL ns).2);have i:=dC q r;rw[q,r];clear h E I a s G F q r;go_in;go_wp2_with fail;have n:lh (w.heap.size+1) ((w.alloc (.cells #[.slice j m k] 34)).alloc (.cells #[.int .i64 0,.int .i64 0] 75)) 0 0:=by
  have:=ay (w.alloc (.cells #[.slice j m k] 34)) (.cells #[.int .i64 0,.int .i64 0] 75);rw[dr]at this;exact this
 have b:=A (.cells #[.slice j m k] 34) (.cells #[.int .i64 0,.int .i64 0] 75);generalize (w.alloc (.cells #[.slice j m k] 34)).alloc (.cells #[.int .i64 0,.int .i64 0] 75)=p at n b⊢;refine(o p b).mono ?_;rintro e g ⟨t,C⟩;obtain⟨H,rfl⟩:∃H,e= .returned (.tuple #[H,.agg #[.int .i64 c,.int .i64 d]]):=by
  rcases C with⟨_,a⟩|⟨L,_,_,_,ag,a,_⟩
  ·exact⟨_,by rw[a,i.out.1,i.out.2]⟩
  ·refine⟨nV ag,?_⟩;rw[a,<-i.out.1,<-i.out.2,L]
 have l:=n.below t;obtain⟨ak,al,am⟩:=jq l;have an:w.heap.size+1<g.heap.size:=ai l;have ao:w.heap.size+1≠g.heap.size:=by omega
 have B:V w.heap.size w g:=b.trans (t.mono b.size);have y:=dC B l;clear C t n b o B l A;go_wp2_with fail;have K:=(qp y.2 c d).below ((ah _ ((g.setCell ⟨w.heap.size+1,0,O⟩ (.int .i64 c)).setCell ⟨w.heap.size+1,1,O⟩ (.int .i64 d))).alloc (ae _) (.cells #[.int .i64 c,.int .i64 d] 75));have z:V w.heap.size w ((g.setCell ⟨w.heap.size+1,0,O⟩ (.int .i64 c)).setCell ⟨w.heap.size+1,1,O⟩ (.int .i64 d)):=(y.1.setCell (by simp) _).setCell (by simp) _;exact aI (gi rfl _ _ (w.heap.size+1) _ _ _ _ rfl K Tryz.underlying75 rfl (by kernel_rfl)) rfl ⟨rfl,z.alloc z.size _⟩
theorem yh(lo:Nat):∀(ks:Fo),LCs lo ks
 | .nil=>trivial
 | .cons N k r=>⟨Bt (yh lo k),yh lo r⟩
theorem EA(f:Mb->Ax):∀(L:List Mb),(L.flatMap fun x=>(f x).ownBlock.toList).Nodup->∀(i j:Nat)(a b:Ax),i<j->(L.map f)[i]?=M a->(L.map f)[j]?=M b->a.ownBlock=O\/a.ownBlock≠b.ownBlock
 |[],h,i,j,a,b,k,c,d=>by simp at c
 |x::r,h,i,0,a,b,k,c,d=>by omega
 |x::r,h,0,j+1,a,b,k,c,d=>by
  simp at c;subst c;rw[qH,od]at h;cases hx:(f x).ownBlock with
  |none=>exact .inl rfl
  |some g=>
   right;intro e;have m:=cG (show(r.map f)[j]?=M b by simpa using d);obtain⟨o,n,l⟩:=List.mem_map.1 m;exact h.2.2 g (by simp[hx]) g (List.mem_flatMap.2 ⟨o,n,by rw[l,<-e];simp⟩) rfl
 |x::r,h,i+1,j+1,a,b,k,c,d=>by
  rw[qH,od]at h;exact EA f r h.2.1 i j a b (by omega) (by simpa using c) (by simpa using d)
theorem Bz(f:Mb->Ax){a:List Mb}(h:(a.flatMap fun x=>(f x).ownBlock.toList).Nodup):afG (a.map f):=fun c d b e k i j=>by
 rcases aH c d with q|q
 ·exact EA f a h c d b e q i j
 ·rcases EA f a h d c e b (by omega) j i with g|g
  ·cases ho:b.ownBlock with
   |none=>exact .inl rfl
   |some l=>right;rw[g];simp
  ·exact .inr (dz g)
theorem apA{lo:Nat}{c:List Mb}(h:Lw w lo v c)(g:(nB' c).Nodup)(f:(kB c).Nodup):qg w lo w.heap.size v c:=
 ⟨h.row,fun a b=>(h.row.lt a b).2,fun e d=>⟨(h.each e d).1,(h.each e d).2,fun a b=>((h.each e d).1.lt a b).2,fun a b=>((h.each e d).2.lt a b).2⟩,Bz _ g,Bz _ f⟩
theorem CA(w:Y)(lo e:Nat):qg w lo e (A0 O 0 0) []:=⟨cE _ _ _ _,fun i d=>(by simp[F0]at d),fun j f=>(by cases f),fun g h b c _ a=>(by simp at a),fun g h b c _ a=>(by simp at a)⟩
def PiP(w:Y)(c a:Int)(ns:List Nd)(e:Ending)(b:Y):Prop:=∃v L,e= A9 (psV c a v)/\L.map Mb.N=ns/\qg b w.heap.size b.heap.size v L/\V w.heap.size w b
structure PL (w:Y):Prop where
 lay:Fy w
 gn:12<=w.heap.size
 pow:∃tt fr,w.heap[1]?=M (.cells Hr tt fr)
 asc:C4 U w "strings.asciiSpace" .u8 A2
theorem PL.below{d:Y}(h:PL w)(a:V B w d)(b:w.heap.size<=B):PL d:=by
 obtain⟨f,e,c⟩:=h.pow;exact⟨h.lay.below a b,bg h.gn a.size,⟨f,e,(a.block _ (gh (ai c) b)).trans c⟩,Ai h.asc a b⟩
theorem Out.at_of{s:ByteArray}{z:Int}(h:Out s c a ns)(e:s.size<=65536)(d:0<=z)(b:jt s=([],z)):c=1/\a=z/\ns=[]:=by
 cases h with
 |big h=>omega
 |at_ _ _ h=>rw[b]at h;cases h;exact⟨rfl,rfl,rfl⟩
 |ok _ h _=>rw[b]at h;cases h;omega
theorem Out.ok_of{s:ByteArray}{toks:List Tk}(h:Out s c a ns)(i:s.size<=65536)(d:jt s=(toks, -1)):∃m b f,PF s toks m b f/\c=okC (E0 s b)/\a=0/\ns=okN (E0 s b):=by
 cases h with
 |big h=>omega
 |at_ _ g h=>rw[d]at h;cases h;omega
 |ok _ h e=>rw[d]at h;cases h;exact⟨_,_,_,e,rfl,rfl,rfl⟩
theorem apB{c:Nat}{cs:Array Ax}(h:Gp c W W')(l:W.heap[c]?=M (B4 cs 94 (0,0))){size:Nat}(o:W.ownsRow base e size v n xs)(i:e≠94)(j:e≠96):W'.ownsRow base e size v n xs:=by
 obtain⟨p,b⟩:=o;refine⟨p,?_⟩;rcases b with b|⟨g,d,f,m,k,a,q⟩
 ·exact .inl b
 ·exact .inr ⟨g,d,f,m,k,jI h a (fun e=>by rw[e,l]at a;cases a;exact i rfl) j,q⟩
theorem Fc(w:Y)(s:ByteArray)(cy:s.size<=1048576)(cq:PL w)(br:Out s c a ns):C5 U 9 #[.string s] w (PiP w c a ns):=by
 have hK:∀(d2:Fn)(first cc:Array Ax)(w:Y),(Instr.makeFunc d2 first cc).run U w= .ok (.func d2 first cc) w:=fun _ _ _ _=>rfl;have i8:∀w:Y,(zeroValue 36).run U w= .ok (.agg #[.int .i64 0,.int .i64 0,.slice O 0 0]) w:=fun w=>by kernel_rfl
 have d3:=bG w (.cells #[.int .i64 0,.int .i64 0,.slice O 0 0] 36);have f6:=ay w (.cells #[.int .i64 0,.int .i64 0,.slice O 0 0] 36);have gp:(w.alloc (.cells #[.int .i64 0,.int .i64 0,.slice O 0 0] 36)).heap.size=w.heap.size+1:=dr _ _;have bf:=aw br;by_cases hH:65536<s.size
 ·have fB:(65536:Int)<(s.size:Int):=by omega
  have L:Br (c=2/\a=0/\ns=[]):=by
   cases br with
   |big h=>exact⟨rfl,rfl,rfl⟩
   |at_ h _ _=>omega
   |ok h _ _=>omega
  clear br bf;go_enter_defers Tryz.func9,Tryz.ntmps9
  go_wp2_with fail;exact⟨_,gi rfl _ _ w.heap.size _ _ _ _ rfl (ay w _) Tryz.underlying36 rfl (by kernel_rfl),show PiP w c a ns _ _ from by rw[L.out.1,L.out.2.1,L.out.2.2];exact⟨_,[],rfl,rfl,CA _ _ _,bG w _⟩⟩
 ·have fB:¬(65536:Int)<(s.size:Int):=by omega
  obtain⟨dq,cf,C⟩:=cq.pow;have e0:=zg (w.alloc (.cells #[.int .i64 0,.int .i64 0,.slice O 0 0] 36)) dq cf ((d3.block _ (ai C)).trans C);have ar:=aw cq;clear br cq C;go_enter_defers Tryz.func9,Tryz.ntmps9
  go_wp2_with fail;refine e0.mono ?_;rintro b bb ⟨ck,rfl,cg,dg,cb⟩;rw[gp]at cg dg cb;have cm:V w.heap.size w bb:=d3.trans (cb.mono (by omega));have d9:GQ bb (w.heap.size+1) ck (w.heap.size+1) [100,6]:=⟨cg,dg,by decide,by decide⟩;have eF:=zy bb (w.heap.size+1) ck (w.heap.size+1) s d9 (ar.lay.below cm (ae _)) (by omega) (by have:=ar.gn;omega);have cI:=(cb.block w.heap.size (by omega)).trans f6;clear e0;go_wp2_with fail;refine eF.mono ?_;rintro b o ⟨(⟨E,dk,toks,b9,j2,ea,c4,rfl,b0,cs,i1,gf,ad⟩|⟨z,a6,rfl,ad⟩)⟩
  ·have B:V w.heap.size w o:=cm.trans (ad.mono (by omega));have a4:=(ad.block w.heap.size (by omega)).trans cI;have ev:=ai a4;obtain⟨n,c6⟩:=aA toks.length;rw[c6]at b0 gf;obtain⟨fc,fm,rfl⟩:=cj b0;obtain⟨stF,ce,bt⟩:∃stF ce,iB E 6=E1->passOk (E.length+45) ce E 6 stF/\stF.length<=E.length+45/\EJ stF (feedL dk 6).1:=by
    by_cases cy:iB E 6=E1
    ·obtain⟨a8,el,gd⟩:=c4.passOk (by decide) (by decide) cy;exact⟨a8,_,fun _=>⟨el,xF el,gd⟩⟩
    ·exact⟨[],0,fun b=>absurd b cy⟩
   have b8:=fun a8=>Gb (o.alloc a8) (w.heap.size+1) ck (w.heap.size+1) E stF ⟨6,(s.size:Nat),(s.size:Nat),0,0,⟨#[]⟩⟩ s ce (cs.below (bG o a8)) ((ar.lay.below (B.trans ((bG o a8).mono B.size)) (ae _)).tabs) (by omega) (by simp) (by simp) (by simp) (by simp) (by simp) (fun b=>⟨(bt b).1,by have:=(bt b).2.1;omega,fun a bw=>by have:=aG ((bt b).2.2.o1 a bw);omega⟩);unfold vTk at b8;simp only at b8;obtain⟨hy,cx,_⟩:=cs.g.ex;have fA:=ai cx;have y:=Jd b0 c6 ea c4 cx;have i3:=ai cI;have i4:=ad.size;clear eF ea c4 bt b0 c6 cs cx d9 cg dg;go_wp2_with fail;refine(b8 _).mono ?_;have J:=bG o (.cells #[.int .i64 6,.int .i64 (s.size:Nat),.int .i64 (s.size:Nat),.int .i64 0,.int .i64 0,.string ⟨#[]⟩] 49);have dn:=ay o (.cells #[.int .i64 6,.int .i64 (s.size:Nat),.int .i64 (s.size:Nat),.int .i64 0,.int .i64 0,.string ⟨#[]⟩] 49);have ge:(o.alloc (.cells #[.int .i64 6,.int .i64 (s.size:Nat),.int .i64 (s.size:Nat),.int .i64 0,.int .i64 0,.string ⟨#[]⟩] 49)).heap.size=o.heap.size+1:=dr _ _;have da:=bJ y.1 J;have ch:=(J.block _ fA).trans y.2.2.2.2;generalize o.alloc (.cells #[.int .i64 6,.int .i64 (s.size:Nat),.int .i64 (s.size:Nat),.int .i64 0,.int .i64 0,.string ⟨#[]⟩] 49)=hn at J dn ge da ch⊢;rintro b v ⟨(⟨bE,rfl,f5,cB,af⟩|⟨bE,rfl,af⟩)⟩
   ·have bA:(feedL dk 6).2=E1:=by rw[<-y.out.2.2.2.1.may (by decide) (by decide)];exact bE
    have c3:=(af.block w.heap.size (by omega)).trans ((J.block _ ev).trans a4);have bn:V w.heap.size w v:=(B.trans (J.mono B.size)).trans (af.mono (by omega));obtain⟨ao,d,ji,q,bx,bw,ek⟩:=bf.ok_of (toks:=toks++[⟨6,(s.size:Nat),(s.size:Nat),b9,0,⟨#[]⟩⟩]) (by omega) (by unfold jt;rw[y.out.2.2.1,aa (by simp),ab bA]);have e4:=apB cB ch da (by decide) (by decide);have e5:dE o.heap.size v 6 (s.size:Nat) (s.size:Nat) 0 0 ⟨#[]⟩:=jI cB dn (by omega);obtain⟨g7,g8,g9,hd,he,hh,hj⟩:=aJ e5;obtain⟨g0,fF,a6,gs,gt⟩:=dD ada;have iv:=af.size;have eh:n=ao:=by have:=q.len;rw[aB,y.out.2.1]at this;simpa using this
    have m:=Jd q bx bw ek eh;have dc:=bJ e4 (bG v (.cells #[.int .i64 6,.int .i64 (s.size:Nat),.int .i64 (s.size:Nat),.int .i64 0,.int .i64 0,.string ⟨#[]⟩] 49));have iy:=(bG v (.cells #[.int .i64 6,.int .i64 (s.size:Nat),.int .i64 (s.size:Nat),.int .i64 0,.int .i64 0,.string ⟨#[]⟩] 49)).size;have e6:=ay v (.cells #[.int .i64 6,.int .i64 (s.size:Nat),.int .i64 (s.size:Nat),.int .i64 0,.int .i64 0,.string ⟨#[]⟩] 49);clear b8 f5 cB dn da ch e5 q bx bw ek eh e4 bA bE;go_wp2_with (at_builtin;refine wpList_append_own_at _ rfl _ _ 27 rfl bb.heap.size 49 g0 _ 6 56 Tryz.underlying27 fF a6 gs gt rfl (by decide) _ _ _ rfl dc ⟨v.heap.size,0,O⟩ 1 1 [.int .i64 6,.int .i64 (s.size:Nat),.int .i64 (s.size:Nat),.int .i64 0,.int .i64 0,.string ⟨#[]⟩] rfl rfl (World.news_of_block e6) (by intro j1 es;simp at es;rcases es with rfl|rfl|rfl|rfl|rfl|rfl<;>rfl) (by unfold F2;omega) (by omega) (by omega) ?_;intro j3 j dd bD _ fu;obtain⟨G,ag,rfl⟩:=ownsRow_succ dd);have i5:=bD.size;have et:∀k,(Value.slice fc n fm).ownBlock=M k->bb.heap.size<=k:=fun k u=>(dc.lt k u).1;have bo:V w.heap.size w j:=(bn.trans ((bG v _).mono bn.size)).grown bD (by omega) (fun k u=>by have:=et k u;omega);have a5:=(bD.block w.heap.size (by omega) (fun b=>by have:=et _ b.symm;omega)).trans (((bG v _).block _ (by omega)).trans c3);obtain⟨dq,cf,C⟩:=ar.pow;have cp:=(bo.block _ (ai C)).trans C;have hD:=ai C;obtain⟨bj,ak,eb⟩:∃bj,j.heap[G]?=M (.cells bj 49 (0,0))/\TkR bj (zJ (toks++[⟨6,(s.size:Nat),(s.size:Nat),b9,0,⟨#[]⟩⟩])) (n+1):=by
     rcases dd.2 with⟨c7,_⟩|⟨hw,cc,fk,c7,hJ,bx,A,hB,hC,fq⟩
     ·cases c7
     ·cases c7;refine⟨fk,bx,aok (ts:=toks++[⟨6,(s.size:Nat),(s.size:Nat),0,0,⟨#[]⟩⟩]) (by rw[qh];exact fq) (by rw[aB,y.out.2.1];rfl) (fun df T am=>?_)⟩;rcases aH df toks.length with h|h
      ·rw[ia h]at am;rw[IA (T:=T) (by rw[ia h];exact am)];exact⟨rfl,fun _=>rfl⟩
      ·have b:df=toks.length:=by have:=(List.getElem?_eq_some_iff.1 am).1;simp at this;omega
       subst b;rw[fy (ae _),eD]at am;cases am;rw[IA (T:=⟨6,(s.size:Nat),(s.size:Nat),b9,0,⟨#[]⟩⟩) (by rw[fy (ae _),eD];rfl)];exact⟨rfl,fun h=>absurd rfl h⟩
    obtain⟨K,I⟩:∃K:Pe,(⟨0,j.heap.size,G,ag,n+1,zJ (toks++[⟨6,(s.size:Nat),(s.size:Nat),b9,0,⟨#[]⟩⟩])⟩:Pe)=K:=⟨_,rfl⟩;have q:=m.1;have d1:Pp K (j.alloc (.cells #[.slice (M ⟨G,0,O⟩) (n+1) ag,.int .i64 0] 69)) 0:=by
     rw[<-I];exact⟨by show n+1<=_;omega,⟨bj,(0,0),((bG j _).block _ (ai ak)).trans ak,eb⟩,ay j _,by have:=bo.size;show _<j.heap.size;omega,dq,cf,((bG j _).block _ (ai cp)).trans cp⟩
    obtain⟨df,hS⟩:PI K .stats 0 d ao:=aim (by rw[<-I];exact q.k78) (by rw[<-I];show P _ (n+1) _ _ _ _;rw[m.out.2.2.2.2];exact q.p);have a7:=aqJ (ahI (.inr (by rw[<-I];show(zJ _ ao).k=6;rw[q.end_])) hS) (by rw[<-I];show ao<n+1;have:=m.2.2.2.2;omega) _ d1 (by have:=q.sz;rw[de];omega);have d8:(K.tk ao).t=(s.size:Nat):=by rw[<-I];show(zJ _ ao).t=_;rw[q.end_]
    have cn:K.pb=j.heap.size:=by rw[<-I]
    unfold pV at a7;rw[d8,cn]at a7;have gz:(j.alloc (.cells #[.slice (M ⟨G,0,O⟩) (n+1) ag,.int .i64 0] 69)).heap.size=j.heap.size+1:=dr _ _;have cw:=bG j (.cells #[.slice (M ⟨G,0,O⟩) (n+1) ag,.int .i64 0] 69);have d6:V w.heap.size w (j.alloc (.cells #[.slice (M ⟨G,0,O⟩) (n+1) ag,.int .i64 0] 69)):=bo.trans (cw.mono bo.size);have em:=(cw.block _ (ai a5)).trans a5;have i6:=ai a5;clear hS d1 q ak eb C cp dd bD fu dc e6 g7 g8 g9 hd he hh hj;generalize j.alloc (.cells #[.slice (M ⟨G,0,O⟩) (n+1) ag,.int .i64 0] 69)=ca at a7 gz cw d6 em⊢;refine a7.mono ?_;rintro b e9 ⟨g5,rfl,a0⟩;obtain⟨fg,e2,ei⟩:=a0.nb;have gm:=a0.gr.size;have f8:=(a0.gr.block w.heap.size (by omega) (fun b=>by rw[cn]at b;have:=bu b;omega)).trans em;have fs:V w.heap.size w e9:=d6.grown a0.gr (by omega) (fun k u=>by rw[cn]at u;have:=bu u;omega);have e1:=Bt (yh ca.heap.size d) (N:=⟨1,0,(s.size:Nat),1,0,0,z0,[],[]⟩) e9 g5 fg [] (.slice O 0 0) e2 ⟨cE _ _ _ _,fun d0 b7=>(by cases b7)⟩ gm (by have:=m.1.sz;rw[de];simp;omega);have fb:=aw ei;clear a7 e2 ei a0 d8;go_wp2_with fail;refine e1.mono ?_;rintro b l ⟨i9,F,rfl,an,cr,ak,⟨fz,eg⟩,bk,f3,_⟩;rw[ep]at an;obtain⟨e,g,rfl⟩:=cj an.row;have d7:V w.heap.size w l:=fs.trans (bk.bl.mono (by omega));have en:=(bk.bl.block w.heap.size (by omega)).trans f8;have i7:=bk.bl.size;obtain⟨i,cz⟩:=aA F.length;rw[cz]at an;have e3:gw l (.slice e i g) (E0 s d):=by
     have:=an.nds;rw[cr]at this;exact this
    have be:Br (Lw l ca.heap.size (.slice e i g) F/\F.map Mb.N=E0 s d/\(nB' F).Nodup/\(kB F).Nodup):=⟨an,cr,List.nodup_iff_count.2 fun fa=>bg (ak fa) (List.nodup_iff_count.1 (List.nodup_append.1 fb).1 fa),eg⟩;rw[cz];have a9:=bG l (.cells #[.slice e i g] 34);have d4:V w.heap.size w (l.alloc (.cells #[.slice e i g] 34)):=d7.trans (a9.mono d7.size);have bh:=ar.below d4 (ae _);have f4:(E0 s d).length<=1048576:=by
     have:=m.1.sz;unfold E0;rw[Fo.flat_len,de];omega
    obtain⟨g1,fo,ec⟩:=bh.lay.tabs.word;have c8:=aag (l.alloc (.cells #[.slice e i g] 34)) (.slice e i g) (E0 s d) (e3.below a9) f4 m.1.sm bh.lay.errs g1 fo ec (fun hl fv=>Ai bh.asc fv (ae _));have cu:=ay l (.cells #[.slice e i g] 34);have cF:=(a9.block _ (ai en)).trans en;have h9:(l.alloc (.cells #[.slice e i g] 34)).heap.size=l.heap.size+1:=dr _ _;have bd:Br (okC (E0 s d)=(if(dL (E0 s d)).1=0 then 0 else 2)/\okN (E0 s d)=(if(dL (E0 s d)).1=0 then E0 s d else [])):=⟨rfl,rfl⟩;obtain⟨e7,c5⟩:=aA ((dL (E0 s d)).1);obtain⟨j0,eq⟩:=aA ((dL (E0 s d)).2);rw[c5]at bd;simp only[c5,eq]at c8;have hI:∀(e8 g3:Ax)(w:Y),(Instr.field 75 (.agg #[e8,g3]) 0).run U w= .ok e8 w:=fun _ _ _=>by kernel_rfl
    clear e1 an cr ak fz eg bk f3 e3 ec c5 eq bh cz;go_wp2_with fail;refine c8.mono ?_;rintro b x ⟨rfl,a2⟩;have ee:=(a2.block _ (ai cu)).trans cu;have b1:=(a2.block _ (ai cF)).trans cF;have d5:V w.heap.size w x:=d4.trans (a2.mono (by omega));have ih:=a2.size;have f2:∀k,k<l.heap.size->x.heap[k]?=l.heap[k]?:=fun k u=>(a2.block k (by omega)).trans (a9.block k u);obtain⟨hp,hr,hs,ht⟩:=row3 b1;have jv:x.cell? ⟨l.heap.size,0,O⟩=M (.slice e i g):=by rw[au _ _ _ _ _ _ ee];rfl
    have h7:w.heap.size≠l.heap.size:=by omega
    have h8:=ai b1;clear c8 cu cF a9 ee;by_cases a3:e7=0
    ·subst a3;go_wp2_with fail;refine vK (f:=23) (args:=#[.pointer (M ⟨w.heap.size,0,O⟩)]) (by simp) (by simp[go_sem]) ?_;refine(adv ⟨w.heap.size,0,O⟩ _).mono ?_;rintro b ds dx ⟨rfl,rfl,rfl⟩;have A:=set3 b1 (.int .i64 0) (.int .i64 0) (.slice e i g);have H:=ahz d5 (.int .i64 0) (.int .i64 0) (.slice e i g);have ef:∀k,k≠w.heap.size->_:=fun k u=>aqk (w:=x) (r:=w.heap.size) (k:=k) u (.int .i64 0) (.int .i64 0) (.slice e i g);have ew:x.heap.size<=(((x.setCell ⟨w.heap.size,0,O⟩ (.int .i64 0)).setCell ⟨w.heap.size,1,O⟩ (.int .i64 0)).setCell ⟨w.heap.size,2,O⟩ (.slice e i g)).heap.size:=by simp[World.setCell]
     generalize ((x.setCell ⟨w.heap.size,0,O⟩ (.int .i64 0)).setCell ⟨w.heap.size,1,O⟩ (.int .i64 0)).setCell ⟨w.heap.size,2,O⟩ (.slice e i g)=a1 at A H ef ew⊢;have ap:=bG a1 (.cells #[.int .i64 0] 51);have i2:=H.size;have ii:x.heap.size<=a1.heap.size:=ew;have b:=bd.out;rw[ab trivial,ab trivial]at b;have c9:Lw (a1.alloc (.cells #[.int .i64 0] 51)) ca.heap.size (.slice e i g) F:=be.1.mono fun k hA fp=>(ap.block k (by omega)).trans ((ef k (by omega)).trans (f2 k fp));refine⟨_,gi rfl _ _ w.heap.size _ _ _ _ rfl ((ap.block _ (ai A)).trans A) Tryz.underlying36 rfl (by kernel_rfl),show PiP w c a ns _ _ from ?_⟩;rw[m.out.2.1,m.out.2.2.1,m.out.2.2.2.1,b.1,b.2];exact⟨_,F,rfl,be.2.1,apA ⟨mL c9.row (by omega),fun d0 b7=>⟨mL (c9.each d0 b7).1 (by omega),mL (c9.each d0 b7).2 (by omega)⟩⟩ be.2.2.1 be.2.2.2,H.trans (ap.mono (by omega))⟩
    ·have am:(e7==0)=A5:=by simpa using a3
     have L:Br (okC (E0 s d)=2/\okN (E0 s d)=[]):=by
      have b:=bd.out;rw[aa a3,aa a3]at b;exact b
     clear a3 bd;go_wp2_with fail;refine vK (f:=23) (args:=#[.pointer (M ⟨w.heap.size,0,O⟩)]) (by simp) (by simp[go_sem]) ?_;refine(adv ⟨w.heap.size,0,O⟩ _).mono ?_;rintro b ds dx ⟨rfl,rfl,rfl⟩;have A:=set3 b1 (.int .i64 2) (.int .i64 0) (.slice O 0 0);have H:=ahz d5 (.int .i64 2) (.int .i64 0) (.slice O 0 0);generalize ((x.setCell ⟨w.heap.size,0,O⟩ (.int .i64 2)).setCell ⟨w.heap.size,1,O⟩ (.int .i64 0)).setCell ⟨w.heap.size,2,O⟩ (.slice O 0 0)=a1 at A H⊢;have ap:=bG a1 (.cells #[.int .i64 0] 51);refine⟨_,gi rfl _ _ w.heap.size _ _ _ _ rfl ((ap.block _ (ai A)).trans A) Tryz.underlying36 rfl (by kernel_rfl),show PiP w c a ns _ _ from ?_⟩;rw[m.out.2.1,m.out.2.2.1,m.out.2.2.2.1,L.out.1,L.out.2];exact⟨_,[],rfl,rfl,CA _ _ _,H.trans (ap.mono H.size)⟩
   ·have c3:=(af.block w.heap.size (by omega)).trans ((J.block _ ev).trans a4);have bn:V w.heap.size w v:=(B.trans (J.mono B.size)).trans (af.mono (by omega));have bA:(feedL dk 6).2=A5:=by rw[<-y.out.2.2.2.1.may (by decide) (by decide)];exact bE
    obtain⟨rfl,rfl,rfl⟩:=bf.at_of (z:=(s.size:Nat)) (by omega) (by omega) (by unfold jt;rw[y.out.2.2.1,aa (by simp),aa (by rw[bA];simp)]);refine vK (f:=23) (args:=#[.pointer (M ⟨w.heap.size,0,O⟩)]) (by simp) (by simp[go_sem]) ?_;refine(adu w.heap.size _ _ _ _ v c3).mono ?_;rintro b ds dx ⟨rfl,rfl,a5,ff⟩;have f9:=Cx E (s.extract s.size s.size);rw[ik]at f9;exact⟨_,gi rfl _ _ w.heap.size _ _ _ _ rfl a5 Tryz.underlying36 rfl (by kernel_rfl),⟨_,[],by unfold psV;simp only[jz];rw[show xL E (s.extract s.size s.size)=0 by omega,Int.natCast_zero,Int.add_zero],rfl,CA _ _ _,bn.trans ff⟩⟩
  ·have B:V w.heap.size w o:=cm.trans (ad.mono (by omega));have a4:=(ad.block w.heap.size (by omega)).trans cI;obtain⟨rfl,rfl,rfl⟩:=bf.at_of (by omega) a6.bad (by unfold jt;rw[ab a6.bad]);refine vK (f:=23) (args:=#[.pointer (M ⟨w.heap.size,0,O⟩)]) (by simp) (by simp[go_sem]) ?_;refine(adu w.heap.size _ _ _ z o a4).mono ?_;rintro b ds dx ⟨rfl,rfl,f7,fd⟩;exact⟨_,gi rfl _ _ w.heap.size _ _ _ _ rfl f7 Tryz.underlying36 rfl (by kernel_rfl),⟨_,[],by rw[<-a6.at_];rfl,rfl,CA _ _ _,B.trans fd⟩⟩
