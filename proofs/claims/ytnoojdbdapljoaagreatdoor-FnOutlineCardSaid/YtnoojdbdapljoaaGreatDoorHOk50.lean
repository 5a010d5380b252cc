import Derived.Test.YtnoojdbdapljoaaGreatDoorHOk42
import Derived.Test.YtnoojdbdapljoaaGreatDoorHOk47
set_option linter.all false
set_option maxRecDepth 100000
set_option maxHeartbeats 12800000
open Go renaming undef->M,World->V,Value->X,grownBy_putObj'->Ax,wpAnyH_ready->A5
open Option renaming some->O,none->Q
open Go.World renaming putObj_heap_other->R
open Go.KeepsOthers renaming setCell->T
open List renaming set->U,replicate->A0
open Go.Proofs.Tryz renaming prog->Y
open Go.Value renaming pointer->Z,int->A3,slice->A6,bool->A7,tuple->A8,int->A9,iface->B0,nilIface->B1
open Bool renaming false->A1,true->Br
open Go.AllReadyH renaming cons->A2,nil->A4
namespace Go.Proofs.YtnoojdbdapljoaaGreatDoor
open Go.RowKit
theorem Gj(n r Bs c cap:Nat)(a:Option Addr)(o:Nat->X)(K:c<=3000)(I:c<=cap)(d:Nat->V->Prop)(l:V->Prop)
  (q:∀m b,d m b->b.cell? ⟨Bs,0,Q⟩=O (A6 a c cap))
  (z:∀m b,d m b->∀j,j<c->∃i,a=O i/\b.cell? (i.add j)=O (o j))
  (y:∀m b,m<c->d (m+1) b->YieldAt Fence.wide (n-1) Y r #[A9 .i64 (m:Int),o m] b fun e g=>(e= .returned (A7 Br)/\d m g)\/(e= .returned (A7 A1)/\l g))
  (b:V) (p:d c b):
  CallsIn Fence.wide n Y 133 #[.func (.yield r) #[] #[],Z (O ⟨Bs,0,Q⟩)] b fun e g=>(∃v,e= .returned v)/\(d 0 g\/l g):=by
 have G:=q _ _ p;refine callsIn_of_wp Tryz.func133 rfl trivial ?_ rfl;simp only[Tryz.ntmps133,ip,di,fs,Nat.reduceAdd,Nat.reduceSub,jt,ju,jw,xI,fd,fF]
 gi_wp2
 gi_loopw [3] (fun k wr=>∃f:Nat,f<=c/\k= A9 .i64 ((f:Int)-1)/\d f wr) (fun k _=>(intOf k+1).toNat)
 case atStart=>exact⟨c,ah _,rfl,p⟩
 case round=>
  obtain⟨f,J,rfl,h⟩:=hrel;have F:=q _ _ h;rcases li f with rfl|hp
  ·gi_wp2
   go_end0
   exact⟨⟨_,rfl⟩,.inl h⟩
  ·obtain⟨m,rfl⟩:∃m,f=m+1:=⟨f-1,by omega⟩;obtain⟨i,rfl,H⟩:=z _ _ h m (by omega);obtain⟨E,tmps,B,C,L,x⟩:=y m wr (by omega) h;have s:((m+1:Nat):Int)-1=(m:Int):=by omega
   rw[s];have ad:(m:Int)<(c:Int):=by omega
   have af:(0:Int)<=(m:Int):=by omega
   gi_wp2
   refine⟨fun t=>by simp[Fence.wide]at t,x.mono ?_⟩;rintro e A (⟨rfl,u⟩|⟨rfl,w⟩)
   ·gi_wp2
    go_roundw
    case rel=>exact⟨m,by omega,by simp,u⟩
    case measure=>simp[intOf]
   ·gi_wp2
    refine bB (rl rfl _ _ _) rfl ?_;exact⟨⟨_,rfl⟩,.inr w⟩
theorem ve(a:Option Addr)(b cap:Nat)(w:V):
  Calls Y 69 #[A6 a b cap] w fun e c=>e= .returned (.func (.func 133) #[] #[Z (O ⟨w.heap.size,0,Q⟩)])/\c=w.alloc (.cells #[A6 a b cap] 57):=by
 refine calls_of_wp Tryz.func69 rfl ?_;simp only[Tryz.ntmps69,ip,di,fs,Nat.reduceAdd,Nat.reduceSub,jt,ju,jw,xI,fd,fF];go_wp2;go_ret;exact⟨rfl,rfl⟩
attribute [local go_sem] Cn
def Ke:Option Nat->X
 |some i=> A8 #[A9 .i64 (i:Int),A7 Br]
 |none=> A8 #[A9 .i64 0,A7 A1]
structure As (w:V) (B:Nat) (vs:X) (n:Nat) (D:List Int) (W:V):Prop where
 bl:Below w.heap.size w W
 row:W.ownsRow w.heap.size 3 1 (.slice (O ⟨w.heap.size,0,Q⟩) n n) n (D.map (A3 .i64))
 bx:W.heap[B]?=O (.cells #[.slice (O ⟨w.heap.size,0,Q⟩) n n] 33 (0,0))
 bs:W.heap[B+1]?=O (.cells #[vs] 57 (0,0))
 ok:aae n D
theorem As.put{w:V}{a:Nat}{d:X}{n:Nat}{D:List Int}{b:V}(h:As w a d n D b)(g:w.heap.size<a){r:Loop}{k:Nat}(i:a+1<k)(f:b.heap[k]?=O (.loop r))(c:Obj):As w a d n D (b.putObj k c):=
 ⟨h.bl.grown (Ax b k c) h.bl.size (fun j e=>by cases e;omega),ownsRow_putObj h.row c f rfl,(R (by omega)).trans h.bx,(R (by omega)).trans h.bs,h.ok⟩
structure ai8 (w:V) (B:Nat) (vs:X) (n t:Nat) (ks D:List Int) (j:Nat) (E:List Int) (W0 W:V):Prop where
 st:As w B vs n E W
 rest:GC t (ks.drop j) E=GC t ks D
 kf:KeepsFrom (B+2) W0 W
theorem wl{b:V}{base e size n:Nat}{v:X}{d:List X}(h:b.ownsRow base e size v n d):∃a cap,v= A6 a n cap:=by
 rcases h.2 with⟨rfl,c⟩|⟨g,cap,f,rfl,_⟩
 ·exact⟨Q,0,by rw[c]⟩
 ·exact⟨_,_,rfl⟩
theorem Gk{b:V}{base e size n m c:Nat}{a:Option Addr}{d:List X}(h:b.ownsRow base e size (A6 a n c) m d):n=m:=by
 obtain⟨f,g,e⟩:=wl h;cases e;rfl
theorem js.at{d:V}{base g n c:Nat}{a:List Im}(h:js d base (A6 (O ⟨g,0,Q⟩) n c) a){i:Nat}{x:Im}(e:a[i]?=O x):d.cell? ⟨g,i,Q⟩=O (B0 (lG (fJ x.N.k)) (Z (O ⟨x.b,0,Q⟩))):=by
 have j:i<a.length:=(List.getElem?_eq_some_iff.1 e).1;have f:=Gk h.row;subst f;rw[h.row.cellAt i (by omega),cj,e];rfl
theorem js.kidAt{l:V}{base:Nat}{r:X}{a:List Im}(h:js l base r a){i:Nat}{x:Im}(e:a[i]?=O x){g n c:Nat}(p:x.kv= A6 (O ⟨g,0,Q⟩) n c){j:Nat}{z:Int}(f:x.N.ks[j]?=O z):
  ∃q y,z=((q:Nat):Int)/\q<i/\a[q]?=O y/\l.cell? ⟨g,j,Q⟩=O (B0 (lG (fJ y.N.k)) (Z (O ⟨y.b,0,Q⟩))):=by
 obtain⟨z0,u⟩:=h.rng i x z e (bC f);obtain⟨q,rfl⟩:=ir z0;have s:i<a.length:=(List.getElem?_eq_some_iff.1 e).1;have t:j<x.N.ks.length:=(List.getElem?_eq_some_iff.1 f).1;have m:q<i:=by omega
 refine⟨q,a[q]'(by omega),rfl,m,aI _,?_⟩;have d:=h.kid i x e;rw[p]at d;have o:=Gk d;subst o;rw[d.cellAt j (by omega)];unfold nu;rw[cj,f];simp only[ym,rp];rw[lc,ab m,aI (by omega)];rfl
theorem Bo(w:V)(base:Nat)(b3:X)(H:List Im)(a2:js w base b3 H)(t:List Nd)(co:H.map Im.N=t)(n:Nat)(br:H.length=n)(ex:1<=n)(r:n<=3000)(cn:∀x∈H,x.N.ks.length<=200):
  Calls Y 36 #[b3] w fun e o=>e= .returned (Ke (gA (gK (Du t)) n 0))/\Below w.heap.size w o:=by
 obtain⟨f,j,rfl⟩:∃f b6,b3= .slice (O ⟨f,0,Q⟩) n b6:=by
  rcases bq a2.row with⟨h,_⟩|h
  ·omega
  ·rw[<-br];exact h
 have dq:n<=j:=by
  rcases a2.row.2 with⟨r,_⟩|⟨ev,el,eo,r,_,_,eF,_⟩
  ·cases r
  ·cases r;omega
 obtain⟨d9,d0,d6,d7,d8⟩:=dC rz;obtain⟨bn,bt⟩:=aA (gA (gK (Du t)) n 0);rw[bt];have q:=aey a2 co br bt cn;clear a2 co br bt cn;refine Co (n:=5).1 ?_;refine callsIn_of_wp_marks Tryz.func36 rfl trivial ?_ rfl;simp only[Tryz.ntmps36,ip,di,fs,Nat.reduceAdd,Nat.reduceSub,jt,ju,jw,xI,fd,fF];refine wpIn_wide.2 ?_;go_wp2_with (first|(at_make;refine yw _ rfl _ _ 33 rfl w.heap.size 3 d9 (.int .i64 0) 1 Tryz.underlying33 d0 d6 d7 .i64 .i64 _ _ n rfl rfl rfl rfl (by rw[d8];omega) (by unfold maxLen;omega) (ah _) ?_;intro F a8 J)|(go_at_call 69;refine(ve (O ⟨f,0,Q⟩) n j _).mono ?_;rintro e fk ⟨rfl,rfl⟩));rename_i eg cc;have cf:Below w.heap.size w F:=⟨J.os,J.tape,J.output,J.size,fun g d2=>J.block g d2 (by simp)⟩;rw[show(madeCells (A3 .i64 0).cells (n*1)).toList=A0 n (A3 .i64 0) by rw[tw];exact yl _ n]at a8;have bF:w.heap.size<F.heap.size:=(a8.lt w.heap.size rfl).2;obtain⟨c,a1⟩:=aA F.heap.size;have K:As w c (.slice (O ⟨f,0,Q⟩) n j) n (A0 n 0) ((F.alloc (.cells #[.slice (O ⟨w.heap.size,0,Q⟩) n n] 33)).alloc (.cells #[.slice (O ⟨f,0,Q⟩) n j] 57)):=by
  refine⟨(cf.alloc (by omega) _).alloc (by simp;omega) _,?_,?_,?_,?_⟩
  ·rw[List.map_replicate];exact(a8.alloc _).alloc _
  ·exact(dr _ _ _ (by simp;omega)).trans (by rw[<-a1];exact aw F _)
  ·have:=aw (F.alloc (.cells #[.slice (O ⟨w.heap.size,0,Q⟩) n n] 33)) (.cells #[.slice (O ⟨f,0,Q⟩) n j] 57);rw[ba,a1]at this;exact this
  ·refine⟨by simp,fun s ar a5=>?_⟩;obtain⟨r,c9⟩:=List.getElem?_eq_some_iff.1 a5;simp at r c9;omega
 have L:((F.alloc (.cells #[.slice (O ⟨w.heap.size,0,Q⟩) n n] 33)).alloc (.cells #[.slice (O ⟨f,0,Q⟩) n j] 57)).heap.size=c+2:=by simp;omega
 rw[a1]at bF⊢;generalize (F.alloc (.cells #[.slice (O ⟨w.heap.size,0,Q⟩) n n] 33)).alloc (.cells #[.slice (O ⟨f,0,Q⟩) n j] 57)=ei at K L⊢;clear a8 J cf a1;refine(Cs (n:=5)).1 ?_;refine BH (P:=Y) (gf:=133) (lb:=#[.pointer (O ⟨c+1,0,Q⟩)]) rfl (enters_of Tryz.func133 (by kernel_rfl) rfl)
  (fun a=>#[.int .i64 (a:Int),match H[a]? with|some x=> .iface (lG (fJ x.N.k)) (.pointer (O ⟨x.b,0,Q⟩))|none=> .nilIface]) (fun _=>rfl) n
  (fun a b=>∃D,As w c (.slice (O ⟨f,0,Q⟩) n j) n D b/\dpN t a D=Du t)
  (fun a ad b=>(∃D,As w c (.slice (O ⟨f,0,Q⟩) n j) n D b/\dpN t (a+1) D=Du t)/\∃x,H[a]?=O x/\
   ad={tmps:=#[.slice (O ⟨f,0,Q⟩) n j,M,.int .i64 0,.bool A1,.pointer (O ⟨c,0,Q⟩),.int .i64 (a:Int),.iface (lG (fJ x.N.k)) (.pointer (O ⟨x.b,0,Q⟩)),M,M,M,M,
    .slice (O ⟨f,0,Q⟩) n j,.int .i64 (n:Int),.slice (O ⟨w.heap.size,0,Q⟩) n n,.slice (O ⟨f,0,Q⟩) n j,.func (.func 133) #[] #[.pointer (O ⟨c+1,0,Q⟩)],.int .i64 (a:Int),.iface (lG (fJ x.N.k)) (.pointer (O ⟨x.b,0,Q⟩)),
    M,M,M,M,M,M,M,M,M,M,M,M,M,M,M,M,M,M,M,M,M,M,M,M,M,M,M,M,M,M,M,M,M,M],defers:=[]})
  (fun _=>False)
  ?pZ ?pAx ?pX ?h0 ?assign ?body ?seq ?done ?ret
 case pZ=>
  rintro a b cB bb ⟨D,h,m⟩ am;rw[L]at am⊢;exact⟨D,h.put bF (by omega) am bb,m⟩
 case pAx=>
  rintro a ad b cB bb ⟨⟨D,h,m⟩,x,p,rfl⟩ am;rw[L]at am⊢;exact⟨⟨D,h.put bF (by omega) am bb,m⟩,x,p,rfl⟩
 case pX=>intro b cB bb h;exact h.elim
 case h0=>
  intro c5 a3 fc;have dp:Below w.heap.size w c5:=K.bl.trans (a3.mono (by omega));exact⟨A0 n 0,⟨dp,aG K.row a3,(a3.block _ (by omega)).trans K.bx,(a3.block _ (by omega)).trans K.bs,K.ok⟩,by rw[Du,<-q.out.2.1,dv,q.out.2.2.1]⟩
 case assign=>
  rintro a9 a b eh a6 ⟨D,h,m⟩ ce;obtain⟨x,p⟩:=bj q.out.2.2.1 a6;rw[p]at⊢;have ef:=fun ad=>ce ad b;have i:=gD h m p;clear h m p
  gi_wp2
  exact ce _ _ ⟨⟨D,i.out.1,i.out.2.1⟩,x,i.out.2.2,rfl⟩ (KeepsFrom.refl _ _)
 case body=>
  rintro a9 a ad b a6 ⟨⟨D,h,m⟩,x,p,rfl⟩;rw[L];have bw:=cell_kept h.bl (q.out.1.box a x p).cells.2.2.2.2.1;have ak:=q.out.1.kid a x p;obtain⟨c6,ep,C⟩:=wl ak;rw[C]at bw;have d3:=q.out.2.2.2.2 x (bC p);obtain⟨ao,bE⟩:=aA x.N.ks.length;rw[bE]at bw d3 C;have cr:t[a]?=O x.N:=by rw[<-q.out.2.1,cj,p];rfl
  have ck:dpN t a (GC a x.N.ks D)=Du t:=by
   rw[dpN,bm,cr,gl]at m;exact m
  have i:=tI p ck bE C;have b5:Hid (ai8 w c (.slice (O ⟨f,0,Q⟩) n j) n a x.N.ks D 0 D b b):=⟨h,rfl,KeepsFrom.refl _ _⟩;have a7:=fun w=>ma x.N.k x.b w;have e8:(a:Int)<(n:Int):=by omega
  have e7:(0:Int)<=(a:Int):=by omega
  have cy:=fun (c7:Nat) w=>CallsIn.inRound a9 (Co (n:=2).2 (eK c7 w));generalize lG (fJ x.N.k)=fg at a7⊢;clear p m ck ak cr bE C h
  gi_wp2_with (refine⟨trivial,?_⟩;gi_at_call 234;refine(cy _ _).mono ?_;rintro e ap ⟨rfl,cu⟩;subst ap)
  gi_loopw [24] (fun G ec=>∃(s:Nat) (y:List Int),s<=ao/\G= .int .i64 s/\Hid (ai8 w c (.slice (O ⟨f,0,Q⟩) n j) n a x.N.ks D s y b ec)) (fun G _=>ao-(intOf G).toNat)
  case atStart=>exact⟨0,D,be _,rfl,b5⟩
  case round=>
   obtain⟨s,y,a5,rfl,l⟩:=hrel;clear b5 bw a7;by_cases d1:s<ao
   ·have e3:(s:Int)<(ao:Int):=by omega
    have e2:(0:Int)<=(s:Int):=by omega
    obtain⟨ar,E⟩:=bj i.out.2.2.1 d1;have C:=i.out.2.2.2;obtain⟨gk,dz⟩:∃gk,c6=O ⟨gk,0,Q⟩:=by
     have ak:=q.out.1.kid a x i.out.1;rw[C]at ak;rcases bq ak with⟨h,_⟩|⟨gk,b6,h⟩
     ·rw[i.out.2.2.1]at h;omega
     ·cases h;exact⟨_,rfl⟩
    subst dz;obtain⟨d,v,rfl,d5,b0,ds⟩:=(q.out.1.below (l.out.st.bl)).kidAt i.out.1 C E;have cp:=cell_kept l.out.st.bl (q.out.1.box d v b0).cells.2.2.2.1;obtain⟨k,a4⟩:=bj l.out.st.ok.1 a6;obtain⟨c8,cl⟩:=bj l.out.st.ok.1 (show d<n by omega);have e1:=l.out.st.ok.2 a k a4;have I:As w c (.slice (O ⟨f,0,Q⟩) n j) n y wr.drew:=⟨l.out.st.bl.drew,l.out.st.row,l.out.st.bx,l.out.st.bs,l.out.st.ok⟩;have an:=I.row;have b7:wr.drew.cell? ⟨w.heap.size,a,Q⟩=O (.int .i64 k):=by rw[an.cellAt a (by omega),cj,a4];rfl
    have em:wr.drew.cell? ⟨w.heap.size,d,Q⟩=O (.int .i64 c8):=by rw[an.cellAt d (by omega),cj,cl];rfl
    have es:=an.frozenAt d;have bD:y.getD a 0=k:=by rw[bm,a4];rfl
    have b1:=(an.stored d (.int .i64 (k+1))).1;rw[<-List.map_set]at b1;have b2:=l.out.st.ok.set a d a6 d5;rw[bD]at b2;have cs:GC a (x.N.ks.drop (s+1)) (y.set d (k+1))=GC a x.N.ks D:=by
     have r:=l.out.rest;have cm:=(List.getElem?_eq_some_iff.1 E);rw[mg cm.1,cm.2,GC,bD]at r;exact r
    have bo:wr.drew.cell? ⟨c,0,Q⟩=_:=ch I.bx;have c0:As w c (.slice (O ⟨f,0,Q⟩) n j) n (y.set d (k+1)) (wr.drew.setCell ⟨w.heap.size,d,Q⟩ (.int .i64 (k+1))):=
     ⟨I.bl.setCell (ah _) _,b1,(bh _ _ _ _ (by simp;omega)).trans I.bx,(bh _ _ _ _ (by simp;omega)).trans I.bs,b2⟩
    have c1:Hid (ai8 w c (.slice (O ⟨f,0,Q⟩) n j) n a x.N.ks D (s+1) (y.set d (k+1)) b (wr.drew.setCell ⟨w.heap.size,d,Q⟩ (.int .i64 (k+1)))):=⟨c0,cs,l.out.kf.trans (((KeepsOthers.drew wr).from _).trans ((T _ _ _).from _))⟩;have e9:d≠a:=by omega
    have fe:IntKind.i64.wrap (k+1)=k+1:=by rw[cJ];omega
    have ff:=ax (q.out.1.box d v b0);have df:(wr.drew.setCell ⟨w.heap.size,d,Q⟩ (.int .i64 (k+1))).cell? ⟨c,0,Q⟩=O (.slice (O ⟨w.heap.size,0,Q⟩) n n)/\(wr.drew.setCell ⟨w.heap.size,d,Q⟩ (.int .i64 (k+1))).cell? ⟨v.b,4,Q⟩=O (.int .i64 (d:Int))/\(wr.drew.setCell ⟨w.heap.size,d,Q⟩ (.int .i64 (k+1))).cell? ⟨w.heap.size,a,Q⟩=O (.int .i64 k):=
     ⟨(World.cell?_setCell_far _ _ _ _ (by simp;omega)).trans bo,(World.cell?_setCell_far _ _ _ _ (by simp;omega)).trans cp,(World.cell?_setCell_other _ _ _ _ (by simp;try omega)).trans b7⟩
    have fb:(d:Int)<(n:Int):=by omega
    have fa:(0:Int)<=(d:Int):=by omega
    have a7:=fun w=>ma v.N.k v.b w;generalize lG (fJ v.N.k)=ea at a7 ds;clear E l b1 b2 cs c0 an a4 cl bD C b0 I
    gi_wp2_with (refine⟨trivial,?_⟩;gi_at_call 234;refine(cy _ _).mono ?_;rintro e ap ⟨rfl,cu⟩;subst ap)
    have dd:wr.drew.cell? ⟨c,0,Q⟩=O (.slice (O ⟨w.heap.size,0,Q⟩) n n)/\wr.drew.cell? ⟨v.b,4,Q⟩=O (.int .i64 (d:Int))/\wr.drew.cell? ⟨w.heap.size,a,Q⟩=O (.int .i64 k):=⟨bo,cp,b7⟩;refine pE (S:=fun o=>o.cell? ⟨c,0,Q⟩=O (.slice (O ⟨w.heap.size,0,Q⟩) n n)/\o.cell? ⟨v.b,4,Q⟩=O (.int .i64 (d:Int))/\o.cell? ⟨w.heap.size,a,Q⟩=O (.int .i64 k)) (by kernel_rfl) (by kernel_rfl) (fun ⟨_,_,h⟩=>h) dd (fun hS=>?_);refine dg 0 (.slice (O ⟨w.heap.size,0,Q⟩) n n) rfl rfl (by kernel_rfl) (fun _ _ _=>id) hS (fun o ⟨z,A,B⟩=>by go_simp) ?_;simp only[U];refine dg 1 (.iface ea (.pointer (O ⟨v.b,0,Q⟩))) rfl rfl (by kernel_rfl) (fun _ _ _=>id) hS (fun o ⟨z,A,B⟩=>by go_simp) ?_;simp only[U];refine dg 6 (.slice (O ⟨w.heap.size,0,Q⟩) n n) rfl rfl (by kernel_rfl) (fun _ _ _=>id) hS (fun o ⟨z,A,B⟩=>by go_simp) ?_;simp only[U];refine dg 7 (.int .i64 (a:Int)) rfl rfl (by kernel_rfl) (fun _ _ _=>id) hS (fun o ⟨z,A,B⟩=>by go_simp) ?_;simp only[U];refine dg 8 (.pointer (O ⟨w.heap.size,a,Q⟩)) rfl rfl (by kernel_rfl) (fun _ _ _=>id) hS (fun o ⟨z,A,B⟩=>by go_simp) ?_;simp only[U];refine dg 9 (.int .i64 k) rfl rfl (by kernel_rfl) (fun _ _ _=>id) hS (fun o ⟨z,A,B⟩=>by go_simp) ?_;simp only[U];refine dg 10 (.int .i64 (k+1)) rfl rfl (by kernel_rfl) (fun _ _ _=>id) hS (fun o ⟨z,A,B⟩=>by go_simp) ?_;simp only[U];refine A5 (rs:=[2]) (by kernel_rfl) (by simp) (A2 rfl (fun bf af=>?_) A4);go_simp;refine cd (eK _ _) fun ap cu=>?_;subst ap;refine af.out _ _ hS (fun hS=>?_);clear af bf;try simp only[Act.put,bJ,bK,ci]
    refine dg 3 (.pointer (O ⟨v.b,0,Q⟩)) rfl rfl (by kernel_rfl) (fun _ _ _=>id) hS (fun o ⟨z,A,B⟩=>by go_simp) ?_;simp only[U];refine dg 4 (.pointer (O ⟨v.b,4,Q⟩)) rfl rfl (by kernel_rfl) (fun _ _ _=>id) hS (fun o ⟨z,A,B⟩=>by go_simp) ?_;simp only[U];refine dg 5 (.int .i64 (d:Int)) rfl rfl (by kernel_rfl) (fun _ _ _=>id) hS (fun o ⟨z,A,B⟩=>by go_simp) ?_;simp only[U];refine dg 11 (.pointer (O ⟨w.heap.size,d,Q⟩)) rfl rfl (by kernel_rfl) (fun _ _ _=>id) hS (fun o ⟨z,A,B⟩=>by go_simp) ?_;simp only[U];refine A5 (rs:=[12]) (by kernel_rfl) (by simp) (A2 rfl (fun bf af=>?_) A4);go_simp;refine af.out _ _ df (fun hS=>?_);clear af bf;refine wpAnyH_done (by kernel_rfl) ?_ _
    gi_wp2
    exact⟨⟨s+1,_,by omega,by go_num,c1⟩,by simp[intOf];omega⟩
   ·obtain rfl:s=ao:=by omega
    have bA:Hid (As w c (.slice (O ⟨f,0,Q⟩) n j) n y wr/\dpN t a y=Du t/\KeepsFrom (c+2) b wr):=by
     refine⟨l.out.st,?_,l.out.kf⟩;have r:=l.out.rest;rw[pt (by rw[i.out.2.2.1];exact ah _),GC]at r;rw[r];exact i.out.2.1
    clear l
    gi_wp2
    exact⟨bA.out.2.2,y,bA.out.1,bA.out.2.1⟩
 case seq=>
  intro a9 c3 c4 ca dn b dk;refine Gj 4 a9 (c+1) n j (O ⟨f,0,Q⟩) _ r dq c3 c4 (fun a b h=>?_) (fun a b h s a5=>?_) dn b dk
  ·obtain⟨D,m,_⟩:=ca a b h;exact ch m.bs
  ·obtain⟨D,m,_⟩:=ca a b h;obtain⟨x,p⟩:=bj q.out.2.2.1 a5;refine⟨_,rfl,?_⟩;rw[rf,p];exact cell_kept m.bl (q.out.1.at p)
 case ret=>intro b h;exact h.elim
 case done=>
  rintro b ⟨D,h,m⟩ b8;have b9:D=Du t:=m;refine cc _ _ ?_;have bo:=ch h.bx;have i:Hid (As w c (.slice (O ⟨f,0,Q⟩) n j) n D b/\b.heap[c+2]?=O (.deferred (O []))):=⟨h,by rw[<-L];exact b8⟩;have b4:ti (gK D) (n-0) 0 bn:=⟨by rw[b9];exact q.out.2.2.2.1⟩;have e0:w.heap.size<c+2:=by omega
  rw[L];clear h m b8 b9 cc;go_wp2_with fail;go_loop [43] (fun G=>∃g:Nat,g<=n/\G= .int .i64 g/\ti (gK D) (n-g) g bn) (fun G=>n-(intOf G).toNat)
  case atStart=>exact⟨0,be _,rfl,b4⟩
  case round=>
   obtain⟨g,e5,rfl,a0⟩:=hrel;clear b4;have u:=a0.out;by_cases d4:g<n
   ·have e6:(g:Int)<(n:Int):=by omega
    have e4:(0:Int)<=(g:Int):=by omega
    obtain⟨ar,E⟩:=bj i.out.1.ok.1 d4;have eq:b.cell? ⟨w.heap.size,g,Q⟩=O (.int .i64 ar):=by rw[i.out.1.row.cellAt g (by omega),cj,E];rfl
    rw[show n-g=(n-(g+1))+1 by omega,gA]at u;have bp:gK D g=decide (100<ar):=by unfold gK;rw[bm,E];rfl
    rw[bp]at u;by_cases cx:100<ar
    ·rw[ab (bG cx)]at u;have bd:=aq u.symm;clear u bp E a0;go_wp2_with fail;refine⟨by simp,.inl ⟨_,_,rfl,run_takeDeferred i.out.2,?_⟩⟩;refine⟨_,results_tmp2 rfl _ _ _,by rw[bd.out];rfl,?_⟩;exact i.out.1.bl.grown (Ax b (c+2) (.deferred Q)) i.out.1.bl.size (fun g e=>by cases e;omega)
    ·rw[aa (by simpa using cx)]at u;have c2:ti (gK D) (n-(g+1)) (g+1) bn:=⟨u⟩;clear u bp E a0;go_wp2_with fail;go_round
     case rel=>exact⟨g+1,by omega,by go_num,c2⟩
     case measure=>simp[intOf];omega
   ·obtain rfl:g=n:=by omega
    rw[gj,gA]at u;have bd:=aq u.symm;clear u a0;go_wp2_with fail;refine⟨by simp,.inl ⟨_,_,rfl,run_takeDeferred i.out.2,?_⟩⟩;refine⟨_,results_tmp2 rfl _ _ _,by rw[bd.out];rfl,?_⟩;exact i.out.1.bl.grown (Ax b (c+2) (.deferred Q)) i.out.1.bl.size (fun g e=>by cases e;omega)
attribute [local go_sem] Cn
def DJ(S:List Int)(n:Nat):Option Nat->X
 |some i=> A8 #[A9 .i64 (i:Int),A7 Br]
 |none=> A8 #[A9 .i64 ((n:Int)-1),A7 (decide (S.getD (n-1) 0<(n:Int)))]
structure xD (w:V) (B n:Nat) (S:List Int) (c:List Nat) (W:V):Prop where
 bl:Below w.heap.size w W
 r0:W.heap[w.heap.size]?=O (.cells #[.int .i64 0] 3 (0,0))
 r1:W.heap[w.heap.size+1]?=O (.cells #[.bool A1] 4 (0,0))
 row:W.ownsRow w.heap.size 3 1 (.slice (O ⟨w.heap.size+1+1,0,Q⟩) n n) n (S.map (A3 .i64)++A0 (n-S.length) (.int .i64 0))
 bx:W.heap[B]?=O (.cells #[.slice (O ⟨w.heap.size+1+1,0,Q⟩) n n] 33 (0,0))
 mks:pg (w.heap.size+1+1+1) c W
theorem xD.below{w:V}{d n:Nat}{S:List Int}{c:List Nat}{b e:V}(h:xD w d n S c b)(a:Below b.heap.size b e):xD w d n S c e:=
 ⟨h.bl.trans (a.mono h.bl.size),(a.block _ (ax h.r0)).trans h.r0,(a.block _ (ax h.r1)).trans h.r1,aG h.row a,(a.block _ (ax h.bx)).trans h.bx,h.mks.below a⟩
theorem xD.put{w:V}{a n:Nat}{S:List Int}{c:List Nat}{b:V}(h:xD w a n S c b)(j:w.heap.size+1<a){r:Loop}{k:Nat}(l:a<k)(f:b.heap[k]?=O (.loop r))(d:Obj):xD w a n S c (b.putObj k d):=
 ⟨h.bl.grown (Ax b k d) h.bl.size (fun m i=>by cases i;omega),(R (by omega)).trans h.r0,(R (by omega)).trans h.r1,ownsRow_putObj h.row d f rfl,(R (by omega)).trans h.bx,
  ⟨h.mks.nd,h.mks.lo,fun e g=>(R (by rintro rfl;have:=(h.mks.at_ e g).symm.trans f;cases this)).trans (h.mks.at_ e g)⟩⟩
structure DK (w:V) (B n:Nat) (S:List Int) (c:List Nat) (sz k:Nat) (kv:X) (a:Int) (W:V):Prop where
 oo:xD w B n S c W
 b5:W.heap[sz]?=O (.cells #[.int .i64 (k:Int)] 3 (0,0))
 b7:W.heap[sz+1]?=O (.cells #[.int .i64 (a-1)] 3 (0,0))
 b8:W.heap[sz+1+1]?=O (.cells #[kv] 57 (0,0))
theorem DK.put{w:V}{b n:Nat}{S:List Int}{c:List Nat}{d k:Nat}{f:X}{a:Int}{e:V}(h:DK w b n S c d k f a e)(i:w.heap.size+1<b)(o:b<d){r:Loop}{j:Nat}(m:d+1+1<j)(l:e.heap[j]?=O (.loop r))(g:Obj):DK w b n S c d k f a (e.putObj j g):=
 ⟨h.oo.put i (by omega) l g,(R (by omega)).trans h.b5,(R (by omega)).trans h.b7,(R (by omega)).trans h.b8⟩
theorem sB{c:Func}{p q:Tmp}{t u:TypeId}(h:c.results=#[.cell p t,.cell q u])(tmps:Array X)(P:Program)(w:V)(a b:Addr)(v d:X)(g:tmps.getD p M= Z (O a))(j:tmps.getD q M= Z (O b))
  (e:(loadVar t a).run P w= .ok v w) (f:(loadVar u b).run P w= .ok d w):(results c tmps).run P w= .ok (A8 #[v,d]) w:=by
 have i:tmps[p]?.getD M= Z (O a):=by simpa using g
 have k:tmps[q]?.getD M= Z (O b):=by simpa using j
 simp only[results,h];simp[Cp,Result.andThen,i,k,asAddr,e,f]
theorem Gl(w:V)(a:Addr)(z:Int)(h:w.cell? a=O (A9 .i64 z)):(loadVar 3 a).run Y w= .ok (A9 .i64 z) w:=by go_simp
theorem Ck(w:V)(a:Addr)(z:Bool)(h:w.cell? a=O (A7 z)):(loadVar 4 a).run Y w= .ok (A7 z) w:=by go_simp
theorem agH(a b:List Nd):∃t,gC (a++b)=gC a++t:=by
 refine yF (p:=fun b=>∃t,gC (a++b)=gC a++t) ⟨[],by simp⟩ (fun d e ⟨t,c⟩=>?_) b;rw[<-cI,pK,c];exact⟨t++[_],cI _ _ _⟩
theorem Gm{a:List Nd}{k:Nat}{N:Nd}(h:a[k]?=O N):gC (a.take (k+1))=gC (a.take k)++[pJ (gC (a.take k)) k N.ks]:=by
 have b:k<a.length:=(List.getElem?_eq_some_iff.1 h).1;rw[dG,h];show gC (a.take k++[N])=_;rw[pK,ii,eJ,tH (by omega)]
theorem ai9{a:List Nd}{k:Nat}{N:Nd}(h:a[k]?=O N):(gC a).getD k 0=pJ (gC (a.take k)) k N.ks:=by
 have d:k<a.length:=(List.getElem?_eq_some_iff.1 h).1;obtain⟨e,b⟩:=agH (a.take (k+1)) (a.drop (k+1));rw[py,Gm h]at b;have c:(gC (a.take k)).length=k:=by rw[ii,eJ,tH (by omega)]
 rw[b,bm,cI,gc (by omega),c];simp
def aeo(c:List Im)(ks:List Int)(m:Nat):X:=match ks[m]? with
 |some d=>(match c[d.toNat]? with|some a=> B0 (lG (fJ a.N.k)) (Z (O ⟨a.b,0,Q⟩))|none=> B1)
 |none=> B1
theorem Kf{a:List Im}{ks:List Int}{m q:Nat}{y:Im}(c:ks[m]?=O (q:Int))(d:a[q]?=O y):aeo a ks m= B0 (lG (fJ y.N.k)) (Z (O ⟨y.b,0,Q⟩)):=by
 unfold aeo;rw[c];simp[d]
structure aja (w:V) (c:List Nat) (k:Nat) (W:V):Prop where
 bl:Below w.heap.size w W
 r0:W.heap[w.heap.size]?=O (.cells #[.int .i64 (k:Int)] 3 (0,0))
 r1:W.heap[w.heap.size+1]?=O (.cells #[.bool Br] 4 (0,0))
 mks:pg (w.heap.size+1+1+1) c W
theorem Au(w:V)(base:Nat)(dp:X)(af:List Im)(a7:js w base dp af)(q:List Nd)(el:af.map Im.N=q)(n:Nat)(ca:af.length=n)(h6:1<=n)(z:n<=3000)(eg:∀x∈af,x.N.ks.length<=200):
  Calls Y 35 #[dp] w fun e p=>e= .returned (DJ (gC q) n (gA (fI (gC q)) n 0))/\Below w.heap.size w p:=by
 obtain⟨am,a0,rfl⟩:∃am k,dp= .slice (O ⟨am,0,Q⟩) n k:=by
  rcases bq a7.row with⟨h,_⟩|h
  ·omega
  ·rw[<-ca];exact h
 have h9:n<=a0:=by
  rcases a7.row.2 with⟨z,_⟩|⟨gb,fA,f2,z,_,_,gd,_⟩
  ·cases z
  ·cases z;omega
 obtain⟨he,cm,g9,ha,hc⟩:=dC rz;obtain⟨bb,cb⟩:=aA (gA (fI (gC q)) n 0);rw[cb];have i:=aey a7 el ca cb eg;clear a7 el ca cb eg;refine Co (n:=5).1 ?_;refine callsIn_of_wp_marks Tryz.func35 rfl trivial ?_ rfl;simp only[Tryz.ntmps35,ip,di,fs,Nat.reduceAdd,Nat.reduceSub,jt,ju,jw,xI,fd,fF];refine wpIn_wide.2 ?_;go_wp2_with (at_make;refine yw _ rfl _ _ 33 rfl w.heap.size 3 he (.int .i64 0) 1 Tryz.underlying33 cm g9 ha .i64 .i64 _ _ n rfl rfl rfl rfl (by rw[hc];omega) (by unfold maxLen;omega) (by simp;omega) ?_;intro ar bp a8);rename_i ho gm;have bd:Below ((w.alloc (.cells #[.int .i64 0] 3)).alloc (.cells #[.bool A1] 4)).heap.size ((w.alloc (.cells #[.int .i64 0] 3)).alloc (.cells #[.bool A1] 4)) ar:=⟨a8.os,a8.tape,a8.output,a8.size,fun a ef=>a8.block a ef (by simp)⟩;rw[show(madeCells (A3 .i64 0).cells (n*1)).toList=A0 n (A3 .i64 0) by rw[tw];exact yl _ n]at bp;simp only[ba]at bp bd;have g7:w.heap.size+1+1<ar.heap.size:=(bp.lt _ rfl).2;have b2:xD w ar.heap.size n [] [] (ar.alloc (.cells #[.slice (O ⟨w.heap.size+1+1,0,Q⟩) n n] 33)):=by
  refine⟨?_,?_,?_,?_,aw ar _,⟨List.nodup_nil,fun l hb=>by simp at hb,fun l hb=>by simp at hb⟩⟩
  ·exact((((aj _ w).alloc (ah _) _).alloc (by simp) _).trans (bd.mono (by omega))).alloc (by omega) _
  ·exact(dr _ _ _ (by omega)).trans ((bd.block _ (by omega)).trans ((dr _ _ _ (by simp)).trans (aw w _)))
  ·refine(dr _ _ _ (by omega)).trans ((bd.block _ (by omega)).trans ?_);have:=aw (w.alloc (.cells #[.int .i64 0] 3)) (.cells #[.bool A1] 4);rw[ba]at this;exact this
  ·exact bp.alloc _
 obtain⟨s,d2⟩:=aA ar.heap.size;have d3:s<(ar.alloc (.cells #[.slice (O ⟨w.heap.size+1+1,0,Q⟩) n n] 33)).heap.size:=by simp;omega
 rw[d2]at b2 g7⊢;generalize ar.alloc (.cells #[.slice (O ⟨w.heap.size+1+1,0,Q⟩) n n] 33)=fz at b2 d3⊢;clear bp a8 bd d2;have ds:Hid (xD w s n (gC (q.take 0)) [] fz/\gA (fI (gC q)) (n-0) 0=bb/\∀(I:Nat) r,(gC (q.take 0))[I]?=O r->1<=r):=⟨b2,i.out.2.2.2.1,fun I r h=>by simp[gC]at h⟩;clear b2;refine(Cs (n:=5)).1 (wpIn_loop (fun an d=>∃(a:Nat) (k:List Nat),a<=n/\s<d.heap.size/\Hid (xD w s n (gC (q.take a)) k d/\gA (fI (gC q)) (n-a) a=bb/\∀(I:Nat) r,(gC (q.take a))[I]?=O r->1<=r)/\
  ∃fe ff fg ex eF e0 e3 e4 e5 e6 e8 e9 fa fb fc c6 c8 c9 dd df dk dn:X,an={tmps:=#[.slice (O ⟨am,0,Q⟩) n a0,M,.pointer (O ⟨w.heap.size,0,Q⟩),.pointer (O ⟨w.heap.size+1,0,Q⟩),.pointer (O ⟨s,0,Q⟩),fe,ff,fg,M,M,M,.slice (O ⟨am,0,Q⟩) n a0,.int .i64 (n:Int),.slice (O ⟨w.heap.size+1+1,0,Q⟩) n n,.slice (O ⟨am,0,Q⟩) n a0,.int .i64 (n:Int),.int .i64 (a:Int),ex,eF,e0,e3,e4,e5,e6,e8,e9,fa,fb,fc,M,M,M,M,M,M,M,M,M,M,M,M,M,M,M,M,c6,c8,c9,dd,df,dk,dn,M,M,M,M,M,M,M,M,M,M,M],defers:=k.map Da}) (fun an _=>n-(intOf (an.tmps.getD 16 M)).toNat) ?start ?round)
 case start=>exact⟨0,[],be _,d3,ds,M,M,M,M,M,M,M,M,M,M,M,M,M,M,M,M,M,M,M,M,M,M,rfl⟩
 case round=>
  rintro an d ⟨a,k,ef,b9,m,fe,ff,fg,ex,eF,e0,e3,e4,e5,e6,e8,e9,fa,fb,fc,c6,c8,c9,dd,df,dk,dn,rfl⟩;clear ds;refine wpIn_wide.2 ?_;by_cases eh:a<n
  ·have ih:(a:Int)<(n:Int):=by omega
   have g0:(0:Int)<=(a:Int):=by omega
   obtain⟨x,a4⟩:=bj i.out.2.2.1 eh;have eb:=cell_kept m.out.1.bl (i.out.1.at a4);have cf:=cell_kept m.out.1.bl (i.out.1.box a x a4).cells.2.2.2.2.1;have H:=i.out.1.kid a x a4;obtain⟨y,E,b0⟩:=wl H;have g3:=i.out.2.2.2.2 x (bC a4);obtain⟨B,cn⟩:=aA x.N.ks.length;rw[b0]at cf;rw[cn]at cf g3 b0;have t:=gD a4 b0 cn;have bo:=fun w=>ma x.N.k x.b w;have g8:x.b<d.heap.size:=gh (ax (i.out.1.box a x a4)) m.out.1.bl.size;generalize lG (fJ x.N.k)=c4 at bo eb;clear a4 H b0 cn;go_wp2_with (first|(go_at_call 234;refine(eK _ _).mono ?_;rintro e bA ⟨rfl,eq⟩;subst bA)|(go_at_call 69;refine(ve y B E _).mono ?_;rintro e hn ⟨rfl,a3⟩;subst hn));rename_i hp d5;obtain⟨S,hS⟩:=aA (gC (q.take a));obtain⟨ak,cc⟩:=aA (zw S x.N.ks.reverse (a:Int));rw[hS]at m;obtain⟨g,bs⟩:=aA d.heap.size;have br:DK w s n S k g a (.slice y B E) (a:Int) (((d.alloc (.cells #[.int .i64 (a:Int)] 3)).alloc (.cells #[.int .i64 ((a:Int)-1)] 3)).alloc (.cells #[.slice y B E] 57)):=by
    refine⟨m.out.1.below ((((aj _ d).alloc (ah _) _).alloc (by simp) _).alloc (by simp;omega) _),?_,?_,?_⟩
    ·exact(dr _ _ _ (by simp;omega)).trans ((dr _ _ _ (by simp;omega)).trans (by rw[<-bs];exact aw d _))
    ·refine(dr _ _ _ (by simp;omega)).trans ?_;have:=aw (d.alloc (.cells #[.int .i64 (a:Int)] 3)) (.cells #[.int .i64 ((a:Int)-1)] 3);rw[ba,bs]at this;exact this
    ·have:=aw ((d.alloc (.cells #[.int .i64 (a:Int)] 3)).alloc (.cells #[.int .i64 ((a:Int)-1)] 3)) (.cells #[.slice y B E] 57);rw[ba,ba,bs]at this;exact this
   have a5:(((d.alloc (.cells #[.int .i64 (a:Int)] 3)).alloc (.cells #[.int .i64 ((a:Int)-1)] 3)).alloc (.cells #[.slice y B E] 57)).heap.size=g+1+1+1:=by simp;omega
   rw[bs]at b9 g8⊢;generalize ((d.alloc (.cells #[.int .i64 (a:Int)] 3)).alloc (.cells #[.int .i64 ((a:Int)-1)] 3)).alloc (.cells #[.slice y B E] 57)=hu at br a5⊢;have d9:∀l∈k,l<g:=fun l hb=>by rw[<-bs];exact(Array.getElem?_eq_some_iff.1 (m.out.1.mks.at_ l hb)).1
   have eo:q[a]?=O x.N:=by rw[<-i.out.2.1,cj,t.out.1];rfl
   have bf:(gC q).getD a 0=pJ S a x.N.ks:=by rw[ai9 eo,hS]
   clear eb cf bo;refine(Cs (n:=5)).1 ?_;refine BH (P:=Y) (gf:=133) (lb:=#[.pointer (O ⟨g+1+1,0,Q⟩)]) rfl (enters_of Tryz.func133 (by kernel_rfl) rfl)
    (fun c=>#[.int .i64 (c:Int),aeo af x.N.ks c]) (fun _=>rfl) B
    (fun c d=>∃b:Int,DK w s n S k g a (.slice y B E) b d/\0<=b/\b<=(a:Int)/\zw S (x.N.ks.take c).reverse b=ak)
    (fun c an d=>(∃b:Int,DK w s n S k g a (.slice y B E) b d/\0<=b/\b<=(a:Int)/\zw S (x.N.ks.take (c+1)).reverse b=ak)/\an={tmps:=#[.slice (O ⟨am,0,Q⟩) n a0,M,.pointer (O ⟨w.heap.size,0,Q⟩),.pointer (O ⟨w.heap.size+1,0,Q⟩),.pointer (O ⟨s,0,Q⟩),.pointer (O ⟨g,0,Q⟩),.iface c4 (.pointer (O ⟨x.b,0,Q⟩)),.pointer (O ⟨g+1,0,Q⟩),M,aeo af x.N.ks c,M,.slice (O ⟨am,0,Q⟩) n a0,.int .i64 (n:Int),.slice (O ⟨w.heap.size+1+1,0,Q⟩) n n,.slice (O ⟨am,0,Q⟩) n a0,.int .i64 (n:Int),.int .i64 (a:Int),.bool Br,.int .i64 (a:Int),.pointer (O ⟨am,a,Q⟩),.iface c4 (.pointer (O ⟨x.b,0,Q⟩)),.int .i64 (a:Int),.int .i64 ((a:Int)-1),.iface c4 (.pointer (O ⟨x.b,0,Q⟩)),.pointer (O ⟨x.b,0,Q⟩),.pointer (O ⟨x.b,0,Q⟩),.pointer (O ⟨x.b,5,Q⟩),.slice y B E,.func (.func 133) #[] #[.pointer (O ⟨g+1+1,0,Q⟩)],.int .i64 (c:Int),aeo af x.N.ks c,M,M,M,M,M,M,M,M,M,M,M,M,M,M,c6,c8,c9,dd,df,dk,dn,M,M,M,M,M,M,M,M,M,M,M],defers:=[]})
    (fun d=>aja w k a d/\ak=Q)
    ?pZ ?pAx ?pX ?h0 ?assign ?body ?seq ?done ?ret
   case pZ=>
    rintro c d et bw ⟨b,h,ad⟩ ao;rw[a5]at ao⊢;exact⟨b,h.put (by omega) b9 (by omega) ao bw,ad⟩
   case pAx=>
    rintro c an d et bw ⟨⟨b,h,ad⟩,rfl⟩ ao;rw[a5]at ao⊢;exact⟨⟨b,h.put (by omega) b9 (by omega) ao bw,ad⟩,rfl⟩
   case pX=>
    rintro d et bw ⟨h,cr⟩ ao;rw[a5]at ao⊢;exact⟨⟨h.bl.grown (Ax d _ bw) h.bl.size (fun I e=>by cases e;omega),(R (by omega)).trans h.r0,(R (by omega)).trans h.r1,
     ⟨h.mks.nd,h.mks.lo,fun l u=>(R (by rintro rfl;have:=(h.mks.at_ _ u).symm.trans ao;cases this)).trans (h.mks.at_ l u)⟩⟩,cr⟩
   case h0=>
    intro ht hb i3;refine⟨(a:Int),⟨br.oo.below hb,(hb.block _ (by omega)).trans br.b5,(hb.block _ (by omega)).trans br.b7,(hb.block _ (by omega)).trans br.b8⟩,g0,Int.le_refl _,?_⟩;rw[cw (by rw[t.out.2.2];exact ah _)];exact cc
   case assign=>
    rintro cu c d bE u ⟨b,h,ad⟩ a1;have fn:Hid (∃b:Int,DK w s n S k g a (.slice y B E) b d/\0<=b/\b<=(a:Int)/\zw S (x.N.ks.take (c+1)).reverse b=ak):=⟨b,h,ad⟩;clear h ad
    gi_wp2
    exact a1 _ _ ⟨fn.out,rfl⟩ (KeepsFrom.refl _ _)
   case seq=>
    intro cu fu fv d4 gt d gs;have g4:B<=E:=by
     have H:=i.out.1.kid a x t.out.1;rw[t.out.2.1,t.out.2.2]at H;rcases H.2 with⟨z,d1⟩|⟨gb,fA,f2,z,_,_,gd,_⟩
     ·omega
     ·cases z;omega
    refine Gj 4 cu (g+1+1) B E y _ (by omega) g4 fu fv (fun c d h=>?_) (fun c d h I a2=>?_) gt d gs
    ·obtain⟨b,ad,_⟩:=d4 c d h;exact ch ad.b8
    ·obtain⟨b,ad,_⟩:=d4 c d h;obtain⟨r,F⟩:=bj t.out.2.2 a2;obtain⟨gk,bf⟩:∃gk,y=O ⟨gk,0,Q⟩:=by
      have H:=i.out.1.kid a x t.out.1;rw[t.out.2.1]at H;rcases bq H with⟨h,_⟩|⟨gk,k,h⟩
      ·rw[t.out.2.2]at h;omega
      ·cases h;exact⟨_,rfl⟩
     obtain⟨f,C,rfl,ep,bt,bF⟩:=i.out.1.kidAt t.out.1 (by rw[t.out.2.1,bf]) F;refine⟨_,bf,?_⟩;rw[rf,Kf F bt];exact cell_kept ad.oo.bl bF
   case body=>
    rintro cu c an j u ⟨⟨b,h,gu,gv,A⟩,rfl⟩;rw[a5];obtain⟨r,F⟩:=bj t.out.2.2 u;obtain⟨gk,gz⟩:∃gk,y=O ⟨gk,0,Q⟩:=by
     have H:=i.out.1.kid a x t.out.1;rw[t.out.2.1]at H;rcases bq H with⟨h,_⟩|⟨gk,k,h⟩
     ·rw[t.out.2.2]at h;omega
     ·cases h;exact⟨_,rfl⟩
    obtain⟨f,C,rfl,ep,bt,bF⟩:=i.out.1.kidAt t.out.1 (by rw[t.out.2.1,gz]) F;rw[Kf F bt];have g5:=cell_kept h.oo.bl (i.out.1.box f C bt).cells.2.2.2.1;have i7:=ax (i.out.1.box f C bt);have G:S.length=a:=by rw[<-hS,ii,eJ,<-i.out.2.1,dv,i.out.2.2.1];omega
    obtain⟨v,a9⟩:=bj G ep;have i4:=m.out.2.2 f v a9;have i5:v<=(f:Int)+1:=by
     have g6:xo S:=by
      rw[<-hS];refine sL _ (fun N a7 r F=>?_);obtain⟨ct,cm,e⟩:=fH (tD a7);have bn:(af.map Im.N)[ct]?=O N:=by rw[i.out.2.1,aI cm,e]
      rw[cj]at bn;cases hLi:af[ct]? with
      |none=>rw[hLi]at bn;cases bn
      |some hh=>
       rw[hLi]at bn;obtain rfl:=db bn;exact(i.out.1.rng ct hh r hLi F).1
     exact(g6 f v a9).2
    have cl:S.getD f 0=v:=by rw[bm,a9];rfl
    have a3:(if(f:Int)=b-1/\v≠0 then zw S (x.N.ks.take c).reverse (b-v) else Q)=ak:=by
     rw[dG,F,CA,List.reverse_append]at A;show _=ak;rw[<-A];show _=zw S ((f:Int)::(x.N.ks.take c).reverse) b;rw[zw,rp,cl]
    have hE:=ch h.b5;have b6:=ch h.b7;have dz:=ch h.oo.bx;have ap:=h.oo.row;have fB:j.cell? ⟨w.heap.size+1+1,f,Q⟩=O (.int .i64 v):=by
     rw[ap.cellAt f (by omega),ie (by simp;omega),cj,a9];rfl
    have cy:=ch h.oo.r0;have c0:=ch h.oo.r1;have f6:j.frozen? ⟨w.heap.size,0,Q⟩=A1:=du _ _ _ _ _ h.oo.r0;have f8:j.frozen? ⟨w.heap.size+1,0,Q⟩=A1:=du _ _ _ _ _ h.oo.r1;have f9:j.frozen? ⟨g+1,0,Q⟩=A1:=du _ _ _ _ _ h.b7;have bo:=fun w=>ma C.N.k C.b w;have o:j.drew.cell? ⟨g+1,0,Q⟩=O (.int .i64 (b-1))/\j.drew.cell? ⟨C.b,4,Q⟩=O (.int .i64 (f:Int)):=⟨b6,g5⟩;have dq:=aq h;generalize lG (fJ C.N.k)=ev at bo⊢;by_cases b1:(f:Int)=b-1
    ·rw[ab ⟨b1,by omega⟩]at a3;have bD:=aq a3;clear a3 A F bF h a9 cl G ap;have f5:b=(f:Int)+1:=by omega
     subst f5;have d0:(f:Int)+1-1=(f:Int):=by omega
     rw[d0]at b6 o;clear b1 d0;have i2:(f:Int)<(n:Int):=by omega
     have i1:(0:Int)<=(f:Int):=by omega
     gi_wp2
     refine pE (S:=fun p=>p.cell? ⟨g+1,0,Q⟩=O (.int .i64 (f:Int))/\p.cell? ⟨C.b,4,Q⟩=O (.int .i64 (f:Int))) (by kernel_rfl) (by kernel_rfl) (fun ⟨_,_,h⟩=>h) o (fun o=>?_);refine dg 0 (.iface ev (.pointer (O ⟨C.b,0,Q⟩))) rfl rfl (by kernel_rfl) (fun _ _ _=>id) o (fun p ⟨J,K⟩=>by go_simp) ?_;simp only[U];refine dg 5 (.int .i64 (f:Int)) rfl rfl (by kernel_rfl) (fun _ _ _=>id) o (fun p ⟨J,K⟩=>by go_simp) ?_;simp only[U];refine A5 (rs:=[1]) (by kernel_rfl) (by simp) (A2 rfl (fun bE a1=>?_) A4);go_simp;refine cd (eK _ _) fun bA eq=>?_;subst bA;refine a1.out _ _ o (fun o=>?_);clear a1 bE;try simp only[Act.put,bJ,bK,ci]
     refine dg 2 (.pointer (O ⟨C.b,0,Q⟩)) rfl rfl (by kernel_rfl) (fun _ _ _=>id) o (fun p ⟨J,K⟩=>by go_simp) ?_;simp only[U];refine dg 3 (.pointer (O ⟨C.b,4,Q⟩)) rfl rfl (by kernel_rfl) (fun _ _ _=>id) o (fun p ⟨J,K⟩=>by go_simp) ?_;simp only[U];refine dg 4 (.int .i64 (f:Int)) rfl rfl (by kernel_rfl) (fun _ _ _=>id) o (fun p ⟨J,K⟩=>by go_simp) ?_;simp only[U];refine dg 6 (.bool A1) rfl rfl (by kernel_rfl) (fun _ _ _=>id) o (fun p ⟨J,K⟩=>by go_simp) ?_;simp only[U];refine wpAnyH_done (by kernel_rfl) ?_ _
     gi_wp2
     have h8:j.drew.cell? ⟨g+1,0,Q⟩=O (.int .i64 (f:Int))/\j.drew.cell? ⟨w.heap.size+1+1,f,Q⟩=O (.int .i64 v)/\j.drew.cell? ⟨s,0,Q⟩=O (.slice (O ⟨w.heap.size+1+1,0,Q⟩) n n)/\j.drew.frozen? ⟨g+1,0,Q⟩=A1:=⟨b6,fB,dz,f9⟩;have i6:IntKind.i64.wrap ((f:Int)-v)=(f:Int)-v:=by rw[cJ];omega
     have L:=dq.out;have io:g+1≠w.heap.size+1+1:=by omega
     have ec:DK w s n S k g a (.slice y B E) ((f:Int)+1-v) (j.setCell ⟨g+1,0,Q⟩ (.int .i64 ((f:Int)-v))).drew.drew:=by
      have f4:(f:Int)+1-v-1=(f:Int)-v:=by omega
      refine⟨⟨(L.oo.bl.setCell (by simp;omega) _).drew.drew,(bh _ _ _ _ (by simp;omega)).trans L.oo.r0,(bh _ _ _ _ (by simp;omega)).trans L.oo.r1,?_,(bh _ _ _ _ (by simp;omega)).trans L.oo.bx,(L.oo.mks.keeps (T _ _ _)).keeps ((KeepsOthers.drew _).trans (KeepsOthers.drew _))⟩,(bh _ _ _ _ (by simp)).trans L.b5,?_,(bh _ _ _ _ (by simp)).trans L.b8⟩
      ·exact(show(j.setCell ⟨g+1,0,Q⟩ (.int .i64 ((f:Int)-v))).ownsRow _ _ _ _ _ _ from L.oo.row.kept (grownBy_setCell' j (g+1) _) (.inr (by simp[Value.ownBlock];omega)))
      ·rw[f4];exact cD _ _ 0 _ _ _ L.b7
     have fr:Hid (abv (g+1+1+1) j (fun d=>∃b:Int,DK w s n S k g a (.slice y B E) b d/\0<=b/\b<=(a:Int)/\zw S (x.N.ks.take c).reverse b=ak) (fun d=>aja w k a d/\ak=Q) .normal {tmps:=#[],defers:=[]} (j.setCell ⟨g+1,0,Q⟩ (.int .i64 ((f:Int)-v))).drew.drew):=
      ⟨(((T _ _ _).trans (KeepsOthers.drew _)).trans (KeepsOthers.drew _)).from _,_,ec,by omega,by omega,bD.out⟩
     clear dq bD t i m bo o L ec
     gi_region
     all_goals exact fr.out
    ·rw[aa (fun e=>b1 e.1)]at a3;have bD:=aq a3;have d8:aja w k a ((j.drew.setCell ⟨w.heap.size,0,Q⟩ (.int .i64 (a:Int))).setCell ⟨w.heap.size+1,0,Q⟩ (.bool Br)):=
      ⟨((h.oo.bl.drew.setCell (by simp) _).setCell (by simp) _),(bh _ _ _ _ (by simp)).trans (cD _ _ 0 _ _ _ h.oo.r0),cD _ _ 0 _ _ _ ((bh _ _ _ _ (by simp)).trans h.oo.r1),
       ((h.oo.mks.keeps (KeepsOthers.drew j)).keeps (T _ _ _)).keeps (T _ _ _)⟩
     have fq:=aq d8;have hL:((f:Int)==b-1)=A1:=by rw[bg];exact b1
     clear a3 A F bF h a9 cl G ap d8
     gi_wp2
     refine pE (S:=fun p=>p.cell? ⟨g+1,0,Q⟩=O (.int .i64 (b-1))/\p.cell? ⟨C.b,4,Q⟩=O (.int .i64 (f:Int))) (by kernel_rfl) (by kernel_rfl) (fun ⟨_,_,h⟩=>h) o (fun o=>?_);refine dg 0 (.iface ev (.pointer (O ⟨C.b,0,Q⟩))) rfl rfl (by kernel_rfl) (fun _ _ _=>id) o (fun p ⟨J,K⟩=>by go_simp) ?_;simp only[U];refine dg 5 (.int .i64 (b-1)) rfl rfl (by kernel_rfl) (fun _ _ _=>id) o (fun p ⟨J,K⟩=>by go_simp) ?_;simp only[U];refine A5 (rs:=[1]) (by kernel_rfl) (by simp) (A2 rfl (fun bE a1=>?_) A4);go_simp;refine cd (eK _ _) fun bA eq=>?_;subst bA;refine a1.out _ _ o (fun o=>?_);clear a1 bE;try simp only[Act.put,bJ,bK,ci]
     refine dg 2 (.pointer (O ⟨C.b,0,Q⟩)) rfl rfl (by kernel_rfl) (fun _ _ _=>id) o (fun p ⟨J,K⟩=>by go_simp) ?_;simp only[U];refine dg 3 (.pointer (O ⟨C.b,4,Q⟩)) rfl rfl (by kernel_rfl) (fun _ _ _=>id) o (fun p ⟨J,K⟩=>by go_simp) ?_;simp only[U];refine dg 4 (.int .i64 (f:Int)) rfl rfl (by kernel_rfl) (fun _ _ _=>id) o (fun p ⟨J,K⟩=>by go_simp) ?_;simp only[U];refine dg 6 (.bool Br) rfl rfl (by kernel_rfl) (fun _ _ _=>id) o (fun p ⟨J,K⟩=>by go_simp) ?_;simp only[U];refine wpAnyH_done (by kernel_rfl) ?_ _
     gi_wp2
     exact⟨(((KeepsOthers.drew j).from _).trans ((T _ _ _).from _)).trans ((T _ _ _).from _),fq.out,bD.out.symm⟩
   case ret=>
    rintro j ⟨h,cr⟩ a6;rw[a5]at a6⊢;have gr:bb=O a:=by
     have z:=m.out.2.1;rw[show n-a=(n-(a+1))+1 by omega,gA,ab]at z
     ·exact z.symm
     ·unfold fI;rw[bf];unfold pJ;rw[cc,cr];rfl
    show LeavesInM _ _ _ _ _ _ (((g+1+1+1)::k).map Da) .returning j;refine pF (w.heap.size+1+1+1) _ j ⟨List.nodup_cons.2 ⟨fun u=>by have:=d9 _ u;omega,h.mks.nd⟩,fun l hb=>?_,fun l hb=>?_⟩ (fun b4 A=>?_)
    ·rcases List.mem_cons.1 hb with rfl|hb
     ·omega
     ·exact h.mks.lo l hb
    ·rcases List.mem_cons.1 hb with rfl|hb
     ·exact a6
     ·exact h.mks.at_ l hb
    ·have co:∀l∈(g+1+1+1)::k,w.heap.size+1+1+1<=l:=fun l hb=>by
      rcases List.mem_cons.1 hb with rfl|hb
      ·omega
      ·exact h.mks.lo l hb
     have cy:=(A.same w.heap.size (fun u=>by have:=co _ u;omega)).trans h.r0;have c0:=(A.same (w.heap.size+1) (fun u=>by have:=co _ u;omega)).trans h.r1;refine⟨_,sB rfl _ _ _ ⟨w.heap.size,0,Q⟩ ⟨w.heap.size+1,0,Q⟩ _ _ rfl rfl (Gl _ _ _ (ch cy)) (Ck _ _ _ (ch c0)),?_,A.below h.bl (fun l hb=>by have:=co l hb;omega) (ah _)⟩;rw[gr];rfl
   case done=>
    rintro j ⟨b,h,gu,gv,A⟩ a6;rw[a5]at a6⊢;have d6:ak=O b:=by rw[<-A];rfl
    have cs:pJ S a x.N.ks=(a:Int)-(b-1):=by unfold pJ;rw[cc,d6];show(a:Int)-b+1=_;omega
    have G:S.length=a:=by rw[<-hS,ii,eJ,<-i.out.2.1,dv,i.out.2.2.1];omega
    have ap:=h.oo.row;have hG:j.cell? ⟨w.heap.size+1+1,a,Q⟩=O (.int .i64 0):=by
     rw[ap.cellAt a (by omega),gc (by simp;omega),dv,G,gj,Cv,ab (by omega)]
    have h5:=ap.frozenAt a;have cx:=(ap.stored a (.int .i64 ((a:Int)-(b-1)))).1;rw[G,B9 S n a ((a:Int)-(b-1)) G eh]at cx;have ce:gC (q.take (a+1))=S++[(a:Int)-(b-1)]:=by rw[Gm eo,hS,cs]
    have ei:pg (w.heap.size+1+1+1) ((g+1+1+1)::k) j:=⟨List.nodup_cons.2 ⟨fun u=>by have:=d9 _ u;omega,h.oo.mks.nd⟩,fun l hb=>by
      rcases List.mem_cons.1 hb with rfl|hb
      ·omega
      ·exact h.oo.mks.lo l hb,fun l hb=>by
      rcases List.mem_cons.1 hb with rfl|hb
      ·exact a6
      ·exact h.oo.mks.at_ l hb⟩
    have cp:xD w s n (S++[(a:Int)-(b-1)]) ((g+1+1+1)::k) (j.setCell ⟨w.heap.size+1+1,a,Q⟩ (.int .i64 ((a:Int)-(b-1)))):=
     ⟨h.oo.bl.setCell (by simp;omega) _,(bh _ _ _ _ (by simp;omega)).trans h.oo.r0,(bh _ _ _ _ (by simp)).trans h.oo.r1,by rw[aC,G];exact cx,(bh _ _ _ _ (by simp;omega)).trans h.oo.bx,ei.keeps (T _ _ _)⟩
    have fo:Hid (xD w s n (gC (q.take (a+1))) ((g+1+1+1)::k) (j.setCell ⟨w.heap.size+1+1,a,Q⟩ (.int .i64 ((a:Int)-(b-1))))/\gA (fI (gC q)) (n-(a+1)) (a+1)=bb/\∀(I:Nat) r,(gC (q.take (a+1)))[I]?=O r->1<=r):=by
     refine⟨by rw[ce];exact cp,?_,fun I r a2=>?_⟩
     ·have z:=m.out.2.1;rw[show n-a=(n-(a+1))+1 by omega,gA,aa]at z
      ·exact z
      ·unfold fI;rw[bf,cs];simp;omega
     ·rw[ce]at a2;rcases cA I a with g1|g1
      ·rw[ie (by omega)]at a2;exact m.out.2.2 I r a2
      ·rw[gc (by omega)]at a2;obtain⟨z,d1⟩:=List.getElem?_eq_some_iff.1 a2;simp at z d1;omega
    have hv:=ch h.oo.bx;have hA:=ch h.b5;have hC:=ch h.b7;have ge:s<(j.setCell ⟨w.heap.size+1+1,a,Q⟩ (.int .i64 ((a:Int)-(b-1)))).heap.size:=ax cp.bx;have h7:((a:Int)-(b-1))<=3001/\1<=((a:Int)-(b-1)):=by omega
    refine d5 _ _ ?_;clear d6 cs G ap cx ce ei cp h A a6 d5 gm m;go_wp2_with fail;exact⟨⟨a+1,(g+1+1+1)::k,by omega,ge,fo,_,_,_,_,_,_,_,_,_,_,_,_,_,_,_,_,_,_,_,_,_,_,rfl⟩,by simp[intOf];omega⟩
  ·obtain rfl:a=n:=by omega
   have iv:¬(a:Int)<(a:Int):=by omega
   obtain⟨c,rfl⟩:∃c,a=c+1:=⟨a-1,by omega⟩;have hS:gC (q.take (c+1))=gC q:=by rw[cw (by rw[<-i.out.2.1,dv,i.out.2.2.1];exact ah _)]
   rw[hS]at m;have G:(gC q).length=c+1:=by rw[ii,<-i.out.2.1,dv,i.out.2.2.1]
   obtain⟨r,F⟩:=bj G (show c<c+1 by omega);have d7:bb=Q:=by have:=m.out.2.1;rw[gj,gA]at this;exact this.symm
   have es:(gC q).getD c 0=r:=by rw[bm,F];rfl
   have b3:=gD m.out.1 d7 es;have hH:d.cell? ⟨w.heap.size+1+1,c,Q⟩=O (.int .i64 r):=by
    rw[m.out.1.row.cellAt c (by omega),ie (by simp;omega),cj,F];rfl
   have dz:=ch m.out.1.bx;have cy:=ch m.out.1.r0;have c0:=ch m.out.1.r1;have f6:d.frozen? ⟨w.heap.size,0,Q⟩=A1:=du _ _ _ _ _ m.out.1.r0;have f8:d.frozen? ⟨w.heap.size+1,0,Q⟩=A1:=du _ _ _ _ _ m.out.1.r1;have h3:(c:Int)+1-1=(c:Int):=by omega
   have i8:(0:Int)<=(c:Int):=by omega
   have i9:(c:Int)<(c:Int)+1:=by omega
   clear F es d7 hS m i;go_wp2_with fail;have ji:w.heap.size≠s:=by omega
   have jv:w.heap.size+1≠s:=by omega
   have j0:w.heap.size≠w.heap.size+1+1:=by omega
   have j1:w.heap.size+1≠w.heap.size+1+1:=by omega
   go_region_held3 (fun p=>p.cell? ⟨s,0,Q⟩=O (.slice (O ⟨w.heap.size+1+1,0,Q⟩) (c+1) (c+1))/\p.cell? ⟨w.heap.size+1+1,c,Q⟩=O (.int .i64 r)) (go_keep) (fail)
   all_goals go_wp2_with fail
   have h:=b3.out.1;show LeavesInM _ _ _ _ _ _ (k.map Da) .returning _;refine pF (w.heap.size+1+1+1) k _ (((h.mks.keeps (T _ _ _)).keeps (T _ _ _)).keeps (KeepsOthers.drew _)) (fun b4 A=>?_);have hf:b4.heap[w.heap.size]?=O (.cells #[.int .i64 (c:Int)] 3 (0,0)):=(A.same _ (fun u=>by have:=h.mks.lo _ u;omega)).trans ((bh _ _ _ _ (by simp)).trans (cD _ _ 0 _ _ _ h.r0));have hg:b4.heap[w.heap.size+1]?=O (.cells #[.bool (decide (r<(c:Int)+1))] 4 (0,0)):=(A.same _ (fun u=>by have:=h.mks.lo _ u;omega)).trans (cD _ _ 0 _ _ _ ((bh _ _ _ _ (by simp)).trans h.r1));refine⟨_,sB rfl _ _ _ ⟨w.heap.size,0,Q⟩ ⟨w.heap.size+1,0,Q⟩ _ _ rfl rfl (Gl _ _ _ (ch hf)) (Ck _ _ _ (ch hg)),?_,A.below (((h.bl.setCell (by simp) _).setCell (by simp) _).drew) (fun l hb=>by have:=h.mks.lo l hb;omega) (ah _)⟩;have f3:((c+1:Nat):Int)=(c:Int)+1:=by omega
   rw[b3.out.2.1];simp only[DJ,mh,b3.out.2.2,f3,Int.add_sub_cancel]
