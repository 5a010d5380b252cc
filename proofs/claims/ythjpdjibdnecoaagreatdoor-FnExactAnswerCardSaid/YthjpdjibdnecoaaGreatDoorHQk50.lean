import Derived.Test.YthjpdjibdnecoaaGreatDoorHQk39
import Derived.Test.YthjpdjibdnecoaaGreatDoorHQk48
import Derived.Test.YthjpdjibdnecoaaGreatDoorHQk29
set_option linter.all false
set_option maxRecDepth 100000
set_option maxHeartbeats 12800000
open Go renaming undef->M,World->V,Value->X,grownBy_putObj'->Ax,wpAnyH_ready->A5
open Option renaming some->O,none->Q
open Go.World renaming putObj_heap_other->R
open Go.KeepsOthers renaming setCell->T
open List renaming set->U,replicate->A0
open Go.Proofs.Tryz renaming prog->Y
open Go.Value renaming pointer->Z,int->A3,slice->A6,bool->A7,tuple->A8,int->A9,iface->B0,nilIface->B1
open Bool renaming false->A1,true->Bs
open Go.AllReadyH renaming cons->A2,nil->A4
namespace Go.Proofs.YthjpdjibdnecoaaGreatDoor
open Go.RowKit
theorem I7(n l o b cap:Nat)(a:Option Addr)(f:Nat->X)(K:b<=3000)(I:b<=cap)(c:Nat->V->Prop)(p:V->Prop)
  (r:∀m W,c m W->W.cell? ⟨o,0,Q⟩=O (A6 a b cap))
  (z:∀m W,c m W->∀j,j<b->∃i,a=O i/\W.cell? (i.add j)=O (f j))
  (y:∀m W,m<b->c (m+1) W->YieldAt Fence.wide (n-1) Y l #[A9 .i64 (m:Int),f m] W fun e g=>(e= .returned (A7 Bs)/\c m g)\/(e= .returned (A7 A1)/\p g))
  (W:V) (q:c b W):
  CallsIn Fence.wide n Y 194 #[.func (.yield l) #[] #[],Z (O ⟨o,0,Q⟩)] W fun e g=>(∃v,e= .returned v)/\(c 0 g\/p g):=by
 have G:=r _ _ q;refine callsIn_of_wp Tryz.func194 rfl trivial ?_ rfl;simp only[Tryz.ntmps194,gi,bv,dd,Nat.reduceAdd,Nat.reduceSub,gh,gC,gD,na,de,ej]
 gi_wp2
 gi_loopw [3] (fun k wr=>∃d:Nat,d<=b/\k= A9 .i64 ((d:Int)-1)/\c d wr) (fun k _=>(intOf k+1).toNat)
 case atStart=>exact⟨b,ae _,rfl,q⟩
 case round=>
  obtain⟨d,J,rfl,h⟩:=hrel;have F:=r _ _ h;rcases El d with rfl|hp
  ·gi_wp2
   go_end0
   exact⟨⟨_,rfl⟩,.inl h⟩
  ·obtain⟨m,rfl⟩:∃m,d=m+1:=⟨d-1,by omega⟩;obtain⟨i,rfl,H⟩:=z _ _ h m (by omega);obtain⟨E,tmps,B,C,L,x⟩:=y m wr (by omega) h;have s:((m+1:Nat):Int)-1=(m:Int):=by omega
   rw[s];have ad:(m:Int)<(b:Int):=by omega
   have af:(0:Int)<=(m:Int):=by omega
   gi_wp2
   refine⟨fun t=>by simp[Fence.wide]at t,x.mono ?_⟩;rintro e A (⟨rfl,u⟩|⟨rfl,w⟩)
   ·gi_wp2
    go_roundw
    case rel=>exact⟨m,by omega,by simp,u⟩
    case measure=>simp[intOf]
   ·gi_wp2
    refine ba (jg rfl _ _ _) rfl ?_;exact⟨⟨_,rfl⟩,.inr w⟩
theorem yi(a:Option Addr)(b cap:Nat)(w:V):
  Calls Y 141 #[A6 a b cap] w fun e c=>e= .returned (.func (.func 194) #[] #[Z (O ⟨w.heap.size,0,Q⟩)])/\c=w.alloc (.cells #[A6 a b cap] 155):=by
 refine calls_of_wp Tryz.func141 rfl ?_;simp only[Tryz.ntmps141,gi,bv,dd,Nat.reduceAdd,Nat.reduceSub,gh,gC,gD,na,de,ej];go_wp2;go_ret;exact⟨rfl,rfl⟩
attribute [local go_sem] kF
def aa0:Option Nat->X
 |some i=> A8 #[A9 .i64 (i:Int),A7 Bs]
 |none=> A8 #[A9 .i64 0,A7 A1]
structure CE (w:V) (B:Nat) (vs:X) (n:Nat) (D:List Int) (W:V):Prop where
 bl:Below w.heap.size w W
 row:W.ownsRow w.heap.size 3 1 (.slice (O ⟨w.heap.size,0,Q⟩) n n) n (D.map (A3 .i64))
 bx:W.heap[B]?=O (.cells #[.slice (O ⟨w.heap.size,0,Q⟩) n n] 51 (0,0))
 bs:W.heap[B+1]?=O (.cells #[vs] 155 (0,0))
 ok:ab1 n D
theorem CE.put{w:V}{B:Nat}{a:X}{n:Nat}{D:List Int}{W:V}(h:CE w B a n D W)(d:w.heap.size<B){r:Loop}{k:Nat}(e:B+1<k)(c:W.heap[k]?=O (.loop r))(o:Obj):CE w B a n D (W.putObj k o):=
 ⟨h.bl.grown (Ax W k o) h.bl.size (fun f b=>by cases b;omega),ownsRow_putObj h.row o c rfl,(R (by omega)).trans h.bx,(R (by omega)).trans h.bs,h.ok⟩
structure akk (w:V) (B:Nat) (vs:X) (n t:Nat) (ks D:List Int) (j:Nat) (E:List Int) (W0 W:V):Prop where
 st:CE w B vs n E W
 rest:Jl t (ks.drop j) E=Jl t ks D
 kf:KeepsFrom (B+2) W0 W
theorem ze{W:V}{base e size n:Nat}{v:X}{c:List X}(h:W.ownsRow base e size v n c):∃a cap,v= A6 a n cap:=by
 rcases h.2 with⟨rfl,b⟩|⟨f,cap,d,rfl,_⟩
 ·exact⟨Q,0,by rw[b]⟩
 ·exact⟨_,_,rfl⟩
theorem I8{W:V}{base e size n m c:Nat}{a:Option Addr}{b:List X}(h:W.ownsRow base e size (A6 a n c) m b):n=m:=by
 obtain⟨d,f,e⟩:=ze h;cases e;rfl
theorem lp.at{W:V}{base g n c:Nat}{a:List Im}(h:lp W base (A6 (O ⟨g,0,Q⟩) n c) a){i:Nat}{x:Im}(d:a[i]?=O x):W.cell? ⟨g,i,Q⟩=O (B0 (nH (dF x.N.k)) (Z (O ⟨x.b,0,Q⟩))):=by
 have f:i<a.length:=(List.getElem?_eq_some_iff.1 d).1;have e:=I8 h.row;subst e;rw[h.row.cellAt i (by omega),cA,d];rfl
theorem lp.kidAt{W:V}{base:Nat}{r:X}{a:List Im}(h:lp W base r a){i:Nat}{x:Im}(e:a[i]?=O x){g n c:Nat}(p:x.kv= A6 (O ⟨g,0,Q⟩) n c){j:Nat}{z:Int}(f:x.N.ks[j]?=O z):
  ∃q l,z=((q:Nat):Int)/\q<i/\a[q]?=O l/\W.cell? ⟨g,j,Q⟩=O (B0 (nH (dF l.N.k)) (Z (O ⟨l.b,0,Q⟩))):=by
 obtain⟨z0,u⟩:=h.rng i x z e (cJ f);obtain⟨q,rfl⟩:=tF z0;have s:i<a.length:=(List.getElem?_eq_some_iff.1 e).1;have t:j<x.N.ks.length:=(List.getElem?_eq_some_iff.1 f).1;have m:q<i:=by omega
 refine⟨q,a[q]'(by omega),rfl,m,bJ _,?_⟩;have d:=h.kid i x e;rw[p]at d;have o:=I8 d;subst o;rw[d.cellAt j (by omega)];unfold pd;rw[cA,f];simp only[xc,tJ];rw[kE,ab m,bJ (by omega)];rfl
theorem Dk(w:V)(base:Nat)(b2:X)(G:List Im)(a0:lp w base b2 G)(ns:List Nd)(cl:G.map Im.N=ns)(n:Nat)(bn:G.length=n)(eq:1<=n)(r:n<=3000)(ck:∀x∈G,x.N.ks.length<=200):
  Calls Y 80 #[b2] w fun e o=>e= .returned (aa0 (io (ij (FI ns)) n 0))/\Below w.heap.size w o:=by
 obtain⟨f,j,rfl⟩:∃f b5,b2= .slice (O ⟨f,0,Q⟩) n b5:=by
  rcases bp a0.row with⟨h,_⟩|h
  ·omega
  ·rw[<-bn];exact h
 have dn:n<=j:=by
  rcases a0.row.2 with⟨r,_⟩|⟨ep,eh,ek,r,_,_,er,_⟩
  ·cases r
  ·cases r;omega
 obtain⟨d8,dz,d5,d6,d7⟩:=dt rl;obtain⟨bd,bo⟩:=ay (io (ij (FI ns)) n 0);rw[bo];have q:=Jm a0 cl bn bo ck;clear a0 cl bn bo ck;refine kH (n:=5).1 ?_;refine callsIn_of_wp_marks Tryz.func80 rfl trivial ?_ rfl;simp only[Tryz.ntmps80,gi,bv,dd,Nat.reduceAdd,Nat.reduceSub,gh,gC,gD,na,de,ej];refine wpIn_wide.2 ?_;go_wp2_with (first|(at_make;refine Az _ rfl _ _ 51 rfl w.heap.size 3 d8 (.int .i64 0) 1 Tryz.underlying51 dz d5 d6 .i64 .i64 _ _ n rfl rfl rfl rfl (by rw[d7];omega) (by unfold maxLen;omega) (ae _) ?_;intro E a6 I)|(go_at_call 141;refine(yi (O ⟨f,0,Q⟩) n j _).mono ?_;rintro e fd ⟨rfl,rfl⟩));rename_i ed ca;have ce:Below w.heap.size w E:=⟨I.os,I.tape,I.output,I.size,fun g d1=>I.block g d1 (by simp)⟩;rw[show(madeCells (A3 .i64 0).cells (n*1)).toList=A0 n (A3 .i64 0) by rw[rj];exact Aq _ n]at a6;have bD:w.heap.size<E.heap.size:=(a6.lt w.heap.size rfl).2;obtain⟨c,ar⟩:=ay E.heap.size;have J:CE w c (.slice (O ⟨f,0,Q⟩) n j) n (A0 n 0) ((E.alloc (.cells #[.slice (O ⟨w.heap.size,0,Q⟩) n n] 51)).alloc (.cells #[.slice (O ⟨f,0,Q⟩) n j] 155)):=by
  refine⟨(ce.alloc (by omega) _).alloc (by simp;omega) _,?_,?_,?_,?_⟩
  ·rw[List.map_replicate];exact(a6.alloc _).alloc _
  ·exact(bm _ _ _ (by simp;omega)).trans (by rw[<-ar];exact aj E _)
  ·have:=aj (E.alloc (.cells #[.slice (O ⟨w.heap.size,0,Q⟩) n n] 51)) (.cells #[.slice (O ⟨f,0,Q⟩) n j] 155);rw[aF,ar]at this;exact this
  ·refine⟨by simp,fun s ao a3=>?_⟩;obtain⟨r,c6⟩:=List.getElem?_eq_some_iff.1 a3;simp at r c6;omega
 have K:((E.alloc (.cells #[.slice (O ⟨w.heap.size,0,Q⟩) n n] 51)).alloc (.cells #[.slice (O ⟨f,0,Q⟩) n j] 155)).heap.size=c+2:=by simp;omega
 rw[ar]at bD⊢;generalize (E.alloc (.cells #[.slice (O ⟨w.heap.size,0,Q⟩) n n] 51)).alloc (.cells #[.slice (O ⟨f,0,Q⟩) n j] 155)=eg at J K⊢;clear a6 I ce ar;refine(py (n:=5)).1 ?_;refine uk (P:=Y) (gf:=194) (lb:=#[.pointer (O ⟨c+1,0,Q⟩)]) rfl (enters_of Tryz.func194 (by kernel_rfl) rfl)
  (fun a=>#[.int .i64 (a:Int),match G[a]? with|some x=> .iface (nH (dF x.N.k)) (.pointer (O ⟨x.b,0,Q⟩))|none=> .nilIface]) (fun _=>rfl) n
  (fun a b=>∃D,CE w c (.slice (O ⟨f,0,Q⟩) n j) n D b/\dpN ns a D=FI ns)
  (fun a L b=>(∃D,CE w c (.slice (O ⟨f,0,Q⟩) n j) n D b/\dpN ns (a+1) D=FI ns)/\∃x,G[a]?=O x/\
   L={tmps:=#[.slice (O ⟨f,0,Q⟩) n j,M,.int .i64 0,.bool A1,.pointer (O ⟨c,0,Q⟩),.int .i64 (a:Int),.iface (nH (dF x.N.k)) (.pointer (O ⟨x.b,0,Q⟩)),M,M,M,M,
    .slice (O ⟨f,0,Q⟩) n j,.int .i64 (n:Int),.slice (O ⟨w.heap.size,0,Q⟩) n n,.slice (O ⟨f,0,Q⟩) n j,.func (.func 194) #[] #[.pointer (O ⟨c+1,0,Q⟩)],.int .i64 (a:Int),.iface (nH (dF x.N.k)) (.pointer (O ⟨x.b,0,Q⟩)),
    M,M,M,M,M,M,M,M,M,M,M,M,M,M,M,M,M,M,M,M,M,M,M,M,M,M,M,M,M,M,M,M,M,M],defers:=[]})
  (fun _=>False)
  ?pZ ?pAx ?pX ?h0 ?assign ?body ?seq ?done ?ret
 case pZ=>
  rintro a b cy a8 ⟨D,h,m⟩ ak;rw[K]at ak⊢;exact⟨D,h.put bD (by omega) ak a8,m⟩
 case pAx=>
  rintro a L b cy a8 ⟨⟨D,h,m⟩,x,p,rfl⟩ ak;rw[K]at ak⊢;exact⟨⟨D,h.put bD (by omega) ak a8,m⟩,x,p,rfl⟩
 case pX=>intro b cy a8 h;exact h.elim
 case h0=>
  intro c2 a1 e9;have dk:Below w.heap.size w c2:=J.bl.trans (a1.mono (by omega));exact⟨A0 n 0,⟨dk,aE J.row a1,(a1.block _ (by omega)).trans J.bx,(a1.block _ (by omega)).trans J.bs,J.ok⟩,by rw[FI,<-q.out.2.1,dc,q.out.2.2.1]⟩
 case assign=>
  rintro a7 a b ef a4 ⟨D,h,m⟩ cc;obtain⟨x,p⟩:=bL q.out.2.2.1 a4;rw[p]at⊢;have ec:=fun L=>cc L b;have i:=iD h m p;clear h m p
  gi_wp2
  exact cc _ _ ⟨⟨D,i.out.1,i.out.2.1⟩,x,i.out.2.2,rfl⟩ (KeepsFrom.refl _ _)
 case body=>
  rintro a7 a L b a4 ⟨⟨D,h,m⟩,x,p,rfl⟩;rw[K];have br:=ai h.bl (q.out.1.box a x p).cells.2.2.2.2.1;have af:=q.out.1.kid a x p;obtain⟨c3,el,B⟩:=ze af;rw[B]at br;have d2:=q.out.2.2.2.2 x (cJ p);obtain⟨am,bA⟩:=ay x.N.ks.length;rw[bA]at br d2 B;have cn:ns[a]?=O x.N:=by rw[<-q.out.2.1,cA,p];rfl
  have cf:dpN ns a (Jl a x.N.ks D)=FI ns:=by
   rw[dpN,cp,cn,ig]at m;exact m
  have i:=Gu p cf bA B;have b4:Hid (akk w c (.slice (O ⟨f,0,Q⟩) n j) n a x.N.ks D 0 D b b):=⟨h,rfl,KeepsFrom.refl _ _⟩;have a5:=fun w=>qH x.N.k x.b w;have e5:(a:Int)<(n:Int):=by omega
  have e4:(0:Int)<=(a:Int):=by omega
  have cx:=fun (c4:Nat) w=>CallsIn.inRound a7 (kH (n:=2).2 (eA c4 w));generalize nH (dF x.N.k)=fc at a5⊢;clear p m cf af cn bA B h
  gi_wp2_with (refine⟨trivial,?_⟩;gi_at_call 301;refine(cx _ _).mono ?_;rintro e an ⟨rfl,cs⟩;subst an)
  gi_loopw [24] (fun F ea=>∃(s:Nat) (v:List Int),s<=am/\F= .int .i64 s/\Hid (akk w c (.slice (O ⟨f,0,Q⟩) n j) n a x.N.ks D s v b ea)) (fun F _=>am-(intOf F).toNat)
  case atStart=>exact⟨0,D,aL _,rfl,b4⟩
  case round=>
   obtain⟨s,v,a3,rfl,l⟩:=hrel;clear b4 br a5;by_cases d0:s<am
   ·have e0:(s:Int)<(am:Int):=by omega
    have ex:(0:Int)<=(s:Int):=by omega
    obtain⟨ao,C⟩:=bL i.out.2.2.1 d0;have B:=i.out.2.2.2;obtain⟨gk,ds⟩:∃gk,c3=O ⟨gk,0,Q⟩:=by
     have af:=q.out.1.kid a x i.out.1;rw[B]at af;rcases bp af with⟨h,_⟩|⟨gk,b5,h⟩
     ·rw[i.out.2.2.1]at h;omega
     ·cases h;exact⟨_,rfl⟩
    subst ds;obtain⟨d,u,rfl,d4,bE,dq⟩:=(q.out.1.below (l.out.st.bl)).kidAt i.out.1 B C;have cm:=ai l.out.st.bl (q.out.1.box d u bE).cells.2.2.2.1;obtain⟨k,a2⟩:=bL l.out.st.ok.1 a4;obtain⟨c5,cg⟩:=bL l.out.st.ok.1 (show d<n by omega);have ev:=l.out.st.ok.2 a k a2;have H:CE w c (.slice (O ⟨f,0,Q⟩) n j) n v wr.drew:=⟨l.out.st.bl.drew,l.out.st.row,l.out.st.bx,l.out.st.bs,l.out.st.ok⟩;have al:=H.row;have b6:wr.drew.cell? ⟨w.heap.size,a,Q⟩=O (.int .i64 k):=by rw[al.cellAt a (by omega),cA,a2];rfl
    have ei:wr.drew.cell? ⟨w.heap.size,d,Q⟩=O (.int .i64 c5):=by rw[al.cellAt d (by omega),cA,cg];rfl
    have en:=al.frozenAt d;have bw:v.getD a 0=k:=by rw[cp,a2];rfl
    have b0:=(al.stored d (.int .i64 (k+1))).1;rw[<-List.map_set]at b0;have b1:=l.out.st.ok.set a d a4 d4;rw[bw]at b1;have cr:Jl a (x.N.ks.drop (s+1)) (v.set d (k+1))=Jl a x.N.ks D:=by
     have r:=l.out.rest;have ch:=(List.getElem?_eq_some_iff.1 C);rw[je ch.1,ch.2,Jl,bw]at r;exact r
    have bh:wr.drew.cell? ⟨c,0,Q⟩=_:=cG H.bx;have cB:CE w c (.slice (O ⟨f,0,Q⟩) n j) n (v.set d (k+1)) (wr.drew.setCell ⟨w.heap.size,d,Q⟩ (.int .i64 (k+1))):=
     ⟨H.bl.setCell (ae _) _,b0,(aD _ _ _ _ (by simp;omega)).trans H.bx,(aD _ _ _ _ (by simp;omega)).trans H.bs,b1⟩
    have cF:Hid (akk w c (.slice (O ⟨f,0,Q⟩) n j) n a x.N.ks D (s+1) (v.set d (k+1)) b (wr.drew.setCell ⟨w.heap.size,d,Q⟩ (.int .i64 (k+1)))):=⟨cB,cr,l.out.kf.trans (((KeepsOthers.drew wr).from _).trans ((T _ _ _).from _))⟩;have e6:d≠a:=by omega
    have fa:IntKind.i64.wrap (k+1)=k+1:=by rw[di];omega
    have fb:=ah (q.out.1.box d u bE);have c8:(wr.drew.setCell ⟨w.heap.size,d,Q⟩ (.int .i64 (k+1))).cell? ⟨c,0,Q⟩=O (.slice (O ⟨w.heap.size,0,Q⟩) n n)/\(wr.drew.setCell ⟨w.heap.size,d,Q⟩ (.int .i64 (k+1))).cell? ⟨u.b,4,Q⟩=O (.int .i64 (d:Int))/\(wr.drew.setCell ⟨w.heap.size,d,Q⟩ (.int .i64 (k+1))).cell? ⟨w.heap.size,a,Q⟩=O (.int .i64 k):=
     ⟨(World.cell?_setCell_far _ _ _ _ (by simp;omega)).trans bh,(World.cell?_setCell_far _ _ _ _ (by simp;omega)).trans cm,(World.cell?_setCell_other _ _ _ _ (by simp;try omega)).trans b6⟩
    have e8:(d:Int)<(n:Int):=by omega
    have e7:(0:Int)<=(d:Int):=by omega
    have a5:=fun w=>qH u.N.k u.b w;generalize nH (dF u.N.k)=d9 at a5 dq;clear C l b0 b1 cr cB al a2 cg bw B bE H
    gi_wp2_with (refine⟨trivial,?_⟩;gi_at_call 301;refine(cx _ _).mono ?_;rintro e an ⟨rfl,cs⟩;subst an)
    have c7:wr.drew.cell? ⟨c,0,Q⟩=O (.slice (O ⟨w.heap.size,0,Q⟩) n n)/\wr.drew.cell? ⟨u.b,4,Q⟩=O (.int .i64 (d:Int))/\wr.drew.cell? ⟨w.heap.size,a,Q⟩=O (.int .i64 k):=⟨bh,cm,b6⟩;refine rA (S:=fun o=>o.cell? ⟨c,0,Q⟩=O (.slice (O ⟨w.heap.size,0,Q⟩) n n)/\o.cell? ⟨u.b,4,Q⟩=O (.int .i64 (d:Int))/\o.cell? ⟨w.heap.size,a,Q⟩=O (.int .i64 k)) (by kernel_rfl) (by kernel_rfl) (fun ⟨_,_,h⟩=>h) c7 (fun hS=>?_);refine bq 0 (.slice (O ⟨w.heap.size,0,Q⟩) n n) rfl rfl (by kernel_rfl) (fun _ _ _=>id) hS (fun o ⟨y,z,A⟩=>by go_simp) ?_;simp only[U];refine bq 1 (.iface d9 (.pointer (O ⟨u.b,0,Q⟩))) rfl rfl (by kernel_rfl) (fun _ _ _=>id) hS (fun o ⟨y,z,A⟩=>by go_simp) ?_;simp only[U];refine bq 6 (.slice (O ⟨w.heap.size,0,Q⟩) n n) rfl rfl (by kernel_rfl) (fun _ _ _=>id) hS (fun o ⟨y,z,A⟩=>by go_simp) ?_;simp only[U];refine bq 7 (.int .i64 (a:Int)) rfl rfl (by kernel_rfl) (fun _ _ _=>id) hS (fun o ⟨y,z,A⟩=>by go_simp) ?_;simp only[U];refine bq 8 (.pointer (O ⟨w.heap.size,a,Q⟩)) rfl rfl (by kernel_rfl) (fun _ _ _=>id) hS (fun o ⟨y,z,A⟩=>by go_simp) ?_;simp only[U];refine bq 9 (.int .i64 k) rfl rfl (by kernel_rfl) (fun _ _ _=>id) hS (fun o ⟨y,z,A⟩=>by go_simp) ?_;simp only[U];refine bq 10 (.int .i64 (k+1)) rfl rfl (by kernel_rfl) (fun _ _ _=>id) hS (fun o ⟨y,z,A⟩=>by go_simp) ?_;simp only[U];refine A5 (rs:=[2]) (by kernel_rfl) (by simp) (A2 rfl (fun bb ad=>?_) A4);go_simp;refine aJ (eA _ _) fun an cs=>?_;subst an;refine ad.out _ _ hS (fun hS=>?_);clear ad bb;try simp only[Act.put,bG,bH,bI]
    refine bq 3 (.pointer (O ⟨u.b,0,Q⟩)) rfl rfl (by kernel_rfl) (fun _ _ _=>id) hS (fun o ⟨y,z,A⟩=>by go_simp) ?_;simp only[U];refine bq 4 (.pointer (O ⟨u.b,4,Q⟩)) rfl rfl (by kernel_rfl) (fun _ _ _=>id) hS (fun o ⟨y,z,A⟩=>by go_simp) ?_;simp only[U];refine bq 5 (.int .i64 (d:Int)) rfl rfl (by kernel_rfl) (fun _ _ _=>id) hS (fun o ⟨y,z,A⟩=>by go_simp) ?_;simp only[U];refine bq 11 (.pointer (O ⟨w.heap.size,d,Q⟩)) rfl rfl (by kernel_rfl) (fun _ _ _=>id) hS (fun o ⟨y,z,A⟩=>by go_simp) ?_;simp only[U];refine A5 (rs:=[12]) (by kernel_rfl) (by simp) (A2 rfl (fun bb ad=>?_) A4);go_simp;refine ad.out _ _ c8 (fun hS=>?_);clear ad bb;refine wpAnyH_done (by kernel_rfl) ?_ _
    gi_wp2
    exact⟨⟨s+1,_,by omega,by go_num,cF⟩,by simp[intOf];omega⟩
   ·obtain rfl:s=am:=by omega
    have bt:Hid (CE w c (.slice (O ⟨f,0,Q⟩) n j) n v wr/\dpN ns a v=FI ns/\KeepsFrom (c+2) b wr):=by
     refine⟨l.out.st,?_,l.out.kf⟩;have r:=l.out.rest;rw[ju (by rw[i.out.2.2.1];exact ae _),Jl]at r;rw[r];exact i.out.2.1
    clear l
    gi_wp2
    exact⟨bt.out.2.2,v,bt.out.1,bt.out.2.1⟩
 case seq=>
  intro a7 c0 c1 b9 df b c9;refine I7 4 a7 (c+1) n j (O ⟨f,0,Q⟩) _ r dn c0 c1 (fun a b h=>?_) (fun a b h s a3=>?_) df b c9
  ·obtain⟨D,m,_⟩:=b9 a b h;exact cG m.bs
  ·obtain⟨D,m,_⟩:=b9 a b h;obtain⟨x,p⟩:=bL q.out.2.2.1 a3;refine⟨_,rfl,?_⟩;rw[tz,p];exact ai m.bl (q.out.1.at p)
 case ret=>intro b h;exact h.elim
 case done=>
  rintro b ⟨D,h,m⟩ b7;have b8:D=FI ns:=m;refine ca _ _ ?_;have bh:=cG h.bx;have i:Hid (CE w c (.slice (O ⟨f,0,Q⟩) n j) n D b/\b.heap[c+2]?=O (.deferred (O []))):=⟨h,by rw[<-K];exact b7⟩;have b3:wm (ij D) (n-0) 0 bd:=⟨by rw[b8];exact q.out.2.2.2.1⟩;have es:w.heap.size<c+2:=by omega
  rw[K];clear h m b7 b8 ca;go_wp2_with fail;go_loop [43] (fun F=>∃g:Nat,g<=n/\F= .int .i64 g/\wm (ij D) (n-g) g bd) (fun F=>n-(intOf F).toNat)
  case atStart=>exact⟨0,aL _,rfl,b3⟩
  case round=>
   obtain⟨g,e2,rfl,ap⟩:=hrel;clear b3;have t:=ap.out;by_cases d3:g<n
   ·have e3:(g:Int)<(n:Int):=by omega
    have e1:(0:Int)<=(g:Int):=by omega
    obtain⟨ao,C⟩:=bL i.out.1.ok.1 d3;have em:b.cell? ⟨w.heap.size,g,Q⟩=O (.int .i64 ao):=by rw[i.out.1.row.cellAt g (by omega),cA,C];rfl
    rw[show n-g=(n-(g+1))+1 by omega,io]at t;have bk:ij D g=decide (100<ao):=by unfold ij;rw[cp,C];rfl
    rw[bk]at t;by_cases cw:100<ao
    ·rw[ab (bC cw)]at t;have a9:=aw t.symm;clear t bk C ap;go_wp2_with fail;refine⟨by simp,.inl ⟨_,_,rfl,run_takeDeferred i.out.2,?_⟩⟩;refine⟨_,results_tmp2 rfl _ _ _,by rw[a9.out];rfl,?_⟩;exact i.out.1.bl.grown (Ax b (c+2) (.deferred Q)) i.out.1.bl.size (fun g e=>by cases e;omega)
    ·rw[aa (by simpa using cw)]at t;have cI:wm (ij D) (n-(g+1)) (g+1) bd:=⟨t⟩;clear t bk C ap;go_wp2_with fail;go_round
     case rel=>exact⟨g+1,by omega,by go_num,cI⟩
     case measure=>simp[intOf];omega
   ·obtain rfl:g=n:=by omega
    rw[eB,io]at t;have a9:=aw t.symm;clear t ap;go_wp2_with fail;refine⟨by simp,.inl ⟨_,_,rfl,run_takeDeferred i.out.2,?_⟩⟩;refine⟨_,results_tmp2 rfl _ _ _,by rw[a9.out];rfl,?_⟩;exact i.out.1.bl.grown (Ax b (c+2) (.deferred Q)) i.out.1.bl.size (fun g e=>by cases e;omega)
attribute [local go_sem] kF
def Gi(S:List Int)(n:Nat):Option Nat->X
 |some i=> A8 #[A9 .i64 (i:Int),A7 Bs]
 |none=> A8 #[A9 .i64 ((n:Int)-1),A7 (decide (S.getD (n-1) 0<(n:Int)))]
structure Am (w:V) (B n:Nat) (S:List Int) (c:List Nat) (W:V):Prop where
 bl:Below w.heap.size w W
 r0:W.heap[w.heap.size]?=O (.cells #[.int .i64 0] 3 (0,0))
 r1:W.heap[w.heap.size+1]?=O (.cells #[.bool A1] 4 (0,0))
 row:W.ownsRow w.heap.size 3 1 (.slice (O ⟨w.heap.size+1+1,0,Q⟩) n n) n (S.map (A3 .i64)++A0 (n-S.length) (.int .i64 0))
 bx:W.heap[B]?=O (.cells #[.slice (O ⟨w.heap.size+1+1,0,Q⟩) n n] 51 (0,0))
 mks:oG (w.heap.size+1+1+1) c W
theorem Am.below{w:V}{B n:Nat}{S:List Int}{c:List Nat}{W b:V}(h:Am w B n S c W)(a:Below W.heap.size W b):Am w B n S c b:=
 ⟨h.bl.trans (a.mono h.bl.size),(a.block _ (ah h.r0)).trans h.r0,(a.block _ (ah h.r1)).trans h.r1,aE h.row a,(a.block _ (ah h.bx)).trans h.bx,h.mks.below a⟩
theorem Am.put{w:V}{B n:Nat}{S:List Int}{c:List Nat}{W:V}(h:Am w B n S c W)(f:w.heap.size+1<B){r:Loop}{k:Nat}(g:B<k)(b:W.heap[k]?=O (.loop r))(o:Obj):Am w B n S c (W.putObj k o):=
 ⟨h.bl.grown (Ax W k o) h.bl.size (fun i e=>by cases e;omega),(R (by omega)).trans h.r0,(R (by omega)).trans h.r1,ownsRow_putObj h.row o b rfl,(R (by omega)).trans h.bx,
  ⟨h.mks.nd,h.mks.lo,fun a d=>(R (by rintro rfl;have:=(h.mks.at_ a d).symm.trans b;cases this)).trans (h.mks.at_ a d)⟩⟩
structure Gj (w:V) (B n:Nat) (S:List Int) (c:List Nat) (sz k:Nat) (kv:X) (a:Int) (W:V):Prop where
 oo:Am w B n S c W
 b5:W.heap[sz]?=O (.cells #[.int .i64 (k:Int)] 3 (0,0))
 b7:W.heap[sz+1]?=O (.cells #[.int .i64 (a-1)] 3 (0,0))
 b8:W.heap[sz+1+1]?=O (.cells #[kv] 155 (0,0))
theorem Gj.put{w:V}{B n:Nat}{S:List Int}{c:List Nat}{b k:Nat}{d:X}{a:Int}{W:V}(h:Gj w B n S c b k d a W)(e:w.heap.size+1<B)(i:B<b){r:Loop}{j:Nat}(g:b+1+1<j)(f:W.heap[j]?=O (.loop r))(o:Obj):Gj w B n S c b k d a (W.putObj j o):=
 ⟨h.oo.put e (by omega) f o,(R (by omega)).trans h.b5,(R (by omega)).trans h.b7,(R (by omega)).trans h.b8⟩
theorem vz{fn:Func}{p q:Tmp}{t u:TypeId}(h:fn.results=#[.cell p t,.cell q u])(tmps:Array X)(P:Program)(w:V)(a b:Addr)(v c:X)(f:tmps.getD p M= Z (O a))(i:tmps.getD q M= Z (O b))
  (d:(loadVar t a).run P w= .ok v w) (e:(loadVar u b).run P w= .ok c w):(results fn tmps).run P w= .ok (A8 #[v,c]) w:=by
 have g:tmps[p]?.getD M= Z (O a):=by simpa using f
 have j:tmps[q]?.getD M= Z (O b):=by simpa using i
 simp only[results,h];simp[rh,Result.andThen,g,j,asAddr,d,e]
theorem I9(w:V)(a:Addr)(z:Int)(h:w.cell? a=O (A9 .i64 z)):(loadVar 3 a).run Y w= .ok (A9 .i64 z) w:=by go_simp
theorem Ed(w:V)(a:Addr)(z:Bool)(h:w.cell? a=O (A7 z)):(loadVar 4 a).run Y w= .ok (A7 z) w:=by go_simp
theorem ah4(a b:List Nd):∃t,lj (a++b)=lj a++t:=by
 refine FB (p:=fun b=>∃t,lj (a++b)=lj a++t) ⟨[],by simp⟩ (fun d e ⟨t,c⟩=>?_) b;rw[<-dh,xJ,c];exact⟨t++[_],dh _ _ _⟩
theorem Ja{ns:List Nd}{k:Nat}{N:Nd}(h:ns[k]?=O N):lj (ns.take (k+1))=lj (ns.take k)++[tj (lj (ns.take k)) k N.ks]:=by
 have a:k<ns.length:=(List.getElem?_eq_some_iff.1 h).1;rw[fK,h];show lj (ns.take k++[N])=_;rw[xJ,pH,jy,Et (by omega)]
theorem akl{ns:List Nd}{k:Nat}{N:Nd}(h:ns[k]?=O N):(lj ns).getD k 0=tj (lj (ns.take k)) k N.ks:=by
 have c:k<ns.length:=(List.getElem?_eq_some_iff.1 h).1;obtain⟨d,a⟩:=ah4 (ns.take (k+1)) (ns.drop (k+1));rw[An,Ja h]at a;have b:(lj (ns.take k)).length=k:=by rw[pH,jy,Et (by omega)]
 rw[a,cp,dh,fJ (by omega),b];simp
def afC(c:List Im)(ks:List Int)(m:Nat):X:=match ks[m]? with
 |some d=>(match c[d.toNat]? with|some a=> B0 (nH (dF a.N.k)) (Z (O ⟨a.b,0,Q⟩))|none=> B1)
 |none=> B1
theorem aa1{c:List Im}{ks:List Int}{m q:Nat}{a:Im}(d:ks[m]?=O (q:Int))(e:c[q]?=O a):afC c ks m= B0 (nH (dF a.N.k)) (Z (O ⟨a.b,0,Q⟩)):=by
 unfold afC;rw[d];simp[e]
structure akm (w:V) (c:List Nat) (k:Nat) (W:V):Prop where
 bl:Below w.heap.size w W
 r0:W.heap[w.heap.size]?=O (.cells #[.int .i64 (k:Int)] 3 (0,0))
 r1:W.heap[w.heap.size+1]?=O (.cells #[.bool Bs] 4 (0,0))
 mks:oG (w.heap.size+1+1+1) c W
theorem CF(w:V)(base:Nat)(dk:X)(ad:List Im)(a5:lp w base dk ad)(ns:List Nd)(eh:ad.map Im.N=ns)(n:Nat)(b9:ad.length=n)(hA:1<=n)(y:n<=3000)(ed:∀x∈ad,x.N.ks.length<=200):
  Calls Y 79 #[dk] w fun e p=>e= .returned (Gi (lj ns) n (io (gJ (lj ns)) n 0))/\Below w.heap.size w p:=by
 obtain⟨ak,ap,rfl⟩:∃ak k,dk= .slice (O ⟨ak,0,Q⟩) n k:=by
  rcases bp a5.row with⟨h,_⟩|h
  ·omega
  ·rw[<-b9];exact h
 have hG:n<=ap:=by
  rcases a5.row.2 with⟨y,_⟩|⟨f3,fq,fu,y,_,_,f4,_⟩
  ·cases y
  ·cases y;omega
 obtain⟨g4,cg,gz,g0,g3⟩:=dt rl;obtain⟨a8,ca⟩:=ay (io (gJ (lj ns)) n 0);rw[ca];have i:=Jm a5 eh b9 ca ed;clear a5 eh b9 ca ed;refine kH (n:=5).1 ?_;refine callsIn_of_wp_marks Tryz.func79 rfl trivial ?_ rfl;simp only[Tryz.ntmps79,gi,bv,dd,Nat.reduceAdd,Nat.reduceSub,gh,gC,gD,na,de,ej];refine wpIn_wide.2 ?_;go_wp2_with (at_make;refine Az _ rfl _ _ 51 rfl w.heap.size 3 g4 (.int .i64 0) 1 Tryz.underlying51 cg gz g0 .i64 .i64 _ _ n rfl rfl rfl rfl (by rw[g3];omega) (by unfold maxLen;omega) (by simp;omega) ?_;intro ao bk a6);rename_i g9 f6;have a9:Below ((w.alloc (.cells #[.int .i64 0] 3)).alloc (.cells #[.bool A1] 4)).heap.size ((w.alloc (.cells #[.int .i64 0] 3)).alloc (.cells #[.bool A1] 4)) ao:=⟨a6.os,a6.tape,a6.output,a6.size,fun a ec=>a6.block a ec (by simp)⟩;rw[show(madeCells (A3 .i64 0).cells (n*1)).toList=A0 n (A3 .i64 0) by rw[rj];exact Aq _ n]at bk;simp only[aF]at bk a9;have gu:w.heap.size+1+1<ao.heap.size:=(bk.lt _ rfl).2;have b1:Am w ao.heap.size n [] [] (ao.alloc (.cells #[.slice (O ⟨w.heap.size+1+1,0,Q⟩) n n] 51)):=by
  refine⟨?_,?_,?_,?_,aj ao _,⟨AF,fun l hb=>by simp at hb,fun l hb=>by simp at hb⟩⟩
  ·exact((((ag _ w).alloc (ae _) _).alloc (by simp) _).trans (a9.mono (by omega))).alloc (by omega) _
  ·exact(bm _ _ _ (by omega)).trans ((a9.block _ (by omega)).trans ((bm _ _ _ (by simp)).trans (aj w _)))
  ·refine(bm _ _ _ (by omega)).trans ((a9.block _ (by omega)).trans ?_);have:=aj (w.alloc (.cells #[.int .i64 0] 3)) (.cells #[.bool A1] 4);rw[aF]at this;exact this
  ·exact bk.alloc _
 obtain⟨r,d1⟩:=ay ao.heap.size;have d2:r<(ao.alloc (.cells #[.slice (O ⟨w.heap.size+1+1,0,Q⟩) n n] 51)).heap.size:=by simp;omega
 rw[d1]at b1 gu⊢;generalize ao.alloc (.cells #[.slice (O ⟨w.heap.size+1+1,0,Q⟩) n n] 51)=fo at b1 d2⊢;clear bk a6 a9 d1;have dq:Hid (Am w r n (lj (ns.take 0)) [] fo/\io (gJ (lj ns)) (n-0) 0=a8/\∀(H:Nat) q,(lj (ns.take 0))[H]?=O q->1<=q):=⟨b1,i.out.2.2.2.1,fun H q h=>by simp[lj]at h⟩;clear b1;refine(py (n:=5)).1 (wpIn_loop (fun al d=>∃(a:Nat) (k:List Nat),a<=n/\r<d.heap.size/\Hid (Am w r n (lj (ns.take a)) k d/\io (gJ (lj ns)) (n-a) a=a8/\∀(H:Nat) q,(lj (ns.take a))[H]?=O q->1<=q)/\
  ∃fa fb fc er es et ev ex e0 e3 e4 e5 e6 e8 e9 cI c0 c4 c6 c8 c9 df:X,al={tmps:=#[.slice (O ⟨ak,0,Q⟩) n ap,M,.pointer (O ⟨w.heap.size,0,Q⟩),.pointer (O ⟨w.heap.size+1,0,Q⟩),.pointer (O ⟨r,0,Q⟩),fa,fb,fc,M,M,M,.slice (O ⟨ak,0,Q⟩) n ap,.int .i64 (n:Int),.slice (O ⟨w.heap.size+1+1,0,Q⟩) n n,.slice (O ⟨ak,0,Q⟩) n ap,.int .i64 (n:Int),.int .i64 (a:Int),er,es,et,ev,ex,e0,e3,e4,e5,e6,e8,e9,M,M,M,M,M,M,M,M,M,M,M,M,M,M,M,M,cI,c0,c4,c6,c8,c9,df,M,M,M,M,M,M,M,M,M,M,M],defers:=k.map yG}) (fun al _=>n-(intOf (al.tmps.getD 16 M)).toNat) ?start ?round)
 case start=>exact⟨0,[],aL _,d2,dq,M,M,M,M,M,M,M,M,M,M,M,M,M,M,M,M,M,M,M,M,M,M,rfl⟩
 case round=>
  rintro al d ⟨a,k,ec,b6,m,fa,fb,fc,er,es,et,ev,ex,e0,e3,e4,e5,e6,e8,e9,cI,c0,c4,c6,c8,c9,df,rfl⟩;clear dq;refine wpIn_wide.2 ?_;by_cases ef:a<n
  ·have hH:(a:Int)<(n:Int):=by omega
   have gn:(0:Int)<=(a:Int):=by omega
   obtain⟨x,a2⟩:=bL i.out.2.2.1 ef;have d9:=ai m.out.1.bl (i.out.1.at a2);have ce:=ai m.out.1.bl (i.out.1.box a x a2).cells.2.2.2.2.1;have G:=i.out.1.kid a x a2;obtain⟨v,C,bE⟩:=ze G;have gp:=i.out.2.2.2.2 x (cJ a2);obtain⟨A,ch⟩:=ay x.N.ks.length;rw[bE]at ce;rw[ch]at ce gp bE;have s:=iD a2 bE ch;have bh:=fun w=>qH x.N.k x.b w;have gv:x.b<d.heap.size:=eF (ah (i.out.1.box a x a2)) m.out.1.bl.size;generalize nH (dF x.N.k)=cF at bh d9;clear a2 G bE ch;go_wp2_with (first|(go_at_call 301;refine(eA _ _).mono ?_;rintro e bt ⟨rfl,el⟩;subst bt)|(go_at_call 141;refine(yi v A C _).mono ?_;rintro e g8 ⟨rfl,a1⟩;subst g8));rename_i ha d4;obtain⟨S,hS⟩:=ay (lj (ns.take a));obtain⟨af,cb⟩:=ay (FA S x.N.ks.reverse (a:Int));rw[hS]at m;obtain⟨g,bo⟩:=ay d.heap.size;have bn:Gj w r n S k g a (.slice v A C) (a:Int) (((d.alloc (.cells #[.int .i64 (a:Int)] 3)).alloc (.cells #[.int .i64 ((a:Int)-1)] 3)).alloc (.cells #[.slice v A C] 155)):=by
    refine⟨m.out.1.below ((((ag _ d).alloc (ae _) _).alloc (by simp) _).alloc (by simp;omega) _),?_,?_,?_⟩
    ·exact(bm _ _ _ (by simp;omega)).trans ((bm _ _ _ (by simp;omega)).trans (by rw[<-bo];exact aj d _))
    ·refine(bm _ _ _ (by simp;omega)).trans ?_;have:=aj (d.alloc (.cells #[.int .i64 (a:Int)] 3)) (.cells #[.int .i64 ((a:Int)-1)] 3);rw[aF,bo]at this;exact this
    ·have:=aj ((d.alloc (.cells #[.int .i64 (a:Int)] 3)).alloc (.cells #[.int .i64 ((a:Int)-1)] 3)) (.cells #[.slice v A C] 155);rw[aF,aF,bo]at this;exact this
   have a3:(((d.alloc (.cells #[.int .i64 (a:Int)] 3)).alloc (.cells #[.int .i64 ((a:Int)-1)] 3)).alloc (.cells #[.slice v A C] 155)).heap.size=g+1+1+1:=by simp;omega
   rw[bo]at b6 gv⊢;generalize ((d.alloc (.cells #[.int .i64 (a:Int)] 3)).alloc (.cells #[.int .i64 ((a:Int)-1)] 3)).alloc (.cells #[.slice v A C] 155)=he at bn a3⊢;have d8:∀l∈k,l<g:=fun l hb=>by rw[<-bo];exact(Array.getElem?_eq_some_iff.1 (m.out.1.mks.at_ l hb)).1
   have ei:ns[a]?=O x.N:=by rw[<-i.out.2.1,cA,s.out.1];rfl
   have bb:(lj ns).getD a 0=tj S a x.N.ks:=by rw[akl ei,hS]
   clear d9 ce bh;refine(py (n:=5)).1 ?_;refine uk (P:=Y) (gf:=194) (lb:=#[.pointer (O ⟨g+1+1,0,Q⟩)]) rfl (enters_of Tryz.func194 (by kernel_rfl) rfl)
    (fun c=>#[.int .i64 (c:Int),afC ad x.N.ks c]) (fun _=>rfl) A
    (fun c d=>∃b:Int,Gj w r n S k g a (.slice v A C) b d/\0<=b/\b<=(a:Int)/\FA S (x.N.ks.take c).reverse b=af)
    (fun c al d=>(∃b:Int,Gj w r n S k g a (.slice v A C) b d/\0<=b/\b<=(a:Int)/\FA S (x.N.ks.take (c+1)).reverse b=af)/\al={tmps:=#[.slice (O ⟨ak,0,Q⟩) n ap,M,.pointer (O ⟨w.heap.size,0,Q⟩),.pointer (O ⟨w.heap.size+1,0,Q⟩),.pointer (O ⟨r,0,Q⟩),.pointer (O ⟨g,0,Q⟩),.iface cF (.pointer (O ⟨x.b,0,Q⟩)),.pointer (O ⟨g+1,0,Q⟩),M,afC ad x.N.ks c,M,.slice (O ⟨ak,0,Q⟩) n ap,.int .i64 (n:Int),.slice (O ⟨w.heap.size+1+1,0,Q⟩) n n,.slice (O ⟨ak,0,Q⟩) n ap,.int .i64 (n:Int),.int .i64 (a:Int),.bool Bs,.int .i64 (a:Int),.pointer (O ⟨ak,a,Q⟩),.iface cF (.pointer (O ⟨x.b,0,Q⟩)),.int .i64 (a:Int),.int .i64 ((a:Int)-1),.iface cF (.pointer (O ⟨x.b,0,Q⟩)),.pointer (O ⟨x.b,0,Q⟩),.pointer (O ⟨x.b,0,Q⟩),.pointer (O ⟨x.b,5,Q⟩),.slice v A C,.func (.func 194) #[] #[.pointer (O ⟨g+1+1,0,Q⟩)],.int .i64 (c:Int),afC ad x.N.ks c,M,M,M,M,M,M,M,M,M,M,M,M,M,M,cI,c0,c4,c6,c8,c9,df,M,M,M,M,M,M,M,M,M,M,M],defers:=[]})
    (fun d=>akm w k a d/\af=Q)
    ?pZ ?pAx ?pX ?h0 ?assign ?body ?seq ?done ?ret
   case pZ=>
    rintro c d ep bs ⟨b,h,L⟩ am;rw[a3]at am⊢;exact⟨b,h.put (by omega) b6 (by omega) am bs,L⟩
   case pAx=>
    rintro c al d ep bs ⟨⟨b,h,L⟩,rfl⟩ am;rw[a3]at am⊢;exact⟨⟨b,h.put (by omega) b6 (by omega) am bs,L⟩,rfl⟩
   case pX=>
    rintro d ep bs ⟨h,cn⟩ am;rw[a3]at am⊢;exact⟨⟨h.bl.grown (Ax d _ bs) h.bl.size (fun H e=>by cases e;omega),(R (by omega)).trans h.r0,(R (by omega)).trans h.r1,
     ⟨h.mks.nd,h.mks.lo,fun l t=>(R (by rintro rfl;have:=(h.mks.at_ _ t).symm.trans am;cases this)).trans (h.mks.at_ l t)⟩⟩,cn⟩
   case h0=>
    intro hc hb h7;refine⟨(a:Int),⟨bn.oo.below hb,(hb.block _ (by omega)).trans bn.b5,(hb.block _ (by omega)).trans bn.b7,(hb.block _ (by omega)).trans bn.b8⟩,gn,Int.le_refl _,?_⟩;rw[fs (by rw[s.out.2.2];exact ae _)];exact cb
   case assign=>
    rintro ct c d bA t ⟨b,h,L⟩ ar;have fd:Hid (∃b:Int,Gj w r n S k g a (.slice v A C) b d/\0<=b/\b<=(a:Int)/\FA S (x.N.ks.take (c+1)).reverse b=af):=⟨b,h,L⟩;clear h L
    gi_wp2
    exact ar _ _ ⟨fd.out,rfl⟩ (KeepsFrom.refl _ _)
   case seq=>
    intro ct fm fn d3 gb d f9;have gr:A<=C:=by
     have G:=i.out.1.kid a x s.out.1;rw[s.out.2.1,s.out.2.2]at G;rcases G.2 with⟨y,d0⟩|⟨f3,fq,fu,y,_,_,f4,_⟩
     ·omega
     ·cases y;omega
    refine I7 4 ct (g+1+1) A C v _ (by omega) gr fm fn (fun c d h=>?_) (fun c d h H a0=>?_) gb d f9
    ·obtain⟨b,L,_⟩:=d3 c d h;exact cG L.b8
    ·obtain⟨b,L,_⟩:=d3 c d h;obtain⟨q,E⟩:=bL s.out.2.2 a0;obtain⟨gk,bb⟩:∃gk,v=O ⟨gk,0,Q⟩:=by
      have G:=i.out.1.kid a x s.out.1;rw[s.out.2.1]at G;rcases bp G with⟨h,_⟩|⟨gk,k,h⟩
      ·rw[s.out.2.2]at h;omega
      ·cases h;exact⟨_,rfl⟩
     obtain⟨f,B,rfl,ek,br,bD⟩:=i.out.1.kidAt s.out.1 (by rw[s.out.2.1,bb]) E;refine⟨_,bb,?_⟩;rw[tz,aa1 E br];exact ai L.oo.bl bD
   case body=>
    rintro ct c al j t ⟨⟨b,h,gd,ge,z⟩,rfl⟩;rw[a3];obtain⟨q,E⟩:=bL s.out.2.2 t;obtain⟨gk,gm⟩:∃gk,v=O ⟨gk,0,Q⟩:=by
     have G:=i.out.1.kid a x s.out.1;rw[s.out.2.1]at G;rcases bp G with⟨h,_⟩|⟨gk,k,h⟩
     ·rw[s.out.2.2]at h;omega
     ·cases h;exact⟨_,rfl⟩
    obtain⟨f,B,rfl,ek,br,bD⟩:=i.out.1.kidAt s.out.1 (by rw[s.out.2.1,gm]) E;rw[aa1 E br];have gs:=ai h.oo.bl (i.out.1.box f B br).cells.2.2.2.1;have ii:=ah (i.out.1.box f B br);have F:S.length=a:=by rw[<-hS,pH,jy,<-i.out.2.1,dc,i.out.2.2.1];omega
    obtain⟨u,a7⟩:=bL F ek;have h8:=m.out.2.2 f u a7;have h9:u<=(f:Int)+1:=by
     have gt:FC S:=by
      rw[<-hS];refine FD _ (fun N a5 q E=>?_);obtain⟨cs,cg,e⟩:=mL (Ej a5);have bd:(ad.map Im.N)[cs]?=O N:=by rw[i.out.2.1,bJ cg,e]
      rw[cA]at bd;cases hLi:ad[cs]? with
      |none=>rw[hLi]at bd;cases bd
      |some g7=>
       rw[hLi]at bd;obtain rfl:=bu bd;exact(i.out.1.rng cs g7 q hLi E).1
     exact(gt f u a7).2
    have cf:S.getD f 0=u:=by rw[cp,a7];rfl
    have a1:(if(f:Int)=b-1/\u≠0 then FA S (x.N.ks.take c).reverse (b-u) else Q)=af:=by
     rw[fK,E,Ek,List.reverse_append]at z;show _=af;rw[<-z];show _=FA S ((f:Int)::(x.N.ks.take c).reverse) b;rw[FA,tJ,cf]
    have hn:=cG h.b5;have b4:=cG h.b7;have ds:=cG h.oo.bx;have an:=h.oo.row;have fr:j.cell? ⟨w.heap.size+1+1,f,Q⟩=O (.int .i64 u):=by
     rw[an.cellAt f (by omega),ie (by simp;omega),cA,a7];rfl
    have cx:=cG h.oo.r0;have cy:=cG h.oo.r1;have fB:j.frozen? ⟨w.heap.size,0,Q⟩=A1:=cC _ _ _ _ _ h.oo.r0;have fF:j.frozen? ⟨w.heap.size+1,0,Q⟩=A1:=cC _ _ _ _ _ h.oo.r1;have f2:j.frozen? ⟨g+1,0,Q⟩=A1:=cC _ _ _ _ _ h.b7;have bh:=fun w=>qH B.N.k B.b w;have o:j.drew.cell? ⟨g+1,0,Q⟩=O (.int .i64 (b-1))/\j.drew.cell? ⟨B.b,4,Q⟩=O (.int .i64 (f:Int)):=⟨b4,gs⟩;have dn:=aw h;generalize nH (dF B.N.k)=eq at bh⊢;by_cases b0:(f:Int)=b-1
    ·rw[ab ⟨b0,by omega⟩]at a1;have bw:=aw a1;clear a1 z E bD h a7 cf F an;have fA:b=(f:Int)+1:=by omega
     subst fA;have dz:(f:Int)+1-1=(f:Int):=by omega
     rw[dz]at b4 o;clear b0 dz;have h6:(f:Int)<(n:Int):=by omega
     have h5:(0:Int)<=(f:Int):=by omega
     gi_wp2
     refine rA (S:=fun p=>p.cell? ⟨g+1,0,Q⟩=O (.int .i64 (f:Int))/\p.cell? ⟨B.b,4,Q⟩=O (.int .i64 (f:Int))) (by kernel_rfl) (by kernel_rfl) (fun ⟨_,_,h⟩=>h) o (fun o=>?_);refine bq 0 (.iface eq (.pointer (O ⟨B.b,0,Q⟩))) rfl rfl (by kernel_rfl) (fun _ _ _=>id) o (fun p ⟨I,J⟩=>by go_simp) ?_;simp only[U];refine bq 5 (.int .i64 (f:Int)) rfl rfl (by kernel_rfl) (fun _ _ _=>id) o (fun p ⟨I,J⟩=>by go_simp) ?_;simp only[U];refine A5 (rs:=[1]) (by kernel_rfl) (by simp) (A2 rfl (fun bA ar=>?_) A4);go_simp;refine aJ (eA _ _) fun bt el=>?_;subst bt;refine ar.out _ _ o (fun o=>?_);clear ar bA;try simp only[Act.put,bG,bH,bI]
     refine bq 2 (.pointer (O ⟨B.b,0,Q⟩)) rfl rfl (by kernel_rfl) (fun _ _ _=>id) o (fun p ⟨I,J⟩=>by go_simp) ?_;simp only[U];refine bq 3 (.pointer (O ⟨B.b,4,Q⟩)) rfl rfl (by kernel_rfl) (fun _ _ _=>id) o (fun p ⟨I,J⟩=>by go_simp) ?_;simp only[U];refine bq 4 (.int .i64 (f:Int)) rfl rfl (by kernel_rfl) (fun _ _ _=>id) o (fun p ⟨I,J⟩=>by go_simp) ?_;simp only[U];refine bq 6 (.bool A1) rfl rfl (by kernel_rfl) (fun _ _ _=>id) o (fun p ⟨I,J⟩=>by go_simp) ?_;simp only[U];refine wpAnyH_done (by kernel_rfl) ?_ _
     gi_wp2
     have hE:j.drew.cell? ⟨g+1,0,Q⟩=O (.int .i64 (f:Int))/\j.drew.cell? ⟨w.heap.size+1+1,f,Q⟩=O (.int .i64 u)/\j.drew.cell? ⟨r,0,Q⟩=O (.slice (O ⟨w.heap.size+1+1,0,Q⟩) n n)/\j.drew.frozen? ⟨g+1,0,Q⟩=A1:=⟨b4,fr,ds,f2⟩;have ih:IntKind.i64.wrap ((f:Int)-u)=(f:Int)-u:=by rw[di];omega
     have K:=dn.out;have hL:g+1≠w.heap.size+1+1:=by omega
     have eb:Gj w r n S k g a (.slice v A C) ((f:Int)+1-u) (j.setCell ⟨g+1,0,Q⟩ (.int .i64 ((f:Int)-u))).drew.drew:=by
      have fz:(f:Int)+1-u-1=(f:Int)-u:=by omega
      refine⟨⟨(K.oo.bl.setCell (by simp;omega) _).drew.drew,(aD _ _ _ _ (by simp;omega)).trans K.oo.r0,(aD _ _ _ _ (by simp;omega)).trans K.oo.r1,?_,(aD _ _ _ _ (by simp;omega)).trans K.oo.bx,(K.oo.mks.keeps (T _ _ _)).keeps ((KeepsOthers.drew _).trans (KeepsOthers.drew _))⟩,(aD _ _ _ _ (by simp)).trans K.b5,?_,(aD _ _ _ _ (by simp)).trans K.b8⟩
      ·exact(show(j.setCell ⟨g+1,0,Q⟩ (.int .i64 ((f:Int)-u))).ownsRow _ _ _ _ _ _ from K.oo.row.kept (grownBy_setCell' j (g+1) _) (.inr (by simp[Value.ownBlock];omega)))
      ·rw[fz];exact bi _ _ 0 _ _ _ K.b7
     have fl:Hid (ady (g+1+1+1) j (fun d=>∃b:Int,Gj w r n S k g a (.slice v A C) b d/\0<=b/\b<=(a:Int)/\FA S (x.N.ks.take c).reverse b=af) (fun d=>akm w k a d/\af=Q) .normal {tmps:=#[],defers:=[]} (j.setCell ⟨g+1,0,Q⟩ (.int .i64 ((f:Int)-u))).drew.drew):=
      ⟨(((T _ _ _).trans (KeepsOthers.drew _)).trans (KeepsOthers.drew _)).from _,_,eb,by omega,by omega,bw.out⟩
     clear dn bw s i m bh o K eb
     gi_region
     all_goals exact fl.out
    ·rw[aa (fun e=>b0 e.1)]at a1;have bw:=aw a1;have d7:akm w k a ((j.drew.setCell ⟨w.heap.size,0,Q⟩ (.int .i64 (a:Int))).setCell ⟨w.heap.size+1,0,Q⟩ (.bool Bs)):=
      ⟨((h.oo.bl.drew.setCell (by simp) _).setCell (by simp) _),(aD _ _ _ _ (by simp)).trans (bi _ _ 0 _ _ _ h.oo.r0),bi _ _ 0 _ _ _ ((aD _ _ _ _ (by simp)).trans h.oo.r1),
       ((h.oo.mks.keeps (KeepsOthers.drew j)).keeps (T _ _ _)).keeps (T _ _ _)⟩
     have fg:=aw d7;have ht:((f:Int)==b-1)=A1:=by rw[aK];exact b0
     clear a1 z E bD h a7 cf F an d7
     gi_wp2
     refine rA (S:=fun p=>p.cell? ⟨g+1,0,Q⟩=O (.int .i64 (b-1))/\p.cell? ⟨B.b,4,Q⟩=O (.int .i64 (f:Int))) (by kernel_rfl) (by kernel_rfl) (fun ⟨_,_,h⟩=>h) o (fun o=>?_);refine bq 0 (.iface eq (.pointer (O ⟨B.b,0,Q⟩))) rfl rfl (by kernel_rfl) (fun _ _ _=>id) o (fun p ⟨I,J⟩=>by go_simp) ?_;simp only[U];refine bq 5 (.int .i64 (b-1)) rfl rfl (by kernel_rfl) (fun _ _ _=>id) o (fun p ⟨I,J⟩=>by go_simp) ?_;simp only[U];refine A5 (rs:=[1]) (by kernel_rfl) (by simp) (A2 rfl (fun bA ar=>?_) A4);go_simp;refine aJ (eA _ _) fun bt el=>?_;subst bt;refine ar.out _ _ o (fun o=>?_);clear ar bA;try simp only[Act.put,bG,bH,bI]
     refine bq 2 (.pointer (O ⟨B.b,0,Q⟩)) rfl rfl (by kernel_rfl) (fun _ _ _=>id) o (fun p ⟨I,J⟩=>by go_simp) ?_;simp only[U];refine bq 3 (.pointer (O ⟨B.b,4,Q⟩)) rfl rfl (by kernel_rfl) (fun _ _ _=>id) o (fun p ⟨I,J⟩=>by go_simp) ?_;simp only[U];refine bq 4 (.int .i64 (f:Int)) rfl rfl (by kernel_rfl) (fun _ _ _=>id) o (fun p ⟨I,J⟩=>by go_simp) ?_;simp only[U];refine bq 6 (.bool Bs) rfl rfl (by kernel_rfl) (fun _ _ _=>id) o (fun p ⟨I,J⟩=>by go_simp) ?_;simp only[U];refine wpAnyH_done (by kernel_rfl) ?_ _
     gi_wp2
     exact⟨(((KeepsOthers.drew j).from _).trans ((T _ _ _).from _)).trans ((T _ _ _).from _),fg.out,bw.out.symm⟩
   case ret=>
    rintro j ⟨h,cn⟩ a4;rw[a3]at a4⊢;have f8:a8=O a:=by
     have y:=m.out.2.1;rw[show n-a=(n-(a+1))+1 by omega,io,ab]at y
     ·exact y.symm
     ·unfold gJ;rw[bb];unfold tj;rw[cb,cn];rfl
    show LeavesInM _ _ _ _ _ _ (((g+1+1+1)::k).map yG) .returning j;refine nI (w.heap.size+1+1+1) _ j ⟨List.nodup_cons.2 ⟨fun t=>by have:=d8 _ t;omega,h.mks.nd⟩,fun l hb=>?_,fun l hb=>?_⟩ (fun b3 z=>?_)
    ·rcases List.mem_cons.1 hb with rfl|hb
     ·omega
     ·exact h.mks.lo l hb
    ·rcases List.mem_cons.1 hb with rfl|hb
     ·exact a4
     ·exact h.mks.at_ l hb
    ·have cl:∀l∈(g+1+1+1)::k,w.heap.size+1+1+1<=l:=fun l hb=>by
      rcases List.mem_cons.1 hb with rfl|hb
      ·omega
      ·exact h.mks.lo l hb
     have cx:=(z.same w.heap.size (fun t=>by have:=cl _ t;omega)).trans h.r0;have cy:=(z.same (w.heap.size+1) (fun t=>by have:=cl _ t;omega)).trans h.r1;refine⟨_,vz rfl _ _ _ ⟨w.heap.size,0,Q⟩ ⟨w.heap.size+1,0,Q⟩ _ _ rfl rfl (I9 _ _ _ (cG cx)) (Ed _ _ _ (cG cy)),?_,z.below h.bl (fun l hb=>by have:=cl l hb;omega) (ae _)⟩;rw[f8];rfl
   case done=>
    rintro j ⟨b,h,gd,ge,z⟩ a4;rw[a3]at a4⊢;have d5:af=O b:=by rw[<-z];rfl
    have cr:tj S a x.N.ks=(a:Int)-(b-1):=by unfold tj;rw[cb,d5];show(a:Int)-b+1=_;omega
    have F:S.length=a:=by rw[<-hS,pH,jy,<-i.out.2.1,dc,i.out.2.2.1];omega
    have an:=h.oo.row;have ho:j.cell? ⟨w.heap.size+1+1,a,Q⟩=O (.int .i64 0):=by
     rw[an.cellAt a (by omega),fJ (by simp;omega),dc,F,eB,Eh,ab (by omega)]
    have hv:=an.frozenAt a;have cw:=(an.stored a (.int .i64 ((a:Int)-(b-1)))).1;rw[F,D3 S n a ((a:Int)-(b-1)) F ef]at cw;have cc:lj (ns.take (a+1))=S++[(a:Int)-(b-1)]:=by rw[Ja ei,hS,cr]
    have eg:oG (w.heap.size+1+1+1) ((g+1+1+1)::k) j:=⟨List.nodup_cons.2 ⟨fun t=>by have:=d8 _ t;omega,h.oo.mks.nd⟩,fun l hb=>by
      rcases List.mem_cons.1 hb with rfl|hb
      ·omega
      ·exact h.oo.mks.lo l hb,fun l hb=>by
      rcases List.mem_cons.1 hb with rfl|hb
      ·exact a4
      ·exact h.oo.mks.at_ l hb⟩
    have cm:Am w r n (S++[(a:Int)-(b-1)]) ((g+1+1+1)::k) (j.setCell ⟨w.heap.size+1+1,a,Q⟩ (.int .i64 ((a:Int)-(b-1)))):=
     ⟨h.oo.bl.setCell (by simp;omega) _,(aD _ _ _ _ (by simp;omega)).trans h.oo.r0,(aD _ _ _ _ (by simp)).trans h.oo.r1,by rw[aH,F];exact cw,(aD _ _ _ _ (by simp;omega)).trans h.oo.bx,eg.keeps (T _ _ _)⟩
    have ff:Hid (Am w r n (lj (ns.take (a+1))) ((g+1+1+1)::k) (j.setCell ⟨w.heap.size+1+1,a,Q⟩ (.int .i64 ((a:Int)-(b-1))))/\io (gJ (lj ns)) (n-(a+1)) (a+1)=a8/\∀(H:Nat) q,(lj (ns.take (a+1)))[H]?=O q->1<=q):=by
     refine⟨by rw[cc];exact cm,?_,fun H q a0=>?_⟩
     ·have y:=m.out.2.1;rw[show n-a=(n-(a+1))+1 by omega,io,aa]at y
      ·exact y
      ·unfold gJ;rw[bb,cr];simp;omega
     ·rw[cc]at a0;rcases co H a with g1|g1
      ·rw[ie (by omega)]at a0;exact m.out.2.2 H q a0
      ·rw[fJ (by omega)]at a0;obtain⟨y,d0⟩:=List.getElem?_eq_some_iff.1 a0;simp at y d0;omega
    have hf:=cG h.oo.bx;have hg:=cG h.b5;have hh:=cG h.b7;have f5:r<(j.setCell ⟨w.heap.size+1+1,a,Q⟩ (.int .i64 ((a:Int)-(b-1)))).heap.size:=ah cm.bx;have hC:((a:Int)-(b-1))<=3001/\1<=((a:Int)-(b-1)):=by omega
    refine d4 _ _ ?_;clear d5 cr F an cw cc eg cm h z a4 d4 f6 m;go_wp2_with fail;exact⟨⟨a+1,(g+1+1+1)::k,by omega,f5,ff,_,_,_,_,_,_,_,_,_,_,_,_,_,_,_,_,_,_,_,_,_,_,rfl⟩,by simp[intOf];omega⟩
  ·obtain rfl:a=n:=by omega
   have h3:¬(a:Int)<(a:Int):=by omega
   obtain⟨c,rfl⟩:∃c,a=c+1:=⟨a-1,by omega⟩;have hS:lj (ns.take (c+1))=lj ns:=by rw[fs (by rw[<-i.out.2.1,dc,i.out.2.2.1];exact ae _)]
   rw[hS]at m;have F:(lj ns).length=c+1:=by rw[pH,<-i.out.2.1,dc,i.out.2.2.1]
   obtain⟨q,E⟩:=bL F (show c<c+1 by omega);have d6:a8=Q:=by have:=m.out.2.1;rw[eB,io]at this;exact this.symm
   have en:(lj ns).getD c 0=q:=by rw[cp,E];rfl
   have b2:=iD m.out.1 d6 en;have hp:d.cell? ⟨w.heap.size+1+1,c,Q⟩=O (.int .i64 q):=by
    rw[m.out.1.row.cellAt c (by omega),ie (by simp;omega),cA,E];rfl
   have ds:=cG m.out.1.bx;have cx:=cG m.out.1.r0;have cy:=cG m.out.1.r1;have fB:d.frozen? ⟨w.heap.size,0,Q⟩=A1:=cC _ _ _ _ _ m.out.1.r0;have fF:d.frozen? ⟨w.heap.size+1,0,Q⟩=A1:=cC _ _ _ _ _ m.out.1.r1;have hu:(c:Int)+1-1=(c:Int):=by omega
   have iy:(0:Int)<=(c:Int):=by omega
   have i1:(c:Int)<(c:Int)+1:=by omega
   clear E en d6 hS m i;go_wp2_with fail;have i2:w.heap.size≠r:=by omega
   have i3:w.heap.size+1≠r:=by omega
   have i4:w.heap.size≠w.heap.size+1+1:=by omega
   have i5:w.heap.size+1≠w.heap.size+1+1:=by omega
   go_region_held3 (fun p=>p.cell? ⟨r,0,Q⟩=O (.slice (O ⟨w.heap.size+1+1,0,Q⟩) (c+1) (c+1))/\p.cell? ⟨w.heap.size+1+1,c,Q⟩=O (.int .i64 q)) (go_keep) (fail)
   all_goals go_wp2_with fail
   have h:=b2.out.1;show LeavesInM _ _ _ _ _ _ (k.map yG) .returning _;refine nI (w.heap.size+1+1+1) k _ (((h.mks.keeps (T _ _ _)).keeps (T _ _ _)).keeps (KeepsOthers.drew _)) (fun b3 z=>?_);have g5:b3.heap[w.heap.size]?=O (.cells #[.int .i64 (c:Int)] 3 (0,0)):=(z.same _ (fun t=>by have:=h.mks.lo _ t;omega)).trans ((aD _ _ _ _ (by simp)).trans (bi _ _ 0 _ _ _ h.r0));have g6:b3.heap[w.heap.size+1]?=O (.cells #[.bool (decide (q<(c:Int)+1))] 4 (0,0)):=(z.same _ (fun t=>by have:=h.mks.lo _ t;omega)).trans (bi _ _ 0 _ _ _ ((aD _ _ _ _ (by simp)).trans h.r1));refine⟨_,vz rfl _ _ _ ⟨w.heap.size,0,Q⟩ ⟨w.heap.size+1,0,Q⟩ _ _ rfl rfl (I9 _ _ _ (cG g5)) (Ed _ _ _ (cG g6)),?_,z.below (((h.bl.setCell (by simp) _).setCell (by simp) _).drew) (fun l hb=>by have:=h.mks.lo l hb;omega) (ae _)⟩;have fv:((c+1:Nat):Int)=(c:Int)+1:=by omega
   rw[b2.out.2.1];simp only[Gi,mj,b2.out.2.2,fv,Int.add_sub_cancel]
