import Derived.Test.YtiaechpcebhcdaaGreatDoorHYk07
set_option linter.all false
set_option maxRecDepth 100000
set_option maxHeartbeats 12800000
namespace Go.Proofs.YtiaechpcebhcdaaGreatDoor
open Go.RowKit Go.Maps Go.WideMaps
variable{R:Fo}{k m:Nat}
def asb(k:Int)(b:jm k=true)(f:k<=78)(w:World):Calls Tryz.prog 209 #[.int .i64 k] w λe c=>e= .returned (.tuple #[.int .i64 (lpw k),.int .i64 (rpw k)])/\c=w:=by
 have d:=be b;have a:k=10\/k=26\/k=61\/k=62\/k=63\/k=64\/k=65\/k=66\/k=67\/k=68\/k=69\/k=70\/k=71\/k=72\/k=73\/k=74\/k=75\/k=76\/k=77\/k=78:=O;rcases a with rfl|rfl|rfl|rfl|rfl|rfl|rfl|rfl|rfl|rfl|rfl|rfl|rfl|rfl|rfl|rfl|rfl|rfl|rfl|rfl;all_goals
  go_in;go_wp2;first
   |(go_ret;exact rr)
   |(go_ret2;exact rr)
def apK{t:Int}{b:Bool}(h:jm t=b)(w:World):Calls Tryz.prog 166 #[.int .i64 t] w λe a=>e= .returned (.bool b)/\a=w:=h ▸ BD w t
inductive Ms (E:Pe) (C:Int->Nat->Fo->Nat->Prop) (p:Int) (s:Tk):Nat->Fo->Nat->Fo->Nat->Prop where
 |stop {x:Fo}{k:Nat}:k<E.n->(jm (E.tk k).k=true->lpw (E.tk k).k<p)->Ms E C p s 0 x k x k
 |go {m k k1 j:Nat}{x y R:Fo}:k<E.n->jm (E.tk k).k=true->p<=lpw (E.tk k).k->C (rpw (E.tk k).k) (k+1) y k1->k+1<=k1->k1<=E.n->Ms E C p s m (one (AK (E.tk k).k s (E.tk (k1-1)).t) (x.app y)) k1 R j->Ms E C p s (m+1) x k R j
def Ms.le{E:Pe}{C:Int->Nat->Fo->Nat->Prop}{p:Int}{s:Tk}{j:Nat}{x:Fo}(h:Ms E C p s m x k R j):x.sz<=R.sz:=by
 induction h with
 |stop=>omega
 |go _ _ _ _ _ _ _ a=>rw[dj,Fo.sz_app]at a;omega
def asd{W:World}{o:Obj}(k j:Nat)(h:k<W.heap.size):(W.alloc o).cell? ⟨k,j,none⟩=W.cell? ⟨k,j,none⟩:=World.cell?_alloc_past _ _ _ h
section
variable {E : Pe} {i j : Nat}
theorem apL{p:Int}{x:Fo}(ak:(E.tk i).k≠6)(an:i<E.n)(o:∀q,(E.tk q).k<=78)(ar:CU E i x k)(A:Ms E (CX E) p (E.tk i) m x k R j):CX E p i R j:=by
 intro f B K af ba;have a:=aj af;have a3:=a.cells;have t:=a.tkw an ak;unfold TkW at t;have bc:=a.lo;have H:=aj A;have bf:=A.le;have a9:(i:Int)<(E.n:Int):=O;have a8:(0:Int)<=(i:Int):=O;have bg:IntKind.i64.wrap (i:Int)=(i:Int):=by rw[bJ];omega
 go_in;go_wp2_with fail;go_region_held3 (λa0=>∀k j,k<f.heap.size->a0.cell? ⟨k,j,none⟩=f.cell? ⟨k,j,none⟩) (first|exact asd|simp_all) (fail)
 replace a:=Sq.below (Sq.box (cs:=qi (E.tk i).k (E.tk i)) (t:=48) a) (bu (ai _ _));generalize World.drew _=d at a⊢;go_wp2_with fail;refine Sq.cq a ar O ?_;rintro d _ u _ _ ⟨g,rfl,rfl,rfl⟩ a;go_wp2;go_loopg [6] m (λgk aL wr=>∃(k:Nat) (l:Fo) (s:Int) (L:List Mb),aL= .int .i64 s/\Hid (Ms E (CX E) p (E.tk i) gk l k R j/\Sq E f B K wr k L l [s] [(f.heap.size,48,qi (E.tk i).k (E.tk i))] []))
 case atStart=>exact⟨k,_,g,_,rfl,H,a⟩
 case round=>
  obtain⟨b,l,s,a1,rfl,F⟩:=hrel;have⟨ag,a⟩:=F.out;cases ag with
  |stop w y=>
   cases c:jm (E.tk j).k with
   |false=>
    go_wp2_with fail;refine dm (Sq.kind a rfl) λd a=>?_;go_wp2_with fail;refine eE (apK c _) ?_;go_wp2;go_ret;exact⟨_,_,_,_,rfl,⟨_,rfl,rfl,rfl⟩,Sq.fin a⟩
   |true=>
    have bd:=y c;go_wp2_with fail;refine dm (Sq.kind a rfl) λd a=>?_;go_wp2_with fail;refine eE (apK c _) ?_;go_wp2_with fail;refine dm (Sq.kind a rfl) λd a=>?_;go_wp2_with fail;refine eE (asb _ c (o _) _) ?_;go_wp2;go_ret;exact⟨_,_,_,_,rfl,⟨_,rfl,rfl,rfl⟩,Sq.fin a⟩
  |@go av _ e _ _ bj a2 w c y ad a6 a7 z=>
   have C:=aj z;have ap:=z.le;rw[dj,Fo.sz_app]at ap;have bb:¬lpw (E.tk b).k<p:=O;have am:(E.tk b).k≠6:=λv=>by rw[v]at c;revert c;decide
   have bh:IntKind.i64.wrap ((E.tk b).k-60)=(E.tk b).k-60:=by rw[bJ];have:=o b;have:(E.tk b).k=10\/(E.tk b).k=26\/60<(E.tk b).k:=be c;omega
   go_wp2_with fail;refine dm (Sq.kind a rfl) λd a=>?_;go_wp2_with fail;refine eE (apK c _) ?_;go_wp2_with fail;refine dm (Sq.kind a rfl) λd a=>?_;go_wp2_with fail;refine eE (asb _ c (o _) _) ?_;go_wp2_with fail;refine dm (Sq.take a rfl w am) λd a=>?_;go_wp2_with fail;refine Sq.cq (Sq.box a) ad (by have:=Sq.ln a;omega) ?_;rintro d _ u _ _ ⟨g,rfl,rfl,rfl⟩ a;have r:=Sq.rd a;have bk:=Sq.rd (Sq.tail a);have ao:=Sq.ln a;rw[Fo.sz_app]at ao;go_wp2_with fail;refine dm (Sq.node a) λd a=>?_;have r:=Sq.rd a;have G:Hid (((E.tk b).k=10\/(E.tk b).k=26)\/((E.tk b).k≠10/\(E.tk b).k≠26)):=by show _\/_;omega
   rcases G.out with(hK|hK)|⟨hK,al⟩
   case' inl.inl=>rw[hK]at r;have h:=aj (show AK (E.tk b).k (E.tk i) (E.tk (e-1)).t=lj 28 (E.tk i) (E.tk (e-1)).t by rw[hK];rfl)
   case' inl.inr=>rw[hK]at r;have h:=aj (show AK (E.tk b).k (E.tk i) (E.tk (e-1)).t=lj 29 (E.tk i) (E.tk (e-1)).t by rw[hK];rfl)
   case' inr=>have a4:=beq_eq_false_iff_ne.2 hK;have a5:=beq_eq_false_iff_ne.2 al;have h:=aj (show AK (E.tk b).k (E.tk i) (E.tk (e-1)).t=nd 31 (E.tk i) (E.tk (e-1)).t ((E.tk b).k-60) 0 z0 [] by unfold AK;grind)
   all_goals
    go_wp2_with fail;refine(Sq.add (Sq.lit1 (Sq.box a)) (.inl ⟨rfl,rfl⟩) (.inr (.head _)) O).mono ?_;rintro v d ⟨g,rfl,u,a⟩;go_wp2;go_roundg av
    case measure=>omega
    case rel=>exact⟨e,_,g,_,rfl,C,by rw[h.out];exact Sq.tail (Sq.tail a)⟩
end
inductive Pss (E:Pe) (C D:Nat->Fo->Nat->Prop) (s:Tk):Nat->Fo->Nat->Fo->Nat->Prop where
 |stop {X:Fo}{k:Nat}:k<E.n->ab6 (E.tk k).k=false->Pss E C D s 0 X k X k
 |dot {m k j:Nat}{X R:Fo}:(E.tk k).k=48->(E.tk (k+1)).k=1->k+2<E.n->Pss E C D s m (one (nd 33 s (E.tk (k+1)).t 0 0 (E.tk (k+1)).x []) X) (k+2) R j->Pss E C D s (m+1) X k R j
 |sq {m k k1 j:Nat}{X Y R:Fo}:(E.tk k).k=44->k<E.n->C (k+1) Y k1->(E.tk k1).k=45->k1+1<E.n->Pss E C D s m (one (lj 32 s (E.tk k1).t) (X.app Y)) (k1+1) R j->Pss E C D s (m+1) X k R j
 |call0 {m k j:Nat}{X R:Fo}:(E.tk k).k=40->(E.tk (k+1)).k=41->k+2<E.n->Pss E C D s m (one (lj 34 s (E.tk (k+1)).t) X) (k+2) R j->Pss E C D s (m+1) X k R j
 |call {m k k1 j:Nat}{X Y R:Fo}:(E.tk k).k=40->k+1<E.n->(E.tk (k+1)).k≠41->D (k+1) Y k1->(E.tk k1).k=41->k1+1<E.n->Pss E C D s m (one (lj 34 s (E.tk k1).t) (X.app Y)) (k1+1) R j->Pss E C D s (m+1) X k R j
def Pss.le{E:Pe}{C D:Nat->Fo->Nat->Prop}{s:Tk}{j:Nat}{X:Fo}(h:Pss E C D s m X k R j):X.sz<=R.sz:=by
 induction h with
 |stop=>omega
 |dot _ _ _ _ a=>rw[dj]at a;omega
 |sq _ _ _ _ _ _ a=>rw[dj,Fo.sz_app]at a;omega
 |call0 _ _ _ _ a=>rw[dj]at a;omega
 |call _ _ _ _ _ _ _ a=>rw[dj,Fo.sz_app]at a;omega
inductive Su (E:Pe) (i:Nat):Int->Fo->Nat->Prop
 |name:Su E i 1 (one (nd 26 (E.tk i) (E.tk i).t 0 0 (E.tk i).x []) .nil) (i+1)
 |held {N:Nd}{ks:Fo}{k:Nat}{q:Int}:CX E 0 (i+1) (one N ks) k->(E.tk k).k=41->i+1<=k->q=34\/q=27->N.k=q->Su E i 40 (one (lj 37 (E.tk i) (E.tk k).t) (one N ks)) (k+1)
 |par {N:Nd}{ks:Fo}{k:Nat}:CX E 0 (i+1) (one N ks) k->(E.tk k).k=41->i+1<=k->(N.k==34)=false->(N.k==27)=false->Su E i 40 (one N ks) (k+1)
section
variable {E : Pe} {W w : World} {G : Option Nat} {L L1 : List Mb} {i j : Nat} {D : Fo} {zs : List Int} {B : Bxs} {R : Rws}
theorem Sq.top{N:Nd}{ks:Fo}{z:Int}(S:Hid (Sq E W G L w i L1 (one N ks) [z] B R)):∃q g cap:Nat,z=(q:Int)/\w.cell? ⟨E.pb,2,none⟩=some (.slice (some ⟨g,0,none⟩) L1.length cap)/\w.cell? ⟨g,q*9,none⟩=some (.int .i64 N.k)/\q<L1.length:=by
 have⟨n,d,a⟩:=S.row;have j:=S.tp;have f:=S.ac.len;have⟨l,c,b,_⟩:=S.ac;have q:(L1.map Mb.N)[L.length+ks.sz]?=some {N with ks:=ks.tops L.length}:=by
  rw[c,fy,b,D9,jr U,dr,Nat.add_sub_cancel_left,jr (by rw[Fo.flat_len];omega),Fo.flat_len,fI];rfl
 rw[dw]at q;have⟨o,h,e⟩:=Option.map_eq_some_iff.1 q;rw[dj]at f;rcases bm a with⟨m,rfl⟩|⟨g,cap,rfl⟩
 .omega
 .exact⟨L.length+ks.sz,g,cap,(rh j).1.symm,by rw[au _ _ _ _ _ _ d];rfl,by rw[(td a h).1,e],O⟩
theorem ajc{a3:Int}{X R:Fo}(ba:(E.tk i).k=a3)(bt:i<E.n)(aL:Su E i a3 X k)(bv:k<E.n)(K:Pss E (CX E 0) (CLx E) (E.tk i) m X k R j):CB E i R j:=by
 intro an ag am A bw;have a:=aj A;have al:=aj K;have y:=K.le;clear A K;cases aL
 case' held A _=>rcases A with rfl|rfl
 all_goals
  simp only[dj,Fo.sz]at y;go_in;go_wp2_with fail;refine dm (Sq.take a ba) λa5 a=>?_;go_wp2_with fail;first
   |(go_at_call 147
     refine dm (Sq.node (Sq.box a)) λb a=>?_;have e:=Sq.rd a;go_wp2_with fail;refine(Sq.add (Sq.box a) (.inl ⟨rfl,rfl⟩) (.inl ⟨rfl,rfl⟩) O).mono ?_;rintro v b ⟨p,rfl,f,a⟩;replace a:=Sq.tail a)
   |(refine Sq.cq (Sq.box a) O (by rw[dj];omega) ?_
     rintro b _ f _ _ ⟨p,rfl,rfl,rfl⟩ a;go_wp2_with fail;refine dm (Sq.take a O) λb a=>?_;have e:=Sq.rd a;have F:=a.cells;have s:=Sq.ln a;rw[show(Fo.nil.app (one _ _))=one _ _ from rfl,dj]at s;obtain⟨q,w,z,rfl,bg,a4,bE⟩:=Sq.top a;have bb:(0:Int)<=(q:Int):=O;have bc:(q:Int)<(f.length:Int):=O
     (try rw[(by rfl:Nd.k _=_)]at a4)
     go_wp2_with fail;try
      go_at_call 147
      refine dm (Sq.node a) λb a=>?_;go_wp2_with fail;refine(Sq.add (Sq.lit1 (Sq.box a)) (.inl ⟨rfl,rfl⟩) (.inr (.head _)) O).mono ?_;rintro v b ⟨p,rfl,f,a⟩;replace a:=Sq.tail a
     clear F bg a4 e)
  (try go_wp2_with fail)
  go_loopg [3] m (λgk bh wr=>∃(k:Nat) (X:Fo) (r L:Int) (a7:List Mb),bh= .int .i64 r/\Hid (Pss E (CX E 0) (CLx E) (E.tk i) gk X k R j/\Sq E an ag am wr k a7 X [r] [(a5.heap.size,48,qi L (E.tk i))] []))
  case atStart=>exact⟨_,_,_,_,_,rfl,al,a⟩
  case round=>
   clear a al;obtain⟨bf,ao,r,L,bk,rfl,ak⟩:=hrel;obtain⟨ar,a⟩:=ak.out;clear ak;have e:=Sq.rd a;have s:=Sq.ln a;have bx:=ar.le;go_wp2_with fail;refine dm (Sq.node a) λbj a=>?_;go_wp2_with fail;cases ar with
   |stop d h=>
    have aL:=jE h;have br:((E.tk j).k==48)=false:=U;have bp:((E.tk j).k==44)=false:=U;have bn:((E.tk j).k==40)=false:=U;refine dm (Sq.kind (Sq.lit1 (Sq.box a)) rfl) λb a=>?_;go_wp2;go_ret;exact⟨_,_,_,_,rfl,⟨_,rfl,rfl,rfl⟩,Sq.fin0 a⟩
   |@dot o _ _ _ _ d h x c=>
    have l:=aj c;clear c;refine dm (Sq.kind (Sq.lit1 (Sq.box a)) d) λb a=>?_;go_wp2_with fail;refine dm (Sq.take a d) λb a=>?_;go_wp2_with fail;refine dm (Sq.take a h) λb a=>?_;have e:=Sq.rd a;go_wp2_with fail;refine(Sq.add (Sq.box (Sq.set a)) (.inl ⟨rfl,rfl⟩) (.inr (.head _)) O).mono ?_;rintro v b ⟨p,rfl,f,a⟩;replace a:=Sq.tail (Sq.tail a);go_wp2;go_roundg o
    case measure=>omega
    case rel=>exact⟨_,_,_,_,_,rfl,l,a⟩
   |@sq o _ a2 _ _ B _ d h x H ap c=>
    have l:=aj c;have y:=c.le;clear c;rw[dj,Fo.sz_app]at y;refine dm (Sq.kind (Sq.lit1 (Sq.box a)) d) λb a=>?_;go_wp2_with fail;refine dm (Sq.take a d) λb a=>?_;go_wp2_with fail;refine Sq.cq a x O ?_;rintro b _ f _ _ ⟨p,rfl,rfl,rfl⟩ a;have s:=Sq.ln a;rw[Fo.sz_app]at s;go_wp2_with fail;refine dm (Sq.take a H) λb a=>?_;have e:=Sq.rd a;go_wp2_with (at_builtin;refine Sq.apG tI (Sq.set a) I rfl rfl _ _ rfl rfl rfl (by simp[World.setCell]) ?_;intro w z b a;have e:=Sq.rd a);refine(Sq.add (Sq.set a) (.inl ⟨rfl,rfl⟩) (.inr (.head _)) O).mono ?_;rintro v b ⟨p,rfl,f,a⟩;replace a:=Sq.tail a;go_wp2;go_roundg o
    case measure=>omega
    case rel=>exact⟨_,_,_,_,_,rfl,l,a⟩
   |@call0 o _ _ _ _ d h x c=>
    have l:=aj c;clear c;refine dm (Sq.kind (Sq.lit1 (Sq.box a)) d) λb a=>?_;go_wp2_with fail;refine dm (Sq.take a d) λb a=>?_;have e:=Sq.rd a;go_wp2_with fail;refine dm (Sq.kind (Sq.set a) h) λb a=>?_;go_wp2_with fail;refine dm (Sq.take a h) λb a=>?_;have e:=Sq.rd a;go_wp2_with fail;refine(Sq.add a (.inl ⟨rfl,rfl⟩) (.inr (.head _)) O).mono ?_;rintro v b ⟨p,rfl,f,a⟩;replace a:=Sq.tail a;go_wp2;go_roundg o
    case measure=>omega
    case rel=>exact⟨_,_,_,_,_,rfl,l,a⟩
   |@call o _ a2 _ _ B _ d h x H ap bs c=>
    have bo:((E.tk (bf+1)).k !=41)=true:=by simp[x]
    have l:=aj c;have y:=c.le;clear c;rw[dj,Fo.sz_app]at y;refine dm (Sq.kind (Sq.lit1 (Sq.box a)) d) λb a=>?_;go_wp2_with fail;refine dm (Sq.take a d) λb a=>?_;have e:=Sq.rd a;go_wp2_with fail;refine dm (Sq.kind (Sq.set a) rfl) λb a=>?_;go_wp2_with fail;refine Sq.cq a H O ?_;rintro b _ f g _ ⟨a8,F,rfl,rfl⟩ a;have s:=Sq.ln a;rw[Fo.sz_app]at s;have a1:=congrArg List.length a.tp;have bd:=Fo.len_le (ao.app B);rw[Fo.tops_len,aB]at a1;rw[Fo.sz_app]at bd;obtain⟨t,a9⟩:=aw g.length;rw[a9]at a a1⊢;go_wp2;go_loopw [95] (λad wr=>∃(q G:Nat) (C:Option Addr),q<=t/\ad= .int .i64 q/\Hid (Sq E an ag am wr a2 f (ao.app B) ([r]++g) [(bj.heap.size,100,ndA 34 0 0 ⟨#[]⟩ (E.tk i) s0 (.slice C (q+1) G)),(a5.heap.size,48,qi L (E.tk i))] [(3,.slice C (q+1) G,iv r::(g.take q).map iv),(3,.slice a8 t F,g.map iv)])) (λad _=>t-(intOf ad).toNat)
    case atStart=>exact⟨0,1,_,nH,rfl,Sq.swap a⟩
    case round=>
     clear a;obtain⟨q,G,C,bD,rfl,a⟩:=hrel;by_cases bA:q<t
     .obtain⟨af,a0⟩:∃af,g[q]?=some af:=⟨g[q]'(O),bi _⟩;obtain⟨w,rfl,bl⟩:=Sq.at2 a a0;have bb:(0:Int)<=(q:Int):=O;have bc:(q:Int)<(t:Int):=O;have e:=Sq.rd a;go_wp2_with (at_builtin;refine Sq.apG tI a O rfl rfl _ _ rfl rfl rfl rfl ?_;intro w z b a;have e:=Sq.rd a);have a6:Hid (iv r::(g.take q).map iv++[Value.int .i64 af]=iv r::(g.take (q+1)).map iv):=by show _=_;rw[il,a0,fy];rfl
      replace a:=Sq.set (q:=8) (u:= .slice (some ⟨w,0,none⟩) (q+1+1) z) a;rw[a6.out]at a;exact⟨⟨q+1,z,some ⟨w,0,none⟩,O,by go_num,a⟩,by simp[intOf];omega⟩
     .obtain rfl:q=t:=O;rw[show g.take q=g from dH O]at a;replace a:=Sq.less a (show List.Sublist [_] [_,_] from .cons_cons _ (.cons _ .slnil));go_wp2_with fail;refine dm (Sq.take a ap) λb a=>?_;have e:=Sq.rd a;go_wp2_with fail;refine(Sq.add a (.inl ⟨rfl,rfl⟩) (.inr (.head _)) O).mono ?_;rintro v b ⟨p,rfl,f,a⟩;replace a:=Sq.tail a;go_wp2;go_roundg o
      case measure=>omega
      case rel=>exact⟨_,_,_,_,_,rfl,l,a⟩
end
