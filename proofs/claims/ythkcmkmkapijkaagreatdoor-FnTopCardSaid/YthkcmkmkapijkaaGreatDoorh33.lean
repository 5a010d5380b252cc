import Derived.Test.YthkcmkmkapijkaaGreatDoorh09
set_option linter.all false
set_option maxRecDepth 100000
set_option maxHeartbeats 12800000
namespace Go.Proofs.YthkcmkmkapijkaaGreatDoor
open Go.RowKit Go.Maps Go.WideMaps
inductive Pss (E:Pe) (C D:Nat->Fo->Nat->Prop) (s:Tk):Nat->Fo->Nat->Fo->Nat->Prop where|stop {X:Fo}{k:Nat}:k<E.n->ww (E.tk k).k=false->Pss E C D s 0 X k X k|dot {m k j:Nat}{X R1:Fo}:(E.tk k).k=48->(E.tk<|k+1).k=1->k+2<E.n->Pss E C D s m (one (nd 33 s (E.tk<|k+1).t 0 0 (E.tk<|k+1).x []) X) (k+2) R1 j->Pss E C D s (m+1) X k R1 j|sq {m k k1 j:Nat}{X Y R1:Fo}:(E.tk k).k=44->k<E.n->C (k+1) Y k1->(E.tk k1).k=45->k1+1<E.n->Pss E C D s m (one (lF 32 s (E.tk k1).t)<|X.app Y) (k1+1) R1 j->Pss E C D s (m+1) X k R1 j|call0 {m k j:Nat}{X R1:Fo}:(E.tk k).k=40->(E.tk<|k+1).k=41->k+2<E.n->Pss E C D s m (one (lF 34 s (E.tk<|k+1).t) X) (k+2) R1 j->Pss E C D s (m+1) X k R1 j|call {m k k1 j:Nat}{X Y R1:Fo}:(E.tk k).k=40->k+1<E.n->(E.tk<|k+1).k≠41->D (k+1) Y k1->(E.tk k1).k=41->k1+1<E.n->Pss E C D s m (one (lF 34 s (E.tk k1).t)<|X.app Y) (k1+1) R1 j->Pss E C D s (m+1) X k R1 j
def Pss.le{E C D s m k j X R1}(h:Pss E C D s m X k R1 j):X.sz<=R1.sz:=by
 induction h with
 |stop=>omega|dot _ _ _ _ a=>rw[dh]at a;omega|sq _ _ _ _ _ _ a=>rw[dh,Fo.sz_app]at a;omega|call0 _ _ _ _ a=>rw[dh]at a;omega|call _ _ _ _ _ _ _ a=>rw[dh,Fo.sz_app]at a;omega
inductive Su (E:Pe) (i:Nat):Int->Fo->Nat->Prop|name:Su E i 1 (one (nd 26 (E.tk i) (E.tk i).t 0 0 (E.tk i).x []) .nil) (i+1)|held {N:Nd}{ks:Fo}{k:Nat}{q:Int}:CX E 0 (i+1) (one N ks) k->(E.tk k).k=41->i+1<=k->q=34\/q=27->N.k=q->Su E i 40 (one (lF 37 (E.tk i) (E.tk k).t)<|one N ks) (k+1)|par {N:Nd}{ks:Fo}{k:Nat}:CX E 0 (i+1) (one N ks) k->(E.tk k).k=41->i+1<=k->(N.k==34)=false->(N.k==27)=false->Su E i 40 (one N ks) (k+1)
section
variable {E : Pe} {W w : World} {G : zON} {L L1 : zLM} {i j : Nat} {D : Fo} {zs : zLI} {B : Bxs} {R1 : Rws}
theorem Sq.top{N ks z}(S:Hid (Sq E W G L w i L1 (one N ks) [z] B R1)):∃q g a:Nat,z=(q:Int)/\w.cell? (aj E.pb 2)=some (bI g L1.length a)/\w.cell? (aj g<|q*9)=some (zI N.k)/\q<L1.length:=by
 have⟨_,e,b⟩:=S.row;have l:=S.tp;have h:=S.ac.len;have⟨_,d,c,_⟩:=S.ac;have q:(L1.map Mb.N)[L.length+ks.sz]?=some {N with ks:=ks.tops L.length}:=by
  rw[d,ej,c,Cz,jI U,dm,Nat.add_sub_cancel_left,jI (by rw[Fo.flat_len];omega),Fo.flat_len,iI];rfl
 rw[cJ]at q;have⟨_,j,f⟩:=Option.map_eq_some_iff.1 q;rw[dh]at h;obtain⟨_,rfl⟩|⟨g,a,rfl⟩:=aC b
 .omega
 .exact⟨_,g,a,(mD l).1.symm,crV e,by rw[(qa b j).1,f],O⟩
theorem amo{a4 X R1 k m}(bb:(E.tk i).k=a4)(bw:i<E.n)(a0:Su E i a4 X k)(bx:k<E.n)(K:Pss E (CX E 0) (CLx E) (E.tk i) m X k R1 j):CB E i R1 j:=by
 intro ao ak an A _;have a:=ah A;have am:=ah K;have y:=K.le;clear A K;cases a0
 case' held A _=>obtain rfl|rfl:=A
 all_goals
  simp only[dh,Fo.sz]at y;go_in;go_wp2_with fail;refine dd (Sq.take a bb) λa6 a=>?_;go_wp2_with fail;first
   |(go_at_call 216
     refine dd (Sq.node<|Sq.box a) λb a=>?_;have e:=Sq.rd a;go_wp2_with fail;refine(Sq.add (Sq.box a) (.inl ⟨R,R⟩) (.inl ⟨R,R⟩) O).mono ?_;rintro v b ⟨p,rfl,f,a⟩;replace a:=Sq.tail a)
   |(refine Sq.cq (Sq.box a) O (by rw[dh];omega) ?_
     rintro b _ f _ _ ⟨p,rfl,rfl,rfl⟩ a;go_wp2_with fail;refine dd (Sq.take a O) λb a=>?_;have e:=Sq.rd a;have F:=a.cells;have s:=Sq.ln a;rw[show(Fo.nil.app<|one _ _)=one _ _ from rfl,dh]at s;obtain⟨q,w,z,rfl,bj,a5,_⟩:=Sq.top a;have bc:(0:Int)<=(q:Int):=O;have bd:(q:Int)<(f.length:Int):=O
     (try rw[(by rfl:Nd.k _=_)]at a5)
     go_wp2_with fail;try
      go_at_call 216
      refine dd (Sq.node a) λb a=>?_;go_wp2_with fail;refine(Sq.add (Sq.lit1<|Sq.box a) (.inl ⟨R,R⟩) (.inr<|.head _) O).mono ?_;rintro v b ⟨p,rfl,f,a⟩;replace a:=Sq.tail a
     clear F bj a5 e)
  (try go_wp2_with fail)
  go_loopg [3] m (λgk bk wr=>∃(k:Nat) (X:Fo) (r L:Int) (a8:zLM),bk=zI r/\Hid (Pss E (CX E 0) (CLx E) (E.tk i) gk X k R1 j/\Sq E ao ak an wr k a8 X [r] [(a6.heap.size,58,rE L<|E.tk i)] []))
  case atStart=>exact⟨_,_,_,_,_,R,am,a⟩
  case round=>
   clear a am;obtain⟨bh,ap,r,L,_,rfl,al⟩:=hrel;have⟨ax,a⟩:=al.out;clear al;have e:=Sq.rd a;have s:=Sq.ln a;have bz:=ax.le;go_wp2_with fail;refine dd (Sq.node a) λbl a=>?_;go_wp2_with fail;cases ax with
   |stop d h=>
    have a0:=jJ h;have bs:((E.tk j).k==48)=false:=U;have br:((E.tk j).k==44)=false:=U;have bn:((E.tk j).k==40)=false:=U;refine dd (Sq.kind (Sq.lit1<|Sq.box a) R) λb a=>?_;go_wp2;go_ret;exact⟨_,_,_,_,R,⟨_,R,R,R⟩,Sq.fin0 a⟩|@dot o _ _ _ _ d h x c=>
    have l:=ah c;clear c;refine dd (Sq.kind (Sq.lit1<|Sq.box a) d) λb a=>?_;go_wp2_with fail;refine dd (Sq.take a d) λb a=>?_;go_wp2_with fail;refine dd (Sq.take a h) λb a=>?_;have e:=Sq.rd a;go_wp2_with fail;refine(Sq.add (Sq.box<|Sq.set a) (.inl ⟨R,R⟩) (.inr<|.head _) O).mono ?_;rintro v b ⟨p,rfl,f,a⟩;replace a:=Sq.tail<|Sq.tail a;go_wp2;go_roundg o
    case measure=>omega
    case rel=>exact⟨_,_,_,_,_,R,l,a⟩
   |@sq o _ a3 _ _ B _ d h x H ar c=>
    have l:=ah c;have y:=c.le;clear c;rw[dh,Fo.sz_app]at y;refine dd (Sq.kind (Sq.lit1<|Sq.box a) d) λb a=>?_;go_wp2_with fail;refine dd (Sq.take a d) λb a=>?_;go_wp2_with fail;refine Sq.cq a x O ?_;rintro b _ f _ _ ⟨p,rfl,rfl,rfl⟩ a;have s:=Sq.ln a;rw[Fo.sz_app]at s;go_wp2_with fail;refine dd (Sq.take a H) λb a=>?_;have e:=Sq.rd a;go_wp2_with (at_builtin;refine Sq.apG tI (Sq.set a) I R R _ _ R R R (by simp[World.setCell]) ?_;intro w z b a;have e:=Sq.rd a);refine(Sq.add (Sq.set a) (.inl ⟨R,R⟩) (.inr<|.head _) O).mono ?_;rintro v b ⟨p,rfl,f,a⟩;replace a:=Sq.tail a;go_wp2;go_roundg o
    case measure=>omega
    case rel=>exact⟨_,_,_,_,_,R,l,a⟩
   |@call0 o _ _ _ _ d h x c=>
    have l:=ah c;clear c;refine dd (Sq.kind (Sq.lit1<|Sq.box a) d) λb a=>?_;go_wp2_with fail;refine dd (Sq.take a d) λb a=>?_;have e:=Sq.rd a;go_wp2_with fail;refine dd (Sq.kind (Sq.set a) h) λb a=>?_;go_wp2_with fail;refine dd (Sq.take a h) λb a=>?_;have e:=Sq.rd a;go_wp2_with fail;refine(Sq.add a (.inl ⟨R,R⟩) (.inr<|.head _) O).mono ?_;rintro v b ⟨p,rfl,f,a⟩;replace a:=Sq.tail a;go_wp2;go_roundg o
    case measure=>omega
    case rel=>exact⟨_,_,_,_,_,R,l,a⟩
   |@call o _ a3 _ _ B _ d h x H ar bt c=>
    have bo:((E.tk<|bh+1).k !=41)=true:=by simp[x]
    have l:=ah c;have y:=c.le;clear c;rw[dh,Fo.sz_app]at y;refine dd (Sq.kind (Sq.lit1<|Sq.box a) d) λb a=>?_;go_wp2_with fail;refine dd (Sq.take a d) λb a=>?_;have e:=Sq.rd a;go_wp2_with fail;refine dd (Sq.kind (Sq.set a) R) λb a=>?_;go_wp2_with fail;refine Sq.cq a H O ?_;rintro b _ f g _ ⟨a9,F,rfl,rfl⟩ a;have s:=Sq.ln a;rw[Fo.sz_app]at s;have a2:=congrArg List.length a.tp;have bf:=Fo.len_le<|ap.app B;rw[Fo.tops_len,aG]at a2;rw[Fo.sz_app]at bf;have⟨t,ba⟩:=aw g.length;rw[ba]at a a2⊢;go_wp2;go_loopw [95] (λad wr=>∃(q G:Nat) (C:zOA),q<=t/\ad=zI q/\Hid (Sq E ao ak an wr a3 f (ap.app B) ([r]++g) [(bl.heap.size,37,ndA 34 0 0 zE0 (E.tk i) s0<|.slice C (q+1) G),(a6.heap.size,58,rE L<|E.tk i)] [(3,.slice C (q+1) G,iv r::(g.take q).map iv),(3,.slice a9 t F,g.map iv)])) (λad _=>t-(intOf ad).toNat)
    case atStart=>exact⟨0,1,_,leZ,R,Sq.swap a⟩
    case round=>
     clear a;obtain⟨q,G,C,_,rfl,a⟩:=hrel;by_cases bA:q<t
     .obtain⟨af,a1⟩:∃af,g[q]?=some af:=⟨g[q]'(O),bm _⟩;obtain⟨w,rfl,_⟩:=Sq.at2 a a1;have bc:(0:Int)<=(q:Int):=O;have bd:(q:Int)<(t:Int):=O;have e:=Sq.rd a;go_wp2_with (at_builtin;refine Sq.apG tI a O R R _ _ R R R R ?_;intro w z b a;have e:=Sq.rd a);have a7:Hid (iv r::(g.take q).map iv++[zI af]=iv r::(g.take<|q+1).map iv):=by show _=_;rw[gD,a1,ej];rfl
      replace a:=Sq.set (q:=8) (u:=bI w (q+1+1) z) a;rw[a7.out]at a;exact⟨⟨q+1,z,some<|aj w 0,O,by go_num,a⟩,by simp[intOf];omega⟩
     .obtain rfl:q=t:=O;rw[show g.take q=g from ci O]at a;replace a:=Sq.less a (show List.Sublist [_] [_,_] from .cons_cons _ (.cons _ .slnil));go_wp2_with fail;refine dd (Sq.take a ar) λb a=>?_;have e:=Sq.rd a;go_wp2_with fail;refine(Sq.add a (.inl ⟨R,R⟩) (.inr<|.head _) O).mono ?_;rintro v b ⟨p,rfl,f,a⟩;replace a:=Sq.tail a;go_wp2;go_roundg o
      case measure=>omega
      case rel=>exact⟨_,_,_,_,_,R,l,a⟩
end
