import Derived.Test.YthkcmkmkapijkaaGreatDoorh10
set_option linter.all false
set_option maxRecDepth 100000
set_option maxHeartbeats 12800000
open Go.AllReadyH renaming cons->M,nil->Q
open List renaming set->N,length->Ax
open Go renaming wpAnyH_ready->T
open Go.World renaming setCell->Y
namespace Go.Proofs.YthkcmkmkapijkaaGreatDoor
open Go.RowKit Go.Maps Go.WideMaps
def Sm(E:Pe)(i:Nat)(x:Fo)(k:Nat)(X:Fo)(j:Nat):Prop:=((E.tk k).k≠46/\(E.tk k).k≠47/\k<E.n/\j=k/\X=one (lF 6 (E.tk i) (E.tk<|k-1).t) x)\/
 ∃b Ex a c,((E.tk k).k=46\/(E.tk k).k=47)/\Ls E (CB E) c k b a/\(E.tk a).k=47/\a<E.n/\CLx E (a+1) Ex j/\k<E.n/\j<=E.n/\X=one (nd 5 (E.tk i) (E.tk<|j-1).t 0 ((x.app b).len:Nat) z0 []) ((x.app b).app Ex)
section
variable {W V w : World}
def bdN(w n):Below w.heap.size w (w.drewN n):=⟨R,R,R,eE,λ_ _=>rfl⟩
def ahj(h:Below W.heap.size W V)(k:Below V.heap.size V w):Below W.heap.size W w:=h.trans<|k.mono h.size
end
section
variable {E : Pe} {i j k : Nat}
def ac8{q x X}(b7:q=1\/q=40)(b9:(E.tk i).k=q)(bs:i<E.n)(b2:CB E i x k)(b0:Sm E i x k X j)(b8:i+1<=j):CI E 214 #[pV E] i X j:=by
 intro d L F C a0;have S:=ah C;have bo:(E.tk i).k≠6:=O;have bf:=λA (al:Below d.heap.size d A)=>(Sq.below S al).cells;have t:=λA (al:Below d.heap.size d A)=>(Sq.below S al).tkw bs bo;unfold TkW at t;have ca:=S.lo;have an:=ah b0;have bw:(i:Int)<(E.n:Int):=O;have bt:(0:Int)<=(i:Int):=O;have b1:IntKind.i64.wrap (i:Int)=(i:Int):=by rw[du];omega
 go_in;go_wp2_with fail;refine wp_region_held_drew (S:=λA=>Below d.heap.size d A) J blW (λb=>?_);simp only[mz,dD,jl,Nat.reduceAdd,iC,oF,oH,ga,fh];refine aI 0 (be E.pb 0) R R b (λl h=>by go_simp) ?_;simp only[N];refine aI 1 (be E.pb 0) R R b (λl h=>by go_simp) ?_;simp only[N];refine aI 2 (be E.pb 0) R R b (λl h=>by go_simp) ?_;simp only[N];refine aI 3 (bI E.tb E.n E.cap) R R b (λl h=>by go_simp) ?_;simp only[N];refine aI 4 (be E.pb 0) R R b (λl h=>by go_simp) ?_;simp only[N];refine aI 5 (be E.pb 0) R R b (λl h=>by go_simp) ?_;simp only[N];refine aI 6 (be E.pb 1) R R b (λl h=>by go_simp) ?_;simp only[N];refine aI 7 (zI (i:Int)) R R b (λl h=>by go_simp) ?_;simp only[N];refine aI 8 (be E.tb<|i*6) R R b (λl h=>by go_simp) ?_;simp only[N];refine aI 9 (.agg<|rE (E.tk i).k<|E.tk i) R R b (λl h=>by go_simp) ?_;simp only[N];refine T (rs:=[10,11]) J I<|M R (λz e=>?_)<|M R (λz e=>?_) Q
 case' refine_1=>
  go_simp;refine dd (Gf _ _ (E.tk i) _) λo g=>?_;have a:=ahj blW g;have w:=Sq.box (cs:=ndA 5 0 0 zE0 (E.tk i) s0 s0) (t:=37)<|Sq.below S a;refine e.out _ _ a (λb=>?_);try simp only[cA,cH,cC]
  refine T (rs:=[11]) J I<|M R (λz e=>?_) Q;go_simp;refine e.out _ _ (ahj a<|dj _ _) (λb=>?_);try simp only[cA,cH,cC]
  refine T (rs:=[12]) J I<|M R (λz e=>?_) Q;go_simp;refine e.out _ _ (ahj a<|dj _ _) (λb=>?_);refine wpAnyH_done J ?_ _;generalize o.alloc _=v at w⊢;generalize o.heap.size=ak at w⊢
 case' refine_2=>
  go_simp;have r:=Sq.below (Sq.box (cs:=#[zI 0,zI 0,zI 0,zI 0,zI 0,zI 0,nh,s0,s0]) (t:=37) S) blW;refine e.out _ _ (eC<|dj _ _) (λb=>?_);try simp only[cA,cH,cC]
  refine T (rs:=[10]) J I<|M R (λz e=>?_) Q;go_simp;refine dd (Gf _ _ (E.tk i) _) λo g=>?_;have a:=ahj (eC<|dj d _) g;have p:=Sq.below r g;refine e.out _ _ a (λb=>?_);try simp only[cA,cH,cC]
  have s:=Sq.rd p;refine T (rs:=[12]) J I<|M R (λz e=>?_) Q;go_simp;have w:Hid (Sq E d L F _ i F .nil [] [(d.heap.size,37,ndA 5 0 0 zE0 (E.tk i) s0 s0)] []):=Sq.set (q:=8) (u:=s0)<|Sq.set (q:=7) (u:=s0)<|Sq.set (q:=6) (u:=nh)<|Sq.set (q:=5) (u:=zI 0)<|Sq.set (q:=4) (u:=zI 0)<|Sq.set (q:=3) (u:=zI (E.tk i).l)<|Sq.set (q:=2) (u:=zI 0)<|Sq.set (q:=1) (u:=zI (E.tk i).f)<|Sq.set (q:=0) (u:=zI 5) p;have c:=fG d.heap.size;refine e.out _ _ (((((((((a.setCell c _).setCell c _).setCell c _).setCell c _).setCell c _).setCell c _).setCell c _).setCell c _).setCell c _) (λb=>?_);refine wpAnyH_done J ?_ _;generalize Y _ _ _=v at w⊢;generalize d.heap.size=ak at w⊢
 all_goals
  go_wp2_with fail;have a2:x.sz<=X.sz/\k<E.n:=by
   obtain⟨_,_,C,_,rfl⟩|⟨r,Ex,a6,m,_,_,_,_,_,C,_,rfl⟩:=an.out
   .exact⟨by rw[dh];omega,C⟩
   .exact⟨by rw[dh,Fo.sz_app,Fo.sz_app];omega,C⟩
  refine Sq.cq w b2 O ?_;rintro a _ ad _ _ ⟨c,rfl,rfl,rfl⟩ S;have K:=Sq.ln S;rw[show(Fo.nil.app x)=x from rfl]at K;have bf:=S.cells;have⟨cf,_,t⟩:=S.tok a2.2;have bw:(k:Int)<(E.n:Int):=O;have bt:(0:Int)<=(k:Int):=O;have b1:IntKind.i64.wrap (k:Int)=(k:Int):=by rw[du];omega
  go_wp2_with fail;obtain⟨bl,H,bx,rfl,rfl⟩|⟨r,Ex,a6,m,hkk,bF,H,_,br,_,bx,rfl⟩:=an.out
  .have g:((E.tk j).k !=46)=true:=by simp[bl]
   have o:((E.tk j).k !=47)=true:=by simp[H]
   rw[dh]at a0;go_quiet (fail)
   replace S:=Sq.below S<|bdN a nq;generalize a.drewN nq=a at S⊢;have s:=Sq.rd S;go_wp2_with fail;refine(Sq.add (Sq.litm (m:=a.heap.size) (Sq.set<|Sq.set S) (by simp[Y])) (.inl ⟨R,R⟩) (.inr<|.head _) O).mono ?_;rintro bj a ⟨c,rfl,ad,S⟩;go_wp2;go_ret;exact⟨_,_,_,_,R,⟨_,R,R,R⟩,Sq.fin S⟩
  simp only[dh,Fo.sz_app]at a0 a2;have a9:=ah bF;obtain hkk|hkk:=hkk;all_goals
   rw[hkk]at t;go_quiet (fail)
   replace S:=Sq.below S<|bdN a nq;generalize a.drewN nq=a at S⊢;have s:=Sq.rd S;go_wp2;go_loopg [4] m (λgk b3 wr=>∃(k:Nat) (D af:Fo) (a7:Int) (o:zOA) (n p:Nat) (bb:zLM) (v:zLI),b3=zI a7/\Hid (Ls E (CB E) gk k af a6/\Sq E d L F wr k bb D v [(ak,37,ndA 5 0 (n:Int) zE0 (E.tk i) s0<|.slice o n p)] [(3,.slice o n p,v.map iv)]/\D.app af=x.app r))
   case atStart=>exact⟨k,x,r,c,_,1,1,_,_,R,a9,Sq.litm (m:=a.heap.size) (xs:=[iv c]) (Sq.set<|Sq.set S) (by simp[Y]),R⟩
   case round=>
    obtain⟨_,D,af,a7,o,n,p,_,v,rfl,a8⟩:=hrel;have⟨bk,S,ar⟩:=a8.out;have a4:=congrArg Fo.sz ar;have ax:=ah ar;rw[Fo.sz_app,Fo.sz_app]at a4;have K:=Sq.ln S;have bD:=Sq.rn S;rw[dm]at bD;have bE:=congrArg Ax S.tp;rw[Fo.tops_len]at bE;have cc:=D.len_le;cases bk with
    |stop ao ap=>
     obtain rfl:D=x.app r:=by rw[<-ax.out,Fo.app_nil]
     go_wp2_with fail;refine dd (Sq.isN S (by rw[H];decide)) λa S=>?_;go_wp2_with fail;refine dd (Sq.take S H) λa S=>?_;go_wp2_with fail;refine Sq.cq S br O ?_;rintro a _ bc g _ ⟨bd,bh,rfl,rfl⟩ S;have bA:=Sq.ln S;rw[Fo.sz_app]at bA;have a1:=congrArg Ax S.tp;have bz:=Fo.len_le<|(x.app r).app Ex;rw[Fo.tops_len,aG]at a1;rw[Fo.sz_app]at bz;have⟨y,bn⟩:=aw g.length;rw[bn]at S a1⊢;go_wp2;go_loopw [76] (λam wr=>∃(q p:Nat) (o:zOA),q<=y/\am=zI q/\Hid (Sq E d L F wr j bc ((x.app r).app Ex) (v++g) [(ak,37,ndA 5 0 (n:Int) zE0 (E.tk i) s0<|.slice o (n+q) p)] [(3,.slice o (n+q) p,v.map iv++(g.take q).map iv),(3,.slice bd y bh,g.map iv)])) (λam _=>y-(intOf am).toNat)
     case atStart=>exact⟨0,p,o,leZ,R,by rw[vK,List.map_nil,fp];exact Sq.swap S⟩
     case round=>
      obtain⟨q,p,o,_,rfl,S⟩:=hrel;by_cases cb:q<y
      .obtain⟨b4,a3⟩:∃x,g[q]?=some x:=⟨g[q]'(O),bm _⟩;obtain⟨B,rfl,_⟩:=Sq.at2 S a3;have cd:(0:Int)<=(q:Int):=O;have ce:(q:Int)<(y:Int):=O;have s:=Sq.rd S;go_wp2_with (at_builtin;refine Sq.apG tI S O R R _ _ R R R R ?_;intro B G a S;have s:=Sq.rd S);have ba:Hid (v.map iv++(g.take q).map iv++[zI b4]=v.map iv++(g.take<|q+1).map iv):=by show _=_;rw[gD,a3,ej,fL];rfl
       replace S:=Sq.set (q:=8) (u:=bI B (n+q+1) G) S;rw[ba.out]at S;exact⟨⟨q+1,G,some<|aj B 0,O,by go_num,S⟩,by simp[intOf];omega⟩
      .obtain rfl:q=y:=O;rw[show g.take q=g from ci O,<-ej]at S;replace S:=Sq.less S (show List.Sublist [_] [_,_] from .cons_cons _ (.cons _ .slnil));have s:=Sq.rd S;go_wp2_with fail;refine(Sq.add S (.inl ⟨R,R⟩) (.inr<|.head _) O).mono ?_;rintro bj a ⟨c,rfl,ad,S⟩;go_wp2;go_ret;rw[(O:n=(x.app r).len)]at S;exact⟨_,_,_,_,R,⟨_,R,R,R⟩,Sq.fin S⟩
    |@go ba _ a3 _ bd y ao ap am a1=>
     have g:=ah a1;rw[Fo.sz_app]at a4;have bc:IntKind.i64.wrap ((n:Int)+1)=(n:Int)+1:=by rw[du];omega
     go_wp2_with fail;refine dd (Sq.isY S ao ap) λa S=>?_;go_wp2_with fail;refine Sq.cq S am O ?_;rintro a _ ad _ _ ⟨c,rfl,rfl,rfl⟩ S;have K:=Sq.ln S;rw[Fo.sz_app]at K;have s:=Sq.rd S;go_wp2_with (at_builtin;refine Sq.app S O R _ _ R R R R ?_;intro B G a S;have s:=Sq.rd S);go_roundg ba
     case measure=>omega
     case rel=>exact⟨a3,_,y,c,some<|aj B 0,n+1,G,_,_,R,g,by rw[(O:((n+1:Nat):Int)=(n:Int)+1)];exact Sq.set<|Sq.set S,by rw[Fo.app_app];exact ax⟩
end
