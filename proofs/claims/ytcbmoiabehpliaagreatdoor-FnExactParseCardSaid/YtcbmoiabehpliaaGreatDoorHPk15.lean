import Derived.Test.YtcbmoiabehpliaaGreatDoorHPk01
import Derived.Test.YtcbmoiabehpliaaGreatDoorHPk13
import Derived.Deep.RegionHeld3
import Derived.Test.YtcbmoiabehpliaaGreatDoorHPk08
import Derived.Test.YtcbmoiabehpliaaGreatDoorHPk09
set_option linter.unusedVariables false
set_option maxRecDepth 100000
set_option maxHeartbeats 6400000
namespace Go.Proofs.YtcbmoiabehpliaaGreatDoor
open Go.RowKit Go.Maps Go.WideMaps
structure tT (s:ByteArray) (f p:Nat) (a:List Int) (R:Bool×Nat×List Int):Prop where
 out:bX s f p a=R
def qA(p:Nat)(R:Bool×Nat×List Int):Value:=if R.1=true then .agg #[.int .i64 4,.int .i64 p,.int .i64 (R.2.1:Int),.int .i64 0,.int .i64 0,.string (kZ R.2.2)] else .agg #[.int .i64 4,.int .i64 p,.int .i64 0,.int .i64 0,.int .i64 0,.string ⟨#[]⟩]
def tU(R:Bool×Nat×List Int):Int:=if R.1=true then -1 else(R.2.1:Int)
theorem qB{p a:Nat}{c:List Int}{R:Bool×Nat×List Int}(h:(true,a,c)=R):(Ending.returned (.tuple #[.agg #[.int .i64 4,.int .i64 p,.int .i64 (a:Int),.int .i64 0,.int .i64 0,.string (kZ c)],.int .i64 (-1)]))= .returned (.tuple #[qA p R,.int .i64 (tU R)]):=by
 subst h;rfl
theorem iu{p a:Nat}{c:List Int}{R:Bool×Nat×List Int}(h:(false,a,c)=R):(Ending.returned (.tuple #[.agg #[.int .i64 4,.int .i64 p,.int .i64 0,.int .i64 0,.int .i64 0,.string ⟨#[]⟩],.int .i64 (a:Int)]))= .returned (.tuple #[qA p R,.int .i64 (tU R)]):=by
 subst h;rfl
theorem rB(s:ByteArray)(cP:s.size<=70000)(p:Nat)(cl:p<s.size)(w:World):Calls Tryz.prog 85 #[.string s,.agg #[.int .i64 0,.int .i64 p,.int .i64 0,.int .i64 0,.int .i64 0,.string ⟨#[]⟩]] w fun e bt=>
  e= .returned (.tuple #[qA p (bX s (s.size+1) (p+1) []),.int .i64 (tU (bX s (s.size+1) (p+1) []))])/\Below w.heap.size w bt:=by
 obtain⟨F,am⟩:=ah (bX s (s.size+1) (p+1) []);rw[am];have b9:tT s (s.size+1) (p+1) [] F:=⟨am⟩;clear am;go_in;go_wp2_with fail;go_loopw [6,7,8,9] (fun av bN ct c4 wr=>∃(b l i:Nat) (g:List Int),av= .int .i64 b/\aO w.heap.size wr 4 p 0 0 0 ⟨#[]⟩/\aO (w.heap.size+1) wr 0 0 0 0 0 ⟨#[]⟩/\wr.ownsRow (w.heap.size+2) 5 1 bN l (B8 g)/\s.size<b+i/\b<=s.size/\l<=b/\tT s i b g F/\Below w.heap.size w wr/\w.heap.size+2<=wr.heap.size) (fun av _ _ _ _=>s.size-(intOf av).toNat)
 case atStart=>
  have b4:aO (w.heap.size+1) ((w.alloc (.cells #[.int .i64 4,.int .i64 p,.int .i64 0,.int .i64 0,.int .i64 0,.string ⟨#[]⟩] 45)).alloc (.cells #[.int .i64 0,.int .i64 0,.int .i64 0,.int .i64 0,.int .i64 0,.string ⟨#[]⟩] 45)) 0 0 0 0 0 ⟨#[]⟩:=by
   have:=heap_alloc_new (w.alloc (.cells #[.int .i64 4,.int .i64 p,.int .i64 0,.int .i64 0,.int .i64 0,.string ⟨#[]⟩] 45)) (.cells #[.int .i64 0,.int .i64 0,.int .i64 0,.int .i64 0,.int .i64 0,.string ⟨#[]⟩] 45);rw[World.size_alloc]at this;exact this
  exact⟨p+1,0,s.size+1,[],by go_num,(Below.heap_alloc _ _ _ (by simp)).trans (heap_alloc_new w _),b4,World.ownsRow_nil _ _ _ _,by omega,by omega,by omega,b9,((Below.refl _ w).alloc (Nat.le_refl _) _).alloc (by simp) _,by simp⟩
 case round=>
  obtain⟨b,l,i,g,rfl,M,K,A,c8,c1,cg,bo,o,r⟩:=hrel;obtain⟨cv,cb,cs,cF,cr,cf,cI⟩:=aw M;obtain⟨z0,O,N,L,Q,I,cz⟩:=aw K;obtain⟨i,rfl⟩:∃E,i=E+1:=⟨i-1,by omega⟩;have c:=bo.out;unfold bX at c;clear bo;by_cases bk:b<s.size
  ·have bD:=dj bk;have bA:=fun w=>aI bk w;have c0:(b:Int)<(s.size:Int):=by omega
   rw[if_neg (by omega)]at c;obtain⟨B,bb⟩:=ah (ae s b);rw[bb]at bD bA c;clear bb;by_cases Z:B=34
   ·subst Z;rw[if_pos rfl]at c;have f:=ab c;clear c;rcases A.2 with⟨rfl,b0⟩|⟨E,U,cn,rfl,cq⟩
    ·have bd:g=[]:=by have:=qP A;rw[b0]at this;exact List.eq_nil_of_length_eq_zero this
     have b5:=ab bd;clear bd;have b1:=sK;go_wp2_with fail;refine bodyPost_ret (v:= .tuple #[.agg #[.int .i64 4,.int .i64 p,.int .i64 ((b:Int)+1),.int .i64 0,.int .i64 0,.string ByteArray.empty],.int .i64 (-1)]) (by simp[results,Tryz.results85,go_sem,z0,O,N,L,Q,I]) rfl ⟨by have h:=f.out;rw[b5.out]at h;exact qB h,?_⟩
     iterate 8 refine Below.setCell ?_ (by simp) _
     exact o
    ·have b1:=ng (ownsRow_setCell_below (a:=⟨w.heap.size,2,none⟩) A (by simp) (.int .i64 ((b:Int)+1)));go_wp2_with fail;refine bodyPost_ret (v:= .tuple #[.agg #[.int .i64 4,.int .i64 p,.int .i64 ((b:Int)+1),.int .i64 0,.int .i64 0,.string (kZ g)],.int .i64 (-1)]) (by simp[results,Tryz.results85,go_sem,z0,O,N,L,Q,I]) rfl ⟨qB f.out,?_⟩
     iterate 8 refine Below.setCell ?_ (by simp) _
     exact o
   rw[if_neg Z]at c;have cN:(B==34)=false:=by simp[Z]
   by_cases Y:B=10
   ·subst Y;rw[if_pos rfl]at c;have f:=ab c;clear c;go_wp2_with fail;refine bodyPost_ret (v:= .tuple #[.agg #[.int .i64 4,.int .i64 p,.int .i64 0,.int .i64 0,.int .i64 0,.string ⟨#[]⟩],.int .i64 (b:Int)]) (by simp[results,Tryz.results85,go_sem,z0,O,N,L,Q,I]) rfl ⟨iu f.out,?_⟩
    iterate 6 refine Below.setCell ?_ (by simp) _
    exact o
   rw[if_neg Y]at c;have c5:(B==10)=false:=by simp[Y]
   by_cases al:B=92
   ·subst al;rw[if_pos rfl]at c;clear Z Y;have j:=fun w=>bS s (by omega) ((b:Int)+1) (b+1) (by omega) w;by_cases k:ae s (b+1)=110
    ·have u:=aS k (by omega);rw[show dx s (b+1)=(10,b+1+1,true) by unfold dx;rw[if_pos k],if_pos rfl]at c;rw[gC u,k]at j;have f:tT s i (b+1+1) (g++[10]) F:=⟨c⟩;clear c k;go_wp2_with (first|(go_at_call 80;refine bc (j _) ?_)|(at_builtin;refine kY rfl (.tmp 51) (.tmp 52) rfl (w.heap.size+2) _ l g rfl A r (by omega) [10] 1 rfl (by decide) (by decide) _ rfl rfl ?_;intro E U W t d));go_roundw
     case rel=>exact⟨b+1+1,l+1,i,g++[10],by go_num,M.below d (by omega),K.below d (by omega),t,by omega,by omega,by omega,f,o.trans (d.mono (by omega)),Nat.le_trans r d.size⟩
     case measure=>simp[intOf];omega
    by_cases m:ae s (b+1)=116
    ·have u:=aS m (by omega);rw[show dx s (b+1)=(9,b+1+1,true) by unfold dx;rw[if_neg k,if_pos m],if_pos rfl]at c;rw[gC u,m]at j;have f:tT s i (b+1+1) (g++[9]) F:=⟨c⟩;clear c k m;go_wp2_with (first|(go_at_call 80;refine bc (j _) ?_)|(at_builtin;refine kY rfl (.tmp 56) (.tmp 57) rfl (w.heap.size+2) _ l g rfl A r (by omega) [9] 1 rfl (by decide) (by decide) _ rfl rfl ?_;intro E U W t d));go_roundw
     case rel=>exact⟨b+1+1,l+1,i,g++[9],by go_num,M.below d (by omega),K.below d (by omega),t,by omega,by omega,by omega,f,o.trans (d.mono (by omega)),Nat.le_trans r d.size⟩
     case measure=>simp[intOf];omega
    by_cases q:ae s (b+1)=34
    ·have u:=aS q (by omega);rw[show dx s (b+1)=(34,b+1+1,true) by unfold dx;rw[if_neg k,if_neg m,if_pos (Or.inl q),q],if_pos rfl]at c;rw[gC u,q]at j;have ap:=fun w=>jQ u w;rw[q]at ap;have f:tT s i (b+1+1) (g++[34]) F:=⟨c⟩;clear c k m q;go_wp2_with (first|(go_at_call 80;refine bc (j _) ?_)|(at_builtin;refine kY rfl (.tmp 62) (.tmp 66) rfl (w.heap.size+2) _ l g rfl A r (by omega) [34] 1 rfl (by decide) (by decide) _ rfl rfl ?_;intro E U W t d));go_roundw
     case rel=>exact⟨b+1+1,l+1,i,g++[34],by go_num,M.below d (by omega),K.below d (by omega),t,by omega,by omega,by omega,f,o.trans (d.mono (by omega)),Nat.le_trans r d.size⟩
     case measure=>simp[intOf];omega
    by_cases y:ae s (b+1)=92
    ·have u:=aS y (by omega);rw[show dx s (b+1)=(92,b+1+1,true) by unfold dx;rw[if_neg k,if_neg m,if_pos (Or.inr y),y],if_pos rfl]at c;rw[gC u,y]at j;have ap:=fun w=>jQ u w;rw[y]at ap;have f:tT s i (b+1+1) (g++[92]) F:=⟨c⟩;clear c k m q y;go_wp2_with (first|(go_at_call 80;refine bc (j _) ?_)|(at_builtin;refine kY rfl (.tmp 62) (.tmp 66) rfl (w.heap.size+2) _ l g rfl A r (by omega) [92] 1 rfl (by decide) (by decide) _ rfl rfl ?_;intro E U W t d));go_roundw
     case rel=>exact⟨b+1+1,l+1,i,g++[92],by go_num,M.below d (by omega),K.below d (by omega),t,by omega,by omega,by omega,f,o.trans (d.mono (by omega)),Nat.le_trans r d.size⟩
     case measure=>simp[intOf];omega
    by_cases R:ae s (b+1)=120
    ·have u:=aS R (by omega);rw[gC u,R]at j;have bs:dx s (b+1)=pA s (b+1+1):=by unfold dx;rw[if_neg k,if_neg m,if_neg (fun h=>h.elim q y),if_pos R]
     rw[bs]at c;unfold pA at c;have C:=fun w=>bS s (by omega) ((b:Int)+1+1) (b+1+1) (by omega) w;have J:=fun w=>bS s (by omega) ((b:Int)+1+2) (b+1+1+1) (by omega) w;have X:=xB s (b+1+1);have V:=xB s (b+1+1+1);have n:=fun w=>lg (lk s (b+1+1)) X.1 X.2 w;have z:=fun w=>lg (lk s (b+1+1+1)) V.1 V.2 w;rw[xG]at n z;have a6:=ej (ae s (b+1+1));have a7:=ej (ae s (b+1+1+1));clear bs k m q y R;by_cases S:bT (ae s (b+1+1))<0
     ·rw[if_pos S,if_neg (by simp)]at c;have f:=ab c;generalize lk s (b+1+1)=a9 at C n;generalize bT (ae s (b+1+1))=x at n S;clear c J z a6 a7 X V;go_wp2_with (go_at_call 80;refine bc (j _) ?_);refine wp_loop_rounds 3 ?_;rw[rounds_succ];clear j;go_wp2_with (first|(go_at_call 80;refine bc (C _) ?_)|(go_at_call 147;refine bc (n _) ?_));refine bodyPost_ret (v:= .tuple #[.agg #[.int .i64 4,.int .i64 p,.int .i64 0,.int .i64 0,.int .i64 0,.string ⟨#[]⟩],.int .i64 ((b:Int)+1+1)]) (by simp[results,Tryz.results85,go_sem,z0,O,N,L,Q,I]) rfl ⟨iu f.out,?_⟩
      iterate 6 refine Below.setCell ?_ (by simp) _
      exact o
     rw[if_neg S]at c;have br:0<=bT (ae s (b+1+1)):=by omega
     by_cases T:bT (ae s (b+1+1+1))<0
     ·rw[if_pos T,if_neg (by simp)]at c;have f:=ab c;generalize lk s (b+1+1)=a9 at C n;generalize bT (ae s (b+1+1))=x at n S br;generalize lk s (b+1+1+1)=bE at J z;generalize bT (ae s (b+1+1+1))=H at z T;clear c a6 a7 X V;go_wp2_with (go_at_call 80;refine bc (j _) ?_);refine wp_loop_rounds 3 ?_;rw[rounds_succ];clear j;go_wp2_with (first|(go_at_call 80;refine bc (C _) ?_)|(go_at_call 147;refine bc (n _) ?_));rw[rounds_succ];clear C n;go_wp2_with (first|(go_at_call 80;refine bc (J _) ?_)|(go_at_call 147;refine bc (z _) ?_));refine bodyPost_ret (v:= .tuple #[.agg #[.int .i64 4,.int .i64 p,.int .i64 0,.int .i64 0,.int .i64 0,.string ⟨#[]⟩],.int .i64 ((b:Int)+1+2)]) (by simp[results,Tryz.results85,go_sem,z0,O,N,L,Q,I]) rfl ⟨by have h:=iu (p:=p) f.out;rw[show((b+1+1+1:Nat):Int)=(b:Int)+1+2 by omega]at h;exact h,?_⟩
      iterate 6 refine Below.setCell ?_ (by simp) _
      exact o
     have ak:b+1+1<s.size:=by
      rcases Nat.lt_or_ge (b+1+1) s.size with h|h
      ·exact h
      ·rw[aX (by omega)]at S;exact absurd (by decide) S
     have ao:b+1+1+1<s.size:=by
      rcases Nat.lt_or_ge (b+1+1+1) s.size with h|h
      ·exact h
      ·rw[aX (by omega)]at T;exact absurd (by decide) T
     have a8:=fun w=>aI ak w;have ar:=fun w=>aI ao w;rw[show((b+1+1:Nat):Int)=(b:Int)+1+1 by omega]at a8;rw[show((b+1+1+1:Nat):Int)=(b:Int)+1+2 by omega]at ar;rw[if_neg T,if_pos rfl]at c;rw[gC ak]at C n;rw[gC ao]at J z;have b6:0<=bT (ae s (b+1+1+1)):=by omega
     have f:tT s i (b+1+1+1+1) (g++[bT (ae s (b+1+1))*16+bT (ae s (b+1+1+1))]) F:=⟨c⟩;clear c X V;have ca:=dj ak;have b7:=dj ao;generalize bT (ae s (b+1+1))=x at n S br a6 f;generalize bT (ae s (b+1+1+1))=H at z T b6 a7 f;generalize ae s (b+1+1)=a9 at C n a8 ca;generalize ae s (b+1+1+1)=bE at J z ar b7;rw[show x*16+H=16*x+H by omega]at f;go_wp2_with (go_at_call 80;refine bc (j _) ?_);refine wp_loop_rounds 3 ?_;rw[rounds_succ];clear j;go_wp2_with (first|(go_at_call 80;refine bc (C _) ?_)|(go_at_call 147;refine bc (n _) ?_));rw[rounds_succ];clear C;go_wp2_with (first|(go_at_call 80;refine bc (J _) ?_)|(go_at_call 147;refine bc (z _) ?_));rw[rounds_succ];clear J;go_wp2_with fail;obtain⟨G,an⟩:∃G:Int,(b:Int)+1=G:=⟨_,rfl⟩;rw[an]at a8 ar⊢;have b8:=ab an;have c6:IntKind.i64.wrap (G+1)=G+1:=IntWalk.i64_in _ (by omega);have cw:IntKind.i64.wrap (G+2)=G+2:=IntWalk.i64_in _ (by omega);have cm:IntKind.i64.wrap (16*x)=16*x:=IntWalk.i64_in _ (by omega);have cc:IntKind.i64.wrap (16*x+H)=16*x+H:=IntWalk.i64_in _ (by omega);have c7:IntKind.u8.wrap (16*x+H)=16*x+H:=IntWalk.u8_in _ (by omega);have ck:0<=G:=by omega
     have ch:G<=70001:=by omega
     clear an bA;go_region_held3 (fun bt=>True) (trivial) ((first|(go_at_call 147;with_reducible refine bc (n _) ?_)|(go_at_call 147;with_reducible refine bc (z _) ?_)|(refine DC (by rfl) _ _ (by rfl) (w.heap.size+2) _ l g (by rfl) A r (by omega) [_] 1 (by rfl) (by decide) (by decide) _ (by rfl) (by rfl) ?_;intro E U W t d)))
     all_goals
      go_wp2_with fail;have cB:=b8.out;exact⟨⟨b+1+1+1+1,l+1,i,g++[16*x+H],by congr 1<;>omega,M.below d (by omega),K.below d (by omega),t,by omega,by omega,by omega,f,o.trans (d.mono (by omega)),Nat.le_trans r d.size⟩,by simp[intOf];omega⟩
    rw[show dx s (b+1)=(0,b+1,false) by unfold dx;rw[if_neg k,if_neg m,if_neg (fun h=>h.elim q y),if_neg R],if_neg (by simp)]at c;have f:=ab c;have bw:=ip s (b+1) 110 (by omega);have bh:=ip s (b+1) 116 (by omega);have bn:=ip s (b+1) 34 (by omega);have bx:=ip s (b+1) 92 (by omega);have bl:=ip s (b+1) 120 (by omega);rw[decide_eq_false k]at bw;rw[decide_eq_false m]at bh;rw[decide_eq_false q]at bn;rw[decide_eq_false y]at bx;rw[decide_eq_false R]at bl;generalize lk s (b+1)=cT at j bw bh bn bx bl;clear c k m q y R;go_wp2_with (go_at_call 80;refine bc (j _) ?_);refine bodyPost_ret (v:= .tuple #[.agg #[.int .i64 4,.int .i64 p,.int .i64 0,.int .i64 0,.int .i64 0,.string ⟨#[]⟩],.int .i64 ((b:Int)+1)]) (by simp[results,Tryz.results85,go_sem,z0,O,N,L,Q,I]) rfl ⟨iu f.out,?_⟩
    iterate 6 refine Below.setCell ?_ (by simp) _
    exact o
   rw[if_neg al]at c;have cx:(B==92)=false:=by simp[al]
   have f:tT s i (b+1) (g++[B]) F:=⟨c⟩;clear c;go_wp2_with (at_builtin;refine kY rfl (.tmp 36) (.tmp 38) rfl (w.heap.size+2) _ l g rfl A r (by omega) [B] 1 rfl (by decide) (by decide) _ rfl rfl ?_;intro E U W t d);go_roundw
   case rel=>exact⟨b+1,l+1,i,g++[B],by go_num,M.below d (by omega),K.below d (by omega),t,by omega,by omega,by omega,f,o.trans (d.mono (by omega)),Nat.le_trans r d.size⟩
   case measure=>simp[intOf];omega
  ·rw[if_pos (by omega)]at c;have f:=ab c;clear c;obtain rfl:b=s.size:=by omega
   go_wp2_with fail;refine bodyPost_ret (v:= .tuple #[.agg #[.int .i64 4,.int .i64 p,.int .i64 0,.int .i64 0,.int .i64 0,.string ⟨#[]⟩],.int .i64 (s.size:Int)]) (by simp[results,Tryz.results85,go_sem,z0,O,N,L,Q,I]) rfl ⟨iu f.out,?_⟩
   iterate 6 refine Below.setCell ?_ (by simp) _
   exact o
theorem Bc{w:World}{h:Value}{ns:List Nd}{N:Nd}{vn vk:Value}(c:bP w h ns N vn vk)(d:N.k=20):
  Calls Tryz.prog 53 #[.agg #[h],bu N vn vk] w fun e f=>e= .returned (.bool (((N.ks.length:Int)==0)&&aq N false false false false))/\Below w.heap.size w f:=by
 obtain⟨m,G,rfl⟩:=c.t.form;obtain⟨A,q,rfl⟩:=c.n.form;obtain⟨B,H,rfl⟩:=c.k.form;have b:=St.start c;have l:=c.lx;have r:Hid (N.x.size<=1100000):=by show _<=_;omega
 clear c;have s:=gZ d 20 rfl;clear d;cases t0:((N.ks.length:Int)==0)
 case' true=>
  cases t1:aq N false false false false
 all_goals
  unfold bu;go_in;go_wp2_with (first|(go_at_call 107;refine(aJ _ N _ _ b.a.n b.a.k b.a.l1).mono ?_;rintro e f ⟨rfl,g⟩;replace b:=b.below g;clear g;obtain⟨F,j,i,C,E,z,y,v,o,p⟩:=ad b.bn;have u:=b.bt));go_ret;exact⟨rfl,b.bel⟩
theorem Bd{w:World}{h:Value}{ns:List Nd}{N:Nd}{vn vk:Value}(c:bP w h ns N vn vk)(d:N.k=21):
  Calls Tryz.prog 53 #[.agg #[h],bu N vn vk] w fun e f=>e= .returned (.bool (((N.ks.length:Int)==0)&&aq N false false false false))/\Below w.heap.size w f:=by
 obtain⟨m,H,rfl⟩:=c.t.form;obtain⟨B,q,rfl⟩:=c.n.form;obtain⟨C,I,rfl⟩:=c.k.form;have b:=St.start c;have l:=c.lx;have r:Hid (N.x.size<=1100000):=by show _<=_;omega
 clear c;have s:=eI d;have y:=gZ d 21 rfl;clear d;cases t0:((N.ks.length:Int)==0)
 case' true=>
  cases t1:aq N false false false false
 all_goals
  unfold bu;go_in;go_wp2_with (first|(go_at_call 107;refine(aJ _ N _ _ b.a.n b.a.k b.a.l1).mono ?_;rintro e f ⟨rfl,g⟩;replace b:=b.below g;clear g;obtain⟨G,j,i,E,F,z,A,v,o,p⟩:=ad b.bn;have u:=b.bt));go_ret;exact⟨rfl,b.bel⟩
theorem Be{w:World}{h:Value}{ns:List Nd}{N:Nd}{vn vk:Value}(c:bP w h ns N vn vk)(d:N.k=22):
  Calls Tryz.prog 53 #[.agg #[h],bu N vn vk] w fun e f=>e= .returned (.bool (((N.ks.length:Int)==0)&&aq N false false false false))/\Below w.heap.size w f:=by
 obtain⟨m,H,rfl⟩:=c.t.form;obtain⟨B,q,rfl⟩:=c.n.form;obtain⟨C,I,rfl⟩:=c.k.form;have b:=St.start c;have l:=c.lx;have r:Hid (N.x.size<=1100000):=by show _<=_;omega
 clear c;have s:=eI d;have A:=gZ d 22 rfl;clear d;cases t0:((N.ks.length:Int)==0)
 case' true=>
  cases t1:aq N false false false false
 all_goals
  unfold bu;go_in;go_wp2_with (first|(go_at_call 107;refine(aJ _ N _ _ b.a.n b.a.k b.a.l1).mono ?_;rintro e f ⟨rfl,g⟩;replace b:=b.below g;clear g;obtain⟨G,j,i,E,F,z,y,v,o,p⟩:=ad b.bn;have u:=b.bt));go_ret;exact⟨rfl,b.bel⟩
theorem Bf{w:World}{h:Value}{ns:List Nd}{N:Nd}{vn vk:Value}(c:bP w h ns N vn vk)(d:N.k=27):
  Calls Tryz.prog 53 #[.agg #[h],bu N vn vk] w fun e f=>e= .returned (.bool (((N.ks.length:Int)==0)&&aq N false false false false))/\Below w.heap.size w f:=by
 obtain⟨m,H,rfl⟩:=c.t.form;obtain⟨A,q,rfl⟩:=c.n.form;obtain⟨B,I,rfl⟩:=c.k.form;have b:=St.start c;have l:=c.lx;have r:Hid (N.x.size<=1100000):=by show _<=_;omega
 clear c;have s:=eI d;have C:=gZ d 27 rfl;clear d;cases t0:((N.ks.length:Int)==0)
 case' true=>
  cases t1:aq N false false false false
 all_goals
  unfold bu;go_in;go_wp2_with (first|(go_at_call 107;refine(aJ _ N _ _ b.a.n b.a.k b.a.l1).mono ?_;rintro e f ⟨rfl,g⟩;replace b:=b.below g;clear g;obtain⟨G,j,i,E,F,z,y,v,o,p⟩:=ad b.bn;have u:=b.bt));go_ret;exact⟨rfl,b.bel⟩
theorem Bg{w:World}{h:Value}{ns:List Nd}{N:Nd}{vn vk:Value}(c:bP w h ns N vn vk)(d:N.k=23):
  Calls Tryz.prog 53 #[.agg #[h],bu N vn vk] w fun e f=>e= .returned (.bool (((N.ks.length:Int)==0)&&aq N false true false false))/\Below w.heap.size w f:=by
 obtain⟨m,G,rfl⟩:=c.t.form;obtain⟨A,q,rfl⟩:=c.n.form;obtain⟨B,I,rfl⟩:=c.k.form;have b:=St.start c;have l:=c.lx;have r:Hid (N.x.size<=1100000):=by show _<=_;omega
 clear c;have s:=eI d;have H:=gZ d 23 rfl;clear d;cases t0:((N.ks.length:Int)==0)
 case' true=>
  cases t1:aq N false true false false
 all_goals
  unfold bu;go_in;go_wp2_with (first|(go_at_call 107;refine(ez _ N _ _ b.a.n b.a.k b.a.l1).mono ?_;rintro e f ⟨rfl,g⟩;replace b:=b.below g;clear g;obtain⟨F,j,i,C,E,z,y,v,o,p⟩:=ad b.bn;have u:=b.bt));go_ret;exact⟨rfl,b.bel⟩
theorem Bh{w:World}{h:Value}{ns:List Nd}{N:Nd}{vn vk:Value}(c:bP w h ns N vn vk)(f:N.k=24):
  Calls Tryz.prog 53 #[.agg #[h],bu N vn vk] w fun e g=>e= .returned (.bool (((N.ks.length:Int)==0)&&aq N false false true false&&GA N.x))/\Below w.heap.size w g:=by
 obtain⟨A,H,rfl⟩:=c.t.form;obtain⟨F,B,rfl⟩:=c.n.form;obtain⟨G,I,rfl⟩:=c.k.form;have b:=St.start c;have z:=c.lx;have o:Hid (N.x.size<=1100000):=by show _<=_;omega
 clear c;have C:=eI f;have E:=gZ f 24 rfl;clear f;cases t0:((N.ks.length:Int)==0)
 case' true=>
  cases t1:aq N false false true false
  case' true=>
   cases t2:GA N.x
 all_goals
  unfold bu;go_in;go_wp2_with (first|(go_at_call 107;refine(eA _ N _ _ b.a.n b.a.k b.a.l1).mono ?_;rintro e g ⟨rfl,d⟩;replace b:=b.below d;clear d;obtain⟨y,j,i,u,v,s,r,q,l,m⟩:=ad b.bn;have p:=b.bt)|(go_at_call 111;refine(tM N.x o.out _).mono ?_;rintro e g ⟨rfl,d⟩;replace b:=b.below d;clear d;obtain⟨y,j,i,u,v,s,r,q,l,m⟩:=ad b.bn;have p:=b.bt));go_ret;exact⟨rfl,b.bel⟩
theorem Bi{w:World}{h:Value}{ns:List Nd}{N:Nd}{vn vk:Value}(c:bP w h ns N vn vk)(d:N.k=25):
  Calls Tryz.prog 53 #[.agg #[h],bu N vn vk] w fun e f=>e= .returned (.bool (((N.ks.length:Int)==0)&&aq N false false true false&&decide ((N.x.size:Int)<=4000)))/\Below w.heap.size w f:=by
 obtain⟨m,H,rfl⟩:=c.t.form;obtain⟨B,q,rfl⟩:=c.n.form;obtain⟨C,I,rfl⟩:=c.k.form;have b:=St.start c;have l:=c.lx;have r:Hid (N.x.size<=1100000):=by show _<=_;omega
 clear c;have s:=eI d;have A:=gZ d 25 rfl;clear d;cases t0:((N.ks.length:Int)==0)
 case' true=>
  cases t1:aq N false false true false
  case' true=>
   cases t2:decide ((N.x.size:Int)<=4000)
 all_goals
  unfold bu;go_in;go_wp2_with (first|(go_at_call 107;refine(eA _ N _ _ b.a.n b.a.k b.a.l1).mono ?_;rintro e f ⟨rfl,g⟩;replace b:=b.below g;clear g;obtain⟨G,j,i,E,F,z,y,v,o,p⟩:=ad b.bn;have u:=b.bt));go_ret;exact⟨rfl,b.bel⟩
theorem Bj{w:World}{h:Value}{ns:List Nd}{N:Nd}{vn vk:Value}(c:bP w h ns N vn vk)(f:N.k=26):
  Calls Tryz.prog 53 #[.agg #[h],bu N vn vk] w fun e g=>e= .returned (.bool (((N.ks.length:Int)==0)&&aq N false false true false&&fs N.x))/\Below w.heap.size w g:=by
 obtain⟨A,H,rfl⟩:=c.t.form;obtain⟨F,B,rfl⟩:=c.n.form;obtain⟨G,I,rfl⟩:=c.k.form;have b:=St.start c;have z:=c.lx;have o:Hid (N.x.size<=1100000):=by show _<=_;omega
 clear c;have C:=eI f;have E:=gZ f 26 rfl;clear f;cases t0:((N.ks.length:Int)==0)
 case' true=>
  cases t1:aq N false false true false
  case' true=>
   cases t2:fs N.x
 all_goals
  unfold bu;go_in;go_wp2_with (first|(go_at_call 107;refine(eA _ N _ _ b.a.n b.a.k b.a.l1).mono ?_;rintro e g ⟨rfl,d⟩;replace b:=b.below d;clear d;obtain⟨y,j,i,u,v,s,r,p,l,m⟩:=ad b.bn;have q:=b.bt)|(go_at_call 112;refine(eH N.x o.out _).mono ?_;rintro e g ⟨rfl,d⟩;replace b:=b.below d;clear d;obtain⟨y,j,i,u,v,s,r,p,l,m⟩:=ad b.bn;have q:=b.bt));go_ret;exact⟨rfl,b.bel⟩
def Dt(ns:List Nd)(N:Nd):Nat->Nat->Bool
 |0,_=>true
 |f+1,j=>fC (ba ns N j)&&Dt ns N f (j+1)
structure GF (ns:List Nd) (N:Nd) (f j:Nat) (R:Bool):Prop where
 out:Dt ns N f j=R
theorem Ej{w:World}{M:Value}{ns:List Nd}{N:Nd}{vn vk:Value}(h:bP w M ns N vn vk)(I:N.k=1):
  Calls Tryz.prog 52 #[.agg #[M],bu N vn vk] w fun e o=>e= .returned (.bool (Dt ns N N.ks.length 0&&aq N false false false false))/\Below w.heap.size w o:=by
 obtain⟨H,R,rfl⟩:=h.t.form;obtain⟨J,O,rfl⟩:=h.n.form;obtain⟨K,L,rfl⟩:=h.k.form;have b:=St.start h;have X:=h.l2;clear h;have Z:(N.k==1)=true:=by rw[I];rfl
 clear I;obtain⟨v,r⟩:=ah (Dt ns N N.ks.length 0);rw[r];have V:GF ns N N.ks.length 0 v:=⟨r⟩;clear r;unfold bu;go_in;go_wp2_with fail;generalize (w.alloc (.cells #[.slice H ns.length R] 24)).alloc (.cells #[.int .i64 N.k,.int .i64 N.f,.int .i64 N.t,.int .i64 N.l,.int .i64 N.op,.int .i64 N.n,.string N.x,.slice J N.nm.length O,.slice K N.ks.length L] 69)=W at b⊢;go_loopw [6,18] (fun _ u wr=>∃(c:Nat),u= .int .i64 c/\c<=N.ks.length/\GF ns N (N.ks.length-c) c v/\St w (.slice H ns.length R) ns N (.slice J N.nm.length O) (.slice K N.ks.length L) wr) (fun _ u _=>N.ks.length-(intOf u).toNat)
 case atStart=>exact⟨0,rfl,by omega,V,b⟩
 case round=>
  clear b;obtain⟨c,rfl,Y,U,b⟩:=hrel;obtain⟨E,F,z,C,B,G,q,A,s,p⟩:=ad b.bn;have y:=b.bt;have d:=U.out;by_cases T:c<N.ks.length
  ·rw[show N.ks.length-c=(N.ks.length-(c+1))+1 by omega,Dt]at d;have S:(c:Int)<(N.ks.length:Int):=by omega
   have m:=dw b.a c T;unfold bu at m;generalize ba ns N c=Q at d m;have j:=fun w=>od Q w;cases hx:fC Q with
   |false=>
    rw[hx,Bool.false_and]at d;rw[hx]at j;have i:=ab d;clear d hx;go_wp2_with (first|(go_at_call 106;refine m.mono ?_;rintro e o ⟨rfl,g⟩;replace b:=b.below g;clear g;obtain⟨E,F,z,C,B,G,q,A,s,p⟩:=ad b.bn;have y:=b.bt)|(go_at_call 51;refine bc (j _) ?_));go_ret;exact⟨by rw[<-i.out];rfl,b.bel⟩
   |true=>
    rw[hx,Bool.true_and]at d;rw[hx]at j;have i:GF ns N (N.ks.length-(c+1)) (c+1) v:=⟨d⟩;clear d hx;go_wp2_with (first|(go_at_call 106;refine m.mono ?_;rintro e o ⟨rfl,g⟩;replace b:=b.below g;clear g;obtain⟨E,F,z,C,B,G,q,A,s,p⟩:=ad b.bn;have y:=b.bt)|(go_at_call 51;refine bc (j _) ?_));exact⟨⟨c+1,by go_num,by omega,i,b⟩,by simp[intOf];omega⟩
  ·rw[show N.ks.length-c=0 by omega,Dt]at d;have i:=ab d;have S:¬(c:Int)<(N.ks.length:Int):=by omega
   clear d;go_wp2_with (go_at_call 107;refine(aJ _ N _ _ b.a.n b.a.k b.a.l1).mono ?_;rintro e o ⟨rfl,g⟩;replace b:=b.below g;clear g;obtain⟨E,F,z,C,B,G,q,A,s,p⟩:=ad b.bn;have y:=b.bt);go_ret;exact⟨by rw[<-i.out];rfl,b.bel⟩
end Go.Proofs.YtcbmoiabehpliaaGreatDoor
namespace Go.Proofs.YtcbmoiabehpliaaGreatDoor
open Go.RowKit
theorem tV{s t:ByteArray}(h:s≠t):(s.toList==t.toList)=false:=by
 rw[beq_eq_false_iff_ne];intro a;apply h;rw[ByteArray.toList_eq,ByteArray.toList_eq]at a;cases s;cases t;simp only at a
 congr 1
 exact Array.toList_inj.1 a
theorem Bk{s t:ByteArray}(h:s=t):(s.toList==t.toList)=true:=by subst h;simp
theorem wi(w:World)(C E:Value)(d c:List ByteArray)(q:aH w C d)(p:aH w E c)(v:d.length<=1048576)(y:c.length<=1048576):
  Calls Tryz.prog 173 #[C,E] w fun e J=>e= .returned (.bool (decide (d=c)))/\Below w.heap.size w J:=by
 obtain⟨H,O,rfl⟩:=q.form;obtain⟨M,K,rfl⟩:=p.form;by_cases n:d.length=c.length
 ·obtain⟨o,r⟩:=ah (decide (d=c));rw[r];obtain⟨f,j⟩:=ah d.length;have m:c.length=f:=by rw[<-n];exact j
  have i:=cS j m r;have x:Hid (aH w (.slice H f O) d/\aH w (.slice M f K) c):=⟨by rw[<-j];exact q,by rw[<-m];exact p⟩;rw[j]at v⊢;rw[m];clear q p j m r n y;go_in;go_wp2_with fail;go_loopw [13] (fun s wr=>∃b:Nat,b<=f/\s= .int .i64 b/\Hid (∀a,a<b->d[a]?=c[a]?)/\Below w.heap.size w wr) (fun s _=>f-(intOf s).toNat)
  case atStart=>exact⟨0,by omega,rfl,fun a I=>by omega,Below.refl _ _⟩
  case round=>
   obtain⟨b,V,rfl,F,l⟩:=hrel;by_cases B:b<f
   ·obtain⟨u,h⟩:=aF i.out.1 B;obtain⟨A,k⟩:=aF i.out.2.1 B;obtain⟨W,rfl,Z⟩:=(x.out.1.below l).get h;obtain⟨S,rfl,T⟩:=(x.out.2.below l).get k;have U:(b:Int)<(f:Int):=by omega
    have R:(0:Int)<=(b:Int):=by omega
    by_cases t:u=A
    ·subst t;have G:Hid (∀a,a<b+1->d[a]?=c[a]?):=fun a I=>by
      rcases Nat.lt_or_ge a b with g|g
      ·exact F.out a g
      ·obtain rfl:a=b:=by omega
       rw[h,k]
     clear h k;go_wp2_with fail;go_quiet (fail)
     go_wp2_with fail;exact⟨⟨b+1,by omega,by go_num,G,dr l _⟩,by simp[intOf];omega⟩
    ·have L:Hid (o=false):=by
      show o=false;rw[<-i.out.2.2];refine decide_eq_false fun e=>t ?_;rw[e,k]at h;exact(Option.some.inj h).symm
     have Y:(u.toList==A.toList)=false:=tV t;clear h k;go_wp2_with fail;go_quiet (fail)
     go_wp2_with fail;go_ret;exact⟨by rw[L.out];rfl,dr l _⟩
   ·obtain rfl:b=f:=by omega
    have N:Hid (o=true):=by
     show o=true;rw[<-i.out.2.2];refine decide_eq_true (List.ext_getElem? fun a=>?_);rcases Nat.lt_or_ge a b with g|g
     ·exact F.out a g
     ·rw[List.getElem?_eq_none (by rw[i.out.1];exact g),List.getElem?_eq_none (by rw[i.out.2.1];exact g)]
    go_wp2_with fail;go_ret;exact⟨by rw[N.out];rfl,l⟩
 ·rw[decide_eq_false (fun e=>n (by rw[e]))];have z:¬(d.length:Int)=(c.length:Int):=by omega
  generalize d.length=Q at z v⊢;generalize c.length=X at z y⊢;clear q p n;go_in;go_wp2;go_ret;exact⟨rfl,Below.refl _ _⟩
def lZ(a N:Nd):Bool:=decide (a.op=N.op/\a.n=N.n/\a.x=N.x/\a.nm=N.nm)
theorem oq(w:World)(b N:Nd)(H M vn vk:Value)(m:aH w H b.nm)(l:aH w vn N.nm)(Q:∃a n c,M= .slice a n c)(S:∃a n c,vk= .slice a n c)(T:b.nm.length<=1048576)(R:N.nm.length<=1048576):
  Calls Tryz.prog 139 #[bu b H M,bu N vn vk] w fun e O=>e= .returned (.bool (lZ b N))/\Below w.heap.size w O:=by
 have j:∀f g,Below w.heap.size w ((w.alloc f).alloc g):=fun f g=>((Below.refl _ w).alloc (Nat.le_refl _) f).alloc (by simp) g;have d:=fun f g=>wi ((w.alloc f).alloc g) H vn b.nm N.nm (m.below (j f g)) (l.below (j f g)) T R;obtain⟨W,V,rfl⟩:=m.form;obtain⟨ao,Y,rfl⟩:=l.form;obtain⟨af,ap,ar,rfl⟩:=Q;obtain⟨an,am,X,rfl⟩:=S;unfold bu lZ;generalize b.nm.length=al at d⊢;generalize N.nm.length=Z at d⊢;by_cases i:b.op=N.op
 ·by_cases o:b.n=N.n
  ·by_cases k:b.x=N.x
   ·have e:decide (b.op=N.op/\b.n=N.n/\b.x=N.x/\b.nm=N.nm)=decide (b.nm=N.nm):=by
     by_cases p:b.nm=N.nm
     ·rw[decide_eq_true p,decide_eq_true ⟨i,o,k,p⟩]
     ·rw[decide_eq_false p,decide_eq_false (fun h=>p h.2.2.2)]
    rw[e];have F:=Bk k;generalize decide (b.nm=N.nm)=av at d⊢;clear e k m l;obtain⟨A,E,B,s,q,I,y,r,mks⟩:=b;obtain⟨J,G,v,C,L,u,z,K,t⟩:=N;simp only at i o F⊢;go_in;go_wp2_with (go_at_call 173;refine(d _ _).mono ?_;rintro e ak ⟨rfl,U⟩);go_ret;exact⟨rfl,(j _ _).trans (U.mono (by simp;omega))⟩
   ·rw[decide_eq_false (fun h=>k h.2.2.1)];have F:=tV k;clear k m l d;obtain⟨A,E,B,s,q,I,y,r,mks⟩:=b;obtain⟨J,G,v,C,L,u,z,K,t⟩:=N;simp only at i o F⊢;go_in;go_wp2;go_ret;exact⟨rfl,j _ _⟩
  ·rw[decide_eq_false (fun h=>o h.2.1)];clear m l d;obtain⟨A,E,B,s,q,I,y,r,mks⟩:=b;obtain⟨J,G,v,C,L,u,z,K,t⟩:=N;simp only at i o⊢;go_in;go_wp2;go_ret;exact⟨rfl,j _ _⟩
 ·rw[decide_eq_false (fun h=>i h.1)];clear m l d;obtain⟨A,E,B,s,q,I,y,r,mks⟩:=b;obtain⟨J,G,v,C,L,u,z,K,t⟩:=N;simp only at i⊢;go_in;go_wp2;go_ret;exact⟨rfl,j _ _⟩
end Go.Proofs.YtcbmoiabehpliaaGreatDoor
