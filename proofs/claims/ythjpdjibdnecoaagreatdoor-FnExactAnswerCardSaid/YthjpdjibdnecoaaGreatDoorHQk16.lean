import Derived.Test.YthjpdjibdnecoaaGreatDoorHQk13
set_option linter.all false
set_option maxRecDepth 100000
set_option maxHeartbeats 6400000
open Bool renaming false->M,true->Z
open Go.Value renaming int->O,string->S,agg->W,tuple->X,slice->Y,bool->A3
open Go.IntKind renaming i64->Q
open Go.Ending renaming returned->T
open Go.Proofs.Tryz renaming prog->U
open Go renaming Value->V,World->A0,Calls->A1
open Go.RowKit renaming Below->Ax,intOf->A2
open Go.Obj renaming cells->A4
namespace Go.Proofs.YthjpdjibdnecoaaGreatDoor
open Go.RowKit Go.Maps Go.WideMaps
structure Hl (s:ByteArray) (f p:Nat) (a:List Int) (R:Bool×Nat×List Int):Prop where
 out:gx s f p a=R
def DC(p:Nat)(R:Bool×Nat×List Int):V:=if R.1=Z then W #[O Q 4,O Q p,O Q (R.2.1:Int),O Q 0,O Q 0,S (ic R.2.2)] else W #[O Q 4,O Q p,O Q 0,O Q 0,O Q 0,S ⟨#[]⟩]
def Hm(R:Bool×Nat×List Int):Int:=if R.1=Z then -1 else(R.2.1:Int)
theorem DD{p a:Nat}{c:List Int}{R:Bool×Nat×List Int}(h:(Z,a,c)=R):(Ending.returned (X #[W #[O Q 4,O Q p,O Q (a:Int),O Q 0,O Q 0,S (ic c)],O Q (-1)]))= T (X #[DC p R,O Q (Hm R)]):=by
 subst h;rfl
theorem sD{p a:Nat}{c:List Int}{R:Bool×Nat×List Int}(h:(M,a,c)=R):(Ending.returned (X #[W #[O Q 4,O Q p,O Q 0,O Q 0,O Q 0,S ⟨#[]⟩],O Q (a:Int)]))= T (X #[DC p R,O Q (Hm R)]):=by
 subst h;rfl
theorem Fa(s:ByteArray)(c5:s.size<=70000)(p:Nat)(c7:p<s.size)(w:A0):A1 U 92 #[S s,W #[O Q 0,O Q p,O Q 0,O Q 0,O Q 0,S ⟨#[]⟩]] w fun e cb=>
  e= T (X #[DC p (gx s (s.size+1) (p+1) []),O Q (Hm (gx s (s.size+1) (p+1) []))])/\Ax w.heap.size w cb:=by
 obtain⟨F,bh⟩:=ay (gx s (s.size+1) (p+1) []);rw[bh];have cf:Hl s (s.size+1) (p+1) [] F:=⟨bh⟩;clear bh;go_in;go_wp2_with fail;go_loopw [6,7,8,9] (fun bs cs d4 d5 wr=>∃(b l i:Nat) (g:List Int),bs= O Q b/\dj w.heap.size wr 4 p 0 0 0 ⟨#[]⟩/\dj (w.heap.size+1) wr 0 0 0 0 0 ⟨#[]⟩/\wr.ownsRow (w.heap.size+2) 5 1 cs l (B8 g)/\s.size<b+i/\b<=s.size/\l<=b/\Hl s i b g F/\Ax w.heap.size w wr/\w.heap.size+2<=wr.heap.size) (fun bs _ _ _ _=>s.size-(A2 bs).toNat)
 case atStart=>
  have cl:dj (w.heap.size+1) ((w.alloc (A4 #[O Q 4,O Q p,O Q 0,O Q 0,O Q 0,S ⟨#[]⟩] 96)).alloc (A4 #[O Q 0,O Q 0,O Q 0,O Q 0,O Q 0,S ⟨#[]⟩] 96)) 0 0 0 0 0 ⟨#[]⟩:=by
   have:=aj (w.alloc (A4 #[O Q 4,O Q p,O Q 0,O Q 0,O Q 0,S ⟨#[]⟩] 96)) (A4 #[O Q 0,O Q 0,O Q 0,O Q 0,O Q 0,S ⟨#[]⟩] 96);rw[aF]at this;exact this
  exact⟨p+1,0,s.size+1,[],by go_num,(bm _ _ _ (by simp)).trans (aj w _),cl,bc _ _ _ _,by omega,by omega,by omega,cf,((ag _ w).alloc (ae _) _).alloc (by simp) _,by simp⟩
 case round=>
  obtain⟨b,l,i,g,rfl,J,K,B,c4,c9,c6,bx,n,r⟩:=hrel;obtain⟨cv,cw,cx,cy,cz,cB,cF⟩:=bf J;obtain⟨z0,ak,al,am,an,ao,d6⟩:=bf K;obtain⟨i,rfl⟩:∃G,i=G+1:=⟨i-1,by omega⟩;have c:=bx.out;unfold gx at c;clear bx;by_cases b1:b<s.size
  ·have cr:=jo b1;have b5:=fun w=>cD b1 w;have c8:(b:Int)<(s.size:Int):=by omega
   rw[aa (by omega)]at c;obtain⟨A,b0⟩:=ay (az s b);rw[b0]at cr b5 c;clear b0;by_cases a8:A=34
   ·subst a8;rw[ab rfl]at c;have f:=aw c;clear c;rcases B.2 with⟨rfl,cm⟩|⟨G,ap,cI,rfl,ds⟩
    ·have bE:g=[]:=by have:=xl B;rw[cm]at this;exact jK this
     have cc:=aw bE;clear bE;have cq:=Gv;go_wp2_with fail;refine ba (v:= X #[W #[O Q 4,O Q p,O Q ((b:Int)+1),O Q 0,O Q 0,S ByteArray.empty],O Q (-1)]) (by simp[results,Tryz.results92,go_sem,z0,ak,al,am,an,ao]) rfl ⟨by have h:=f.out;rw[cc.out]at h;exact DD h,?_⟩
     iterate 8 refine eH ?_ (by simp) _
     exact n
    ·have cq:=ou (qK (a:=⟨w.heap.size,2,none⟩) B (by simp) (O Q ((b:Int)+1)));go_wp2_with fail;refine ba (v:= X #[W #[O Q 4,O Q p,O Q ((b:Int)+1),O Q 0,O Q 0,S (ic g)],O Q (-1)]) (by simp[results,Tryz.results92,go_sem,z0,ak,al,am,an,ao]) rfl ⟨DD f.out,?_⟩
     iterate 8 refine eH ?_ (by simp) _
     exact n
   rw[aa a8]at c;have dk:(A==34)=M:=by simp[a8]
   by_cases a9:A=10
   ·subst a9;rw[ab rfl]at c;have f:=aw c;clear c;go_wp2_with fail;refine ba (v:= X #[W #[O Q 4,O Q p,O Q 0,O Q 0,O Q 0,S ⟨#[]⟩],O Q (b:Int)]) (by simp[results,Tryz.results92,go_sem,z0,ak,al,am,an,ao]) rfl ⟨sD f.out,?_⟩
    iterate 6 refine eH ?_ (by simp) _
    exact n
   rw[aa a9]at c;have dn:(A==10)=M:=by simp[a9]
   by_cases bb:A=92
   ·subst bb;rw[ab rfl]at c;clear a8 a9;have j:=fun w=>gg s (by omega) ((b:Int)+1) (b+1) (by omega) w;by_cases k:az s (b+1)=110
    ·have x:=dv k (by omega);rw[show jA s (b+1)=(10,b+1+1,Z) by unfold jA;rw[ab k],ab rfl]at c;rw[rq x,k]at j;have f:Hl s i (b+1+1) (g++[10]) F:=⟨c⟩;clear c k;go_wp2_with (first|(go_at_call 87;refine dK (j _) ?_)|(at_builtin;refine gL rfl (.tmp 51) (.tmp 52) rfl (w.heap.size+2) _ l g rfl B r (by omega) [10] 1 rfl (by decide) (by decide) _ rfl rfl ?_;intro G ap a7 u d));go_roundw
     case rel=>exact⟨b+1+1,l+1,i,g++[10],by go_num,J.below d (by omega),K.below d (by omega),u,by omega,by omega,by omega,f,n.trans (d.mono (by omega)),bF r d.size⟩
     case measure=>simp[A2];omega
    by_cases m:az s (b+1)=116
    ·have x:=dv m (by omega);rw[show jA s (b+1)=(9,b+1+1,Z) by unfold jA;rw[aa k,ab m],ab rfl]at c;rw[rq x,m]at j;have f:Hl s i (b+1+1) (g++[9]) F:=⟨c⟩;clear c k m;go_wp2_with (first|(go_at_call 87;refine dK (j _) ?_)|(at_builtin;refine gL rfl (.tmp 56) (.tmp 57) rfl (w.heap.size+2) _ l g rfl B r (by omega) [9] 1 rfl (by decide) (by decide) _ rfl rfl ?_;intro G ap a7 u d));go_roundw
     case rel=>exact⟨b+1+1,l+1,i,g++[9],by go_num,J.below d (by omega),K.below d (by omega),u,by omega,by omega,by omega,f,n.trans (d.mono (by omega)),bF r d.size⟩
     case measure=>simp[A2];omega
    by_cases q:az s (b+1)=34
    ·have x:=dv q (by omega);rw[show jA s (b+1)=(34,b+1+1,Z) by unfold jA;rw[aa k,aa m,ab (Or.inl q),q],ab rfl]at c;rw[rq x,q]at j;have bn:=fun w=>xn x w;rw[q]at bn;have f:Hl s i (b+1+1) (g++[34]) F:=⟨c⟩;clear c k m q;go_wp2_with (first|(go_at_call 87;refine dK (j _) ?_)|(at_builtin;refine gL rfl (.tmp 62) (.tmp 66) rfl (w.heap.size+2) _ l g rfl B r (by omega) [34] 1 rfl (by decide) (by decide) _ rfl rfl ?_;intro G ap a7 u d));go_roundw
     case rel=>exact⟨b+1+1,l+1,i,g++[34],by go_num,J.below d (by omega),K.below d (by omega),u,by omega,by omega,by omega,f,n.trans (d.mono (by omega)),bF r d.size⟩
     case measure=>simp[A2];omega
    by_cases t:az s (b+1)=92
    ·have x:=dv t (by omega);rw[show jA s (b+1)=(92,b+1+1,Z) by unfold jA;rw[aa k,aa m,ab (Or.inr t),t],ab rfl]at c;rw[rq x,t]at j;have bn:=fun w=>xn x w;rw[t]at bn;have f:Hl s i (b+1+1) (g++[92]) F:=⟨c⟩;clear c k m q t;go_wp2_with (first|(go_at_call 87;refine dK (j _) ?_)|(at_builtin;refine gL rfl (.tmp 62) (.tmp 66) rfl (w.heap.size+2) _ l g rfl B r (by omega) [92] 1 rfl (by decide) (by decide) _ rfl rfl ?_;intro G ap a7 u d));go_roundw
     case rel=>exact⟨b+1+1,l+1,i,g++[92],by go_num,J.below d (by omega),K.below d (by omega),u,by omega,by omega,by omega,f,n.trans (d.mono (by omega)),bF r d.size⟩
     case measure=>simp[A2];omega
    by_cases I:az s (b+1)=120
    ·have x:=dv I (by omega);rw[rq x,I]at j;have bD:jA s (b+1)=C0 s (b+1+1):=by unfold jA;rw[aa k,aa m,aa (fun h=>h.elim q t),ab I]
     rw[bD]at c;unfold C0 at c;have C:=fun w=>gg s (by omega) ((b:Int)+1+1) (b+1+1) (by omega) w;have ad:=fun w=>gg s (by omega) ((b:Int)+1+2) (b+1+1+1) (by omega) w;have av:=Lu s (b+1+1);have a6:=Lu s (b+1+1+1);have o:=fun w=>yp (lk s (b+1+1)) av.1 av.2 w;have z:=fun w=>yp (lk s (b+1+1+1)) a6.1 a6.2 w;rw[LA]at o z;have bt:=mm (az s (b+1+1));have bw:=mm (az s (b+1+1+1));clear bD k m q t I;by_cases L:gj (az s (b+1+1))<0
     ·rw[ab L,aa (by simp)]at c;have f:=aw c;generalize lk s (b+1+1)=bA at C o;generalize gj (az s (b+1+1))=y at o L;clear c ad z bt bw av a6;go_wp2_with (go_at_call 87;refine dK (j _) ?_);refine mh 3 ?_;rw[gF];clear j;go_wp2_with (first|(go_at_call 87;refine dK (C _) ?_)|(go_at_call 153;refine dK (o _) ?_));refine ba (v:= X #[W #[O Q 4,O Q p,O Q 0,O Q 0,O Q 0,S ⟨#[]⟩],O Q ((b:Int)+1+1)]) (by simp[results,Tryz.results92,go_sem,z0,ak,al,am,an,ao]) rfl ⟨sD f.out,?_⟩
      iterate 6 refine eH ?_ (by simp) _
      exact n
     rw[aa L]at c;have b4:0<=gj (az s (b+1+1)):=by omega
     by_cases ar:gj (az s (b+1+1+1))<0
     ·rw[ab ar,aa (by simp)]at c;have f:=aw c;generalize lk s (b+1+1)=bA at C o;generalize gj (az s (b+1+1))=y at o L b4;generalize lk s (b+1+1+1)=cg at ad z;generalize gj (az s (b+1+1+1))=H at z ar;clear c bt bw av a6;go_wp2_with (go_at_call 87;refine dK (j _) ?_);refine mh 3 ?_;rw[gF];clear j;go_wp2_with (first|(go_at_call 87;refine dK (C _) ?_)|(go_at_call 153;refine dK (o _) ?_));rw[gF];clear C o;go_wp2_with (first|(go_at_call 87;refine dK (ad _) ?_)|(go_at_call 153;refine dK (z _) ?_));refine ba (v:= X #[W #[O Q 4,O Q p,O Q 0,O Q 0,O Q 0,S ⟨#[]⟩],O Q ((b:Int)+1+2)]) (by simp[results,Tryz.results92,go_sem,z0,ak,al,am,an,ao]) rfl ⟨by have h:=sD (p:=p) f.out;rw[show((b+1+1+1:Nat):Int)=(b:Int)+1+2 by omega]at h;exact h,?_⟩
      iterate 6 refine eH ?_ (by simp) _
      exact n
     have bk:b+1+1<s.size:=by
      rcases co (b+1+1) s.size with h|h
      ·exact h
      ·rw[dE (by omega)]at L;exact absurd (by decide) L
     have bl:b+1+1+1<s.size:=by
      rcases co (b+1+1+1) s.size with h|h
      ·exact h
      ·rw[dE (by omega)]at ar;exact absurd (by decide) ar
     have bo:=fun w=>cD bk w;have br:=fun w=>cD bl w;rw[show((b+1+1:Nat):Int)=(b:Int)+1+1 by omega]at bo;rw[show((b+1+1+1:Nat):Int)=(b:Int)+1+2 by omega]at br;rw[aa ar,ab rfl]at c;rw[rq bk]at C o;rw[rq bl]at ad z;have cn:0<=gj (az s (b+1+1+1)):=by omega
     have f:Hl s i (b+1+1+1+1) (g++[gj (az s (b+1+1))*16+gj (az s (b+1+1+1))]) F:=⟨c⟩;clear c av a6;have ch:=jo bk;have ck:=jo bl;generalize gj (az s (b+1+1))=y at o L b4 bt f;generalize gj (az s (b+1+1+1))=H at z ar cn bw f;generalize az s (b+1+1)=bA at C o bo ch;generalize az s (b+1+1+1)=cg at ad z br ck;rw[show y*16+H=16*y+H by omega]at f;go_wp2_with (go_at_call 87;refine dK (j _) ?_);refine mh 3 ?_;rw[gF];clear j;go_wp2_with (first|(go_at_call 87;refine dK (C _) ?_)|(go_at_call 153;refine dK (o _) ?_));rw[gF];clear C;go_wp2_with (first|(go_at_call 87;refine dK (ad _) ?_)|(go_at_call 153;refine dK (z _) ?_));rw[gF];clear ad;go_wp2_with fail;obtain⟨E,bd⟩:∃E:Int,(b:Int)+1=E:=⟨_,rfl⟩;rw[bd]at bo br⊢;have ce:=aw bd;have dz:IntKind.i64.wrap (E+1)=E+1:=AH _ (by omega);have d0:IntKind.i64.wrap (E+2)=E+2:=AH _ (by omega);have d1:IntKind.i64.wrap (16*y)=16*y:=AH _ (by omega);have d2:IntKind.i64.wrap (16*y+H)=16*y+H:=AH _ (by omega);have d3:IntKind.u8.wrap (16*y+H)=16*y+H:=IntWalk.u8_in _ (by omega);have c0:0<=E:=by omega
     have c1:E<=70001:=by omega
     clear bd b5;go_region_held3 (fun cb=>True) (trivial) ((first|(go_at_call 153;with_reducible refine dK (o _) ?_)|(go_at_call 153;with_reducible refine dK (z _) ?_)|(refine AL (by rfl) _ _ (by rfl) (w.heap.size+2) _ l g (by rfl) B r (by omega) [_] 1 (by rfl) (by decide) (by decide) _ (by rfl) (by rfl) ?_;intro G ap a7 u d)))
     all_goals
      go_wp2_with fail;have df:=ce.out;exact⟨⟨b+1+1+1+1,l+1,i,g++[16*y+H],by congr 1<;>omega,J.below d (by omega),K.below d (by omega),u,by omega,by omega,by omega,f,n.trans (d.mono (by omega)),bF r d.size⟩,by simp[A2];omega⟩
    rw[show jA s (b+1)=(0,b+1,M) by unfold jA;rw[aa k,aa m,aa (fun h=>h.elim q t),aa I],aa (by simp)]at c;have f:=aw c;have b6:=sC s (b+1) 110 (by omega);have b7:=sC s (b+1) 116 (by omega);have b8:=sC s (b+1) 34 (by omega);have b9:=sC s (b+1) 92 (by omega);have ca:=sC s (b+1) 120 (by omega);rw[aB k]at b6;rw[aB m]at b7;rw[aB q]at b8;rw[aB t]at b9;rw[aB I]at ca;generalize lk s (b+1)=ct at j b6 b7 b8 b9 ca;clear c k m q t I;go_wp2_with (go_at_call 87;refine dK (j _) ?_);refine ba (v:= X #[W #[O Q 4,O Q p,O Q 0,O Q 0,O Q 0,S ⟨#[]⟩],O Q ((b:Int)+1)]) (by simp[results,Tryz.results92,go_sem,z0,ak,al,am,an,ao]) rfl ⟨sD f.out,?_⟩
    iterate 6 refine eH ?_ (by simp) _
    exact n
   rw[aa bb]at c;have dq:(A==92)=M:=by simp[bb]
   have f:Hl s i (b+1) (g++[A]) F:=⟨c⟩;clear c;go_wp2_with (at_builtin;refine gL rfl (.tmp 36) (.tmp 38) rfl (w.heap.size+2) _ l g rfl B r (by omega) [A] 1 rfl (by decide) (by decide) _ rfl rfl ?_;intro G ap a7 u d);go_roundw
   case rel=>exact⟨b+1,l+1,i,g++[A],by go_num,J.below d (by omega),K.below d (by omega),u,by omega,by omega,by omega,f,n.trans (d.mono (by omega)),bF r d.size⟩
   case measure=>simp[A2];omega
  ·rw[ab (by omega)]at c;have f:=aw c;clear c;obtain rfl:b=s.size:=by omega
   go_wp2_with fail;refine ba (v:= X #[W #[O Q 4,O Q p,O Q 0,O Q 0,O Q 0,S ⟨#[]⟩],O Q (s.size:Int)]) (by simp[results,Tryz.results92,go_sem,z0,ak,al,am,an,ao]) rfl ⟨sD f.out,?_⟩
   iterate 6 refine eH ?_ (by simp) _
   exact n
theorem ac7{w:A0}{g:V}{ns:List Nd}{N:Nd}{vn vk:V}(c:fI w g ns N vn vk)(d:N.k=20):
  A1 U 67 #[W #[g],eC N vn vk] w fun e h=>e= T (A3 (((N.ks.length:Int)==0)&&aI N M M M M))/\Ax w.heap.size w h:=by
 obtain⟨j,o,rfl⟩:=c.t.form;obtain⟨l,p,rfl⟩:=c.n.form;obtain⟨m,q,rfl⟩:=c.k.form;have b:=St.start c;have r:=c.lx;have i:Hid (N.x.size<=1100000):=by show _<=_;omega
 clear c;have s:=sn d 20 rfl;clear d;cases t0:((N.ks.length:Int)==0)
 case' true=>
  cases t1:aI N M M M M
 all_goals
  unfold eC;go_in;go_wp2_with (first|(go_at_call 114;refine(cE _ N _ _ b.a.n b.a.k b.a.l1).mono ?_;rintro e h ⟨rfl,f⟩;replace b:=b.below f;clear f;obtain⟨u,v,y,z,A,B,C,E,F,G⟩:=ax b.bn;have H:=b.bt));go_ret;exact⟨rfl,b.bel⟩
theorem ac8{w:A0}{g:V}{ns:List Nd}{N:Nd}{vn vk:V}(c:fI w g ns N vn vk)(d:N.k=21):
  A1 U 67 #[W #[g],eC N vn vk] w fun e h=>e= T (A3 (((N.ks.length:Int)==0)&&aI N M M M M))/\Ax w.heap.size w h:=by
 obtain⟨j,o,rfl⟩:=c.t.form;obtain⟨l,p,rfl⟩:=c.n.form;obtain⟨m,q,rfl⟩:=c.k.form;have b:=St.start c;have r:=c.lx;have i:Hid (N.x.size<=1100000):=by show _<=_;omega
 clear c;have s:=nF d;have u:=sn d 21 rfl;clear d;cases t0:((N.ks.length:Int)==0)
 case' true=>
  cases t1:aI N M M M M
 all_goals
  unfold eC;go_in;go_wp2_with (first|(go_at_call 114;refine(cE _ N _ _ b.a.n b.a.k b.a.l1).mono ?_;rintro e h ⟨rfl,f⟩;replace b:=b.below f;clear f;obtain⟨v,y,z,A,B,C,E,F,G,H⟩:=ax b.bn;have I:=b.bt));go_ret;exact⟨rfl,b.bel⟩
theorem ac9{w:A0}{g:V}{ns:List Nd}{N:Nd}{vn vk:V}(c:fI w g ns N vn vk)(d:N.k=22):
  A1 U 67 #[W #[g],eC N vn vk] w fun e h=>e= T (A3 (((N.ks.length:Int)==0)&&aI N M M M M))/\Ax w.heap.size w h:=by
 obtain⟨j,o,rfl⟩:=c.t.form;obtain⟨l,p,rfl⟩:=c.n.form;obtain⟨m,q,rfl⟩:=c.k.form;have b:=St.start c;have r:=c.lx;have i:Hid (N.x.size<=1100000):=by show _<=_;omega
 clear c;have s:=nF d;have u:=sn d 22 rfl;clear d;cases t0:((N.ks.length:Int)==0)
 case' true=>
  cases t1:aI N M M M M
 all_goals
  unfold eC;go_in;go_wp2_with (first|(go_at_call 114;refine(cE _ N _ _ b.a.n b.a.k b.a.l1).mono ?_;rintro e h ⟨rfl,f⟩;replace b:=b.below f;clear f;obtain⟨v,y,z,A,B,C,E,F,G,H⟩:=ax b.bn;have I:=b.bt));go_ret;exact⟨rfl,b.bel⟩
theorem ada{w:A0}{g:V}{ns:List Nd}{N:Nd}{vn vk:V}(c:fI w g ns N vn vk)(d:N.k=27):
  A1 U 67 #[W #[g],eC N vn vk] w fun e h=>e= T (A3 (((N.ks.length:Int)==0)&&aI N M M M M))/\Ax w.heap.size w h:=by
 obtain⟨j,o,rfl⟩:=c.t.form;obtain⟨l,p,rfl⟩:=c.n.form;obtain⟨m,q,rfl⟩:=c.k.form;have b:=St.start c;have r:=c.lx;have i:Hid (N.x.size<=1100000):=by show _<=_;omega
 clear c;have s:=nF d;have u:=sn d 27 rfl;clear d;cases t0:((N.ks.length:Int)==0)
 case' true=>
  cases t1:aI N M M M M
 all_goals
  unfold eC;go_in;go_wp2_with (first|(go_at_call 114;refine(cE _ N _ _ b.a.n b.a.k b.a.l1).mono ?_;rintro e h ⟨rfl,f⟩;replace b:=b.below f;clear f;obtain⟨v,y,z,A,B,C,E,F,G,H⟩:=ax b.bn;have I:=b.bt));go_ret;exact⟨rfl,b.bel⟩
theorem adb{w:A0}{g:V}{ns:List Nd}{N:Nd}{vn vk:V}(c:fI w g ns N vn vk)(d:N.k=23):
  A1 U 67 #[W #[g],eC N vn vk] w fun e h=>e= T (A3 (((N.ks.length:Int)==0)&&aI N M Z M M))/\Ax w.heap.size w h:=by
 obtain⟨j,o,rfl⟩:=c.t.form;obtain⟨l,p,rfl⟩:=c.n.form;obtain⟨m,q,rfl⟩:=c.k.form;have b:=St.start c;have r:=c.lx;have i:Hid (N.x.size<=1100000):=by show _<=_;omega
 clear c;have s:=nF d;have u:=sn d 23 rfl;clear d;cases t0:((N.ks.length:Int)==0)
 case' true=>
  cases t1:aI N M Z M M
 all_goals
  unfold eC;go_in;go_wp2_with (first|(go_at_call 114;refine(mz _ N _ _ b.a.n b.a.k b.a.l1).mono ?_;rintro e h ⟨rfl,f⟩;replace b:=b.below f;clear f;obtain⟨v,y,z,A,B,C,E,F,G,H⟩:=ax b.bn;have I:=b.bt));go_ret;exact⟨rfl,b.bel⟩
theorem adc{w:A0}{h:V}{ns:List Nd}{N:Nd}{vn vk:V}(c:fI w h ns N vn vk)(f:N.k=24):
  A1 U 67 #[W #[h],eC N vn vk] w fun e g=>e= T (A3 (((N.ks.length:Int)==0)&&aI N M M Z M&&fok N.x))/\Ax w.heap.size w g:=by
 obtain⟨z,C,rfl⟩:=c.t.form;obtain⟨A,E,rfl⟩:=c.n.form;obtain⟨B,F,rfl⟩:=c.k.form;have b:=St.start c;have G:=c.lx;have i:Hid (N.x.size<=1100000):=by show _<=_;omega
 clear c;have H:=nF f;have I:=sn f 24 rfl;clear f;cases t0:((N.ks.length:Int)==0)
 case' true=>
  cases t1:aI N M M Z M
  case' true=>
   cases t2:fok N.x
 all_goals
  unfold eC;go_in;go_wp2_with (first|(go_at_call 114;refine(mA _ N _ _ b.a.n b.a.k b.a.l1).mono ?_;rintro e g ⟨rfl,d⟩;replace b:=b.below d;clear d;obtain⟨j,l,m,o,p,q,r,s,u,v⟩:=ax b.bn;have y:=b.bt)|(go_at_call 118;refine(He N.x i.out _).mono ?_;rintro e g ⟨rfl,d⟩;replace b:=b.below d;clear d;obtain⟨j,l,m,o,p,q,r,s,u,v⟩:=ax b.bn;have y:=b.bt));go_ret;exact⟨rfl,b.bel⟩
theorem ade{w:A0}{g:V}{ns:List Nd}{N:Nd}{vn vk:V}(c:fI w g ns N vn vk)(d:N.k=25):
  A1 U 67 #[W #[g],eC N vn vk] w fun e h=>e= T (A3 (((N.ks.length:Int)==0)&&aI N M M Z M&&decide ((N.x.size:Int)<=4000)))/\Ax w.heap.size w h:=by
 obtain⟨j,o,rfl⟩:=c.t.form;obtain⟨l,p,rfl⟩:=c.n.form;obtain⟨m,q,rfl⟩:=c.k.form;have b:=St.start c;have r:=c.lx;have i:Hid (N.x.size<=1100000):=by show _<=_;omega
 clear c;have s:=nF d;have u:=sn d 25 rfl;clear d;cases t0:((N.ks.length:Int)==0)
 case' true=>
  cases t1:aI N M M Z M
  case' true=>
   cases t2:decide ((N.x.size:Int)<=4000)
 all_goals
  unfold eC;go_in;go_wp2_with (first|(go_at_call 114;refine(mA _ N _ _ b.a.n b.a.k b.a.l1).mono ?_;rintro e h ⟨rfl,f⟩;replace b:=b.below f;clear f;obtain⟨v,y,z,A,B,C,E,F,G,H⟩:=ax b.bn;have I:=b.bt));go_ret;exact⟨rfl,b.bel⟩
theorem adf{w:A0}{h:V}{ns:List Nd}{N:Nd}{vn vk:V}(c:fI w h ns N vn vk)(f:N.k=26):
  A1 U 67 #[W #[h],eC N vn vk] w fun e g=>e= T (A3 (((N.ks.length:Int)==0)&&aI N M M Z M&&oz N.x))/\Ax w.heap.size w g:=by
 obtain⟨z,C,rfl⟩:=c.t.form;obtain⟨A,E,rfl⟩:=c.n.form;obtain⟨B,F,rfl⟩:=c.k.form;have b:=St.start c;have G:=c.lx;have i:Hid (N.x.size<=1100000):=by show _<=_;omega
 clear c;have H:=nF f;have I:=sn f 26 rfl;clear f;cases t0:((N.ks.length:Int)==0)
 case' true=>
  cases t1:aI N M M Z M
  case' true=>
   cases t2:oz N.x
 all_goals
  unfold eC;go_in;go_wp2_with (first|(go_at_call 114;refine(mA _ N _ _ b.a.n b.a.k b.a.l1).mono ?_;rintro e g ⟨rfl,d⟩;replace b:=b.below d;clear d;obtain⟨j,l,m,o,p,q,r,s,u,v⟩:=ax b.bn;have y:=b.bt)|(go_at_call 119;refine(nE N.x i.out _).mono ?_;rintro e g ⟨rfl,d⟩;replace b:=b.below d;clear d;obtain⟨j,l,m,o,p,q,r,s,u,v⟩:=ax b.bn;have y:=b.bt));go_ret;exact⟨rfl,b.bel⟩
def LK:List Int:=[20,21,22,27,23,24,25,26,28,29,32,30,31,33,34,35,36,37,40,41,42]
theorem agw{w:A0}{f:V}{ns:List Nd}{N:Nd}{vn vk:V}(d:fI w f ns N vn vk)(b:∀c∈LK,N.k≠c):
  A1 U 67 #[W #[f],eC N vn vk] w fun e h=>e= T (A3 M)/\Ax w.heap.size w h:=by
 obtain⟨i,m,rfl⟩:=d.t.form;obtain⟨j,o,rfl⟩:=d.n.form;obtain⟨l,p,rfl⟩:=d.k.form;have g:=St.start d;clear d;have q:(N.k==20)=M:=by rw[aK];exact fun a=>b 20 (by decide) a
 have r:(N.k==21)=M:=by rw[aK];exact fun a=>b 21 (by decide) a
 have s:(N.k==22)=M:=by rw[aK];exact fun a=>b 22 (by decide) a
 have z:(N.k==27)=M:=by rw[aK];exact fun a=>b 27 (by decide) a
 have u:(N.k==23)=M:=by rw[aK];exact fun a=>b 23 (by decide) a
 have v:(N.k==24)=M:=by rw[aK];exact fun a=>b 24 (by decide) a
 have x:(N.k==25)=M:=by rw[aK];exact fun a=>b 25 (by decide) a
 have y:(N.k==26)=M:=by rw[aK];exact fun a=>b 26 (by decide) a
 have A:(N.k==28)=M:=by rw[aK];exact fun a=>b 28 (by decide) a
 have B:(N.k==29)=M:=by rw[aK];exact fun a=>b 29 (by decide) a
 have F:(N.k==32)=M:=by rw[aK];exact fun a=>b 32 (by decide) a
 have C:(N.k==30)=M:=by rw[aK];exact fun a=>b 30 (by decide) a
 have E:(N.k==31)=M:=by rw[aK];exact fun a=>b 31 (by decide) a
 have G:(N.k==33)=M:=by rw[aK];exact fun a=>b 33 (by decide) a
 have H:(N.k==34)=M:=by rw[aK];exact fun a=>b 34 (by decide) a
 have I:(N.k==35)=M:=by rw[aK];exact fun a=>b 35 (by decide) a
 have J:(N.k==36)=M:=by rw[aK];exact fun a=>b 36 (by decide) a
 have K:(N.k==37)=M:=by rw[aK];exact fun a=>b 37 (by decide) a
 have L:(N.k==40)=M:=by rw[aK];exact fun a=>b 40 (by decide) a
 have ad:(N.k==41)=M:=by rw[aK];exact fun a=>b 41 (by decide) a
 have af:(N.k==42)=M:=by rw[aK];exact fun a=>b 42 (by decide) a
 clear b;unfold eC;go_in;go_wp2;go_ret;exact⟨rfl,g.bel⟩
def enB(ns:List Nd)(N:Nd):Nat->Nat->Bool
 |0,_=>Z
 |f+1,j=>decide (40<=dH ns N j/\dH ns N j<=42)&&enB ns N f (j+1)
structure ai1 (ns:List Nd) (N:Nd) (f j:Nat) (R:Bool):Prop where
 out:enB ns N f j=R
theorem adg{w:A0}{ak:V}{ns:List Nd}{N:Nd}{vn vk:V}(j:fI w ak ns N vn vk)(c:N.k=35):
  A1 U 67 #[W #[ak],eC N vn vk] w fun e o=>e= T (A3 (enB ns N N.ks.length 0&&aI N M M M M))/\Ax w.heap.size w o:=by
 obtain⟨H,K,rfl⟩:=j.t.form;obtain⟨I,L,rfl⟩:=j.n.form;obtain⟨J,ad,rfl⟩:=j.k.form;have b:=St.start j;have a4:=j.l2;clear j;have a5:=nF c 20 rfl;have a6:=nF c 21 rfl;have a7:=nF c 22 rfl;have bh:=nF c 27 rfl;have a8:=nF c 23 rfl;have a9:=nF c 24 rfl;have bb:=nF c 25 rfl;have bd:=nF c 26 rfl;have bk:=nF c 28 rfl;have bl:=nF c 29 rfl;have bs:=nF c 32 rfl;have bo:=nF c 30 rfl;have br:=nF c 31 rfl;have bw:=nF c 33 rfl;have bx:=nF c 34 rfl;have bA:=sn c 35 rfl;clear c;obtain⟨E,F⟩:=ay (enB ns N N.ks.length 0);rw[F];have am:ai1 ns N N.ks.length 0 E:=⟨F⟩;clear F;unfold eC;go_in;go_wp2_with fail;generalize (w.alloc (A4 #[Y H ns.length K] 26)).alloc (A4 #[O Q N.k,O Q N.f,O Q N.t,O Q N.l,O Q N.op,O Q N.n,S N.x,Y I N.nm.length L,Y J N.ks.length ad] 53)=ap at b⊢;go_loopw [6,7,200] (fun _ _ G wr=>∃(d:Nat),G= O Q d/\d<=N.ks.length/\ai1 ns N (N.ks.length-d) d E/\St w (Y H ns.length K) ns N (Y I N.nm.length L) (Y J N.ks.length ad) wr) (fun _ _ G _=>N.ks.length-(A2 G).toNat)
 case atStart=>exact⟨0,rfl,by omega,am,b⟩
 case round=>
  clear b;obtain⟨d,rfl,a0,al,b⟩:=hrel;obtain⟨p,q,r,s,u,v,y,z,A,B⟩:=ax b.bn;have C:=b.bt;have g:=al.out;by_cases ao:d<N.ks.length
  ·rw[show N.ks.length-d=(N.ks.length-(d+1))+1 by omega,enB]at g;have an:(d:Int)<(N.ks.length:Int):=by omega
   have m:=jz b.a d ao;unfold eC at m;generalize dH ns N d=af at g m;by_cases ar:af<40
   ·rw[aB (by omega),dJ]at g;have i:=aw g;clear g;go_wp2_with (go_at_call 113;refine m.mono ?_;rintro e o ⟨rfl,h⟩;replace b:=b.below h;clear h;obtain⟨p,q,r,s,u,v,y,z,A,B⟩:=ax b.bn;have C:=b.bt);go_ret;exact⟨by rw[<-i.out];rfl,b.bel⟩
   by_cases av:42<af
   ·rw[aB (by omega),dJ]at g;have i:=aw g;clear g;go_wp2_with (go_at_call 113;refine m.mono ?_;rintro e o ⟨rfl,h⟩;replace b:=b.below h;clear h;obtain⟨p,q,r,s,u,v,y,z,A,B⟩:=ax b.bn;have C:=b.bt);go_ret;exact⟨by rw[<-i.out];rfl,b.bel⟩
   rw[bC (by omega),eG]at g;have i:ai1 ns N (N.ks.length-(d+1)) (d+1) E:=⟨g⟩;clear g;go_wp2_with (go_at_call 113;refine m.mono ?_;rintro e o ⟨rfl,h⟩;replace b:=b.below h;clear h;obtain⟨p,q,r,s,u,v,y,z,A,B⟩:=ax b.bn;have C:=b.bt);exact⟨⟨d+1,by go_num,by omega,i,b⟩,by simp[A2];omega⟩
  ·rw[show N.ks.length-d=0 by omega,enB]at g;have i:=aw g;have an:¬(d:Int)<(N.ks.length:Int):=by omega
   clear g;go_wp2_with (go_at_call 114;refine(cE _ N _ _ b.a.n b.a.k b.a.l1).mono ?_;rintro e o ⟨rfl,h⟩;replace b:=b.below h;clear h;obtain⟨p,q,r,s,u,v,y,z,A,B⟩:=ax b.bn;have C:=b.bt);go_ret;exact⟨by rw[<-i.out];rfl,b.bel⟩
def sbB(ns:List Nd)(N:Nd):Nat->Nat->Bool
 |0,_=>Z
 |f+1,j=>pE (dH ns N j)&&sbB ns N f (j+1)
structure ai2 (ns:List Nd) (N:Nd) (f j:Nat) (R:Bool):Prop where
 out:sbB ns N f j=R
theorem agx{w:A0}{al:V}{ns:List Nd}{N:Nd}{vn vk:V}(h:fI w al ns N vn vk)(af:N.k=1):
  A1 U 66 #[W #[al],eC N vn vk] w fun e o=>e= T (A3 (sbB ns N N.ks.length 0&&aI N M M M M))/\Ax w.heap.size w o:=by
 obtain⟨H,K,rfl⟩:=h.t.form;obtain⟨I,L,rfl⟩:=h.n.form;obtain⟨J,ad,rfl⟩:=h.k.form;have b:=St.start h;have a0:=h.l2;clear h;have a4:(N.k==1)=Z:=by rw[af];rfl
 clear af;obtain⟨p,q⟩:=ay (sbB ns N N.ks.length 0);rw[q];have an:ai2 ns N N.ks.length 0 p:=⟨q⟩;clear q;unfold eC;go_in;go_wp2_with fail;generalize (w.alloc (A4 #[Y H ns.length K] 26)).alloc (A4 #[O Q N.k,O Q N.f,O Q N.t,O Q N.l,O Q N.op,O Q N.n,S N.x,Y I N.nm.length L,Y J N.ks.length ad] 53)=ar at b⊢;go_loopw [6,18] (fun _ r wr=>∃(c:Nat),r= O Q c/\c<=N.ks.length/\ai2 ns N (N.ks.length-c) c p/\St w (Y H ns.length K) ns N (Y I N.nm.length L) (Y J N.ks.length ad) wr) (fun _ r _=>N.ks.length-(A2 r).toNat)
 case atStart=>exact⟨0,rfl,by omega,an,b⟩
 case round=>
  clear b;obtain⟨c,rfl,av,am,b⟩:=hrel;obtain⟨s,u,v,y,z,A,B,C,E,F⟩:=ax b.bn;have G:=b.bt;have d:=am.out;by_cases ap:c<N.ks.length
  ·rw[show N.ks.length-c=(N.ks.length-(c+1))+1 by omega,sbB]at d;have ao:(c:Int)<(N.ks.length:Int):=by omega
   have j:=jz b.a c ap;unfold eC at j;generalize dH ns N c=ak at d j;have m:=fun w=>Bz ak w;cases hx:pE ak with
   |false=>
    rw[hx,dJ]at d;rw[hx]at m;have i:=aw d;clear d hx;go_wp2_with (first|(go_at_call 113;refine j.mono ?_;rintro e o ⟨rfl,g⟩;replace b:=b.below g;clear g;obtain⟨s,u,v,y,z,A,B,C,E,F⟩:=ax b.bn;have G:=b.bt)|(go_at_call 65;refine dK (m _) ?_));go_ret;exact⟨by rw[<-i.out];rfl,b.bel⟩
   |true=>
    rw[hx,eG]at d;rw[hx]at m;have i:ai2 ns N (N.ks.length-(c+1)) (c+1) p:=⟨d⟩;clear d hx;go_wp2_with (first|(go_at_call 113;refine j.mono ?_;rintro e o ⟨rfl,g⟩;replace b:=b.below g;clear g;obtain⟨s,u,v,y,z,A,B,C,E,F⟩:=ax b.bn;have G:=b.bt)|(go_at_call 65;refine dK (m _) ?_));exact⟨⟨c+1,by go_num,by omega,i,b⟩,by simp[A2];omega⟩
  ·rw[show N.ks.length-c=0 by omega,sbB]at d;have i:=aw d;have ao:¬(c:Int)<(N.ks.length:Int):=by omega
   clear d;go_wp2_with (go_at_call 114;refine(cE _ N _ _ b.a.n b.a.k b.a.l1).mono ?_;rintro e o ⟨rfl,g⟩;replace b:=b.below g;clear g;obtain⟨s,u,v,y,z,A,B,C,E,F⟩:=ax b.bn;have G:=b.bt);go_ret;exact⟨by rw[<-i.out];rfl,b.bel⟩
