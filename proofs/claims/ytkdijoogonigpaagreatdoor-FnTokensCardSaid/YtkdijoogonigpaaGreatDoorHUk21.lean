import Derived.Test.YtkdijoogonigpaaGreatDoorHUk09
import Derived.Test.YtkdijoogonigpaaGreatDoorHUk17
import Derived.Test.YtkdijoogonigpaaGreatDoorHUk15
import Derived.Test.YtkdijoogonigpaaGreatDoorHUk06
set_option linter.all false
set_option maxRecDepth 100000
set_option maxHeartbeats 6400000
open Go.Value renaming int->M,string->Q,agg->X,tuple->Y,slice->Z
open Go.IntKind renaming i64->O
open Bool renaming false->S,true->B0
open Go renaming Value->T,World->Ax,Calls->B1
open Go.Ending renaming returned->U
open Go.Obj renaming cells->V
open Go.Proofs.Tryz renaming prog->A0
open Go.RowKit renaming Below->A2,intOf->Br
namespace Go.Proofs.YtkdijoogonigpaaGreatDoor
open Go.RowKit Go.Maps Go.WideMaps
structure BI (s:ByteArray) (f p:Nat) (a:List Int) (R:Bool×Nat×List Int):Prop where
 out:bH s f p a=R
def ym(p:Nat)(a:Bool×Nat×List Int):T:=if a.1=B0 then X #[M O 4,M O p,M O (a.2.1:Int),M O 0,M O 0,Q (co a.2.2)] else X #[M O 4,M O p,M O 0,M O 0,M O 0,Q ⟨#[]⟩]
def BJ(a:Bool×Nat×List Int):Int:=if a.1=B0 then -1 else(a.2.1:Int)
theorem yo{p a:Nat}{c:List Int}{b:Bool×Nat×List Int}(d:(B0,a,c)=b):(Ending.returned (Y #[X #[M O 4,M O p,M O (a:Int),M O 0,M O 0,Q (co c)],M O (-1)]))= U (Y #[ym p b,M O (BJ b)]):=by
 subst d;rfl
theorem ot{p a:Nat}{c:List Int}{b:Bool×Nat×List Int}(d:(S,a,c)=b):(Ending.returned (Y #[X #[M O 4,M O p,M O 0,M O 0,M O 0,Q ⟨#[]⟩],M O (a:Int)]))= U (Y #[ym p b,M O (BJ b)]):=by
 subst d;rfl
theorem zJ(s:ByteArray)(dd:s.size<=70000)(p:Nat)(dg:p<s.size)(w:Ax):B1 A0 46 #[Q s,X #[M O 0,M O p,M O 0,M O 0,M O 0,Q ⟨#[]⟩]] w fun e cf=>
  e= U (Y #[ym p (bH s (s.size+1) (p+1) []),M O (BJ (bH s (s.size+1) (p+1) []))])/\A2 w.heap.size w cf:=by
 obtain⟨F,bl⟩:=aD (bH s (s.size+1) (p+1) []);rw[bl];have cm:BI s (s.size+1) (p+1) [] F:=⟨bl⟩;clear bl;go_in;go_wp2_with fail;go_loopw [6,7,8,9] (fun bt cy d8 d9 wr=>∃(b l i:Nat) (g:List Int),bt= M O b/\cA w.heap.size wr 4 p 0 0 0 ⟨#[]⟩/\cA (w.heap.size+1) wr 0 0 0 0 0 ⟨#[]⟩/\wr.ownsRow (w.heap.size+2) 5 1 cy l (B8 g)/\s.size<b+i/\b<=s.size/\l<=b/\BI s i b g F/\A2 w.heap.size w wr/\w.heap.size+2<=wr.heap.size) (fun bt _ _ _ _=>s.size-(Br bt).toNat)
 case atStart=>
  have cr:cA (w.heap.size+1) ((w.alloc (V #[M O 4,M O p,M O 0,M O 0,M O 0,Q ⟨#[]⟩] 29)).alloc (V #[M O 0,M O 0,M O 0,M O 0,M O 0,Q ⟨#[]⟩] 29)) 0 0 0 0 0 ⟨#[]⟩:=by
   have:=ax (w.alloc (V #[M O 4,M O p,M O 0,M O 0,M O 0,Q ⟨#[]⟩] 29)) (V #[M O 0,M O 0,M O 0,M O 0,M O 0,Q ⟨#[]⟩] 29);rw[dI]at this;exact this
  exact⟨p+1,0,s.size+1,[],by go_num,(cg _ _ _ (by simp)).trans (ax w _),cr,dB _ _ _ _,by omega,by omega,by omega,cm,((aq _ w).alloc (ag _) _).alloc (by simp) _,by simp⟩
 case round=>
  obtain⟨b,l,i,g,rfl,J,K,B,dc,dn,df,bE,n,r⟩:=hrel;obtain⟨cF,c0,c1,c4,c5,c6,c7⟩:=aE J;obtain⟨z0,al,am,an,ap,av,ea⟩:=aE K;obtain⟨i,rfl⟩:∃G,i=G+1:=⟨i-1,by omega⟩;have c:=bE.out;unfold bH at c;clear bE;by_cases b6:b<s.size
  ·have cv:=fG b6;have b8:=fun w=>ch b6 w;have dk:(b:Int)<(s.size:Int):=by omega
   rw[aa (by omega)]at c;obtain⟨A,b5⟩:=aD (ao s b);rw[b5]at cv b8 c;clear b5;by_cases bb:A=34
   ·subst bb;rw[ab rfl]at c;have f:=ar c;clear c;rcases B.2 with⟨rfl,cs⟩|⟨G,a6,c8,rfl,d2⟩
    ·have b4:g=[]:=by have:=oI B;rw[cs]at this;exact jd this
     have ck:=ar b4;clear b4;have cu:=qI;go_wp2_with fail;refine bg (v:= Y #[X #[M O 4,M O p,M O ((b:Int)+1),M O 0,M O 0,Q ByteArray.empty],M O (-1)]) (by simp[results,Tryz.results46,go_sem,z0,al,am,an,ap,av]) rfl ⟨by have h:=f.out;rw[ck.out]at h;exact yo h,?_⟩
     iterate 8 refine dK ?_ (by simp) _
     exact n
    ·have cu:=ir (gq (a:=⟨w.heap.size,2,none⟩) B (by simp) (M O ((b:Int)+1)));go_wp2_with fail;refine bg (v:= Y #[X #[M O 4,M O p,M O ((b:Int)+1),M O 0,M O 0,Q (co g)],M O (-1)]) (by simp[results,Tryz.results46,go_sem,z0,al,am,an,ap,av]) rfl ⟨yo f.out,?_⟩
     iterate 8 refine dK ?_ (by simp) _
     exact n
   rw[aa bb]at c;have dx:(A==34)=S:=by simp[bb]
   by_cases bd:A=10
   ·subst bd;rw[ab rfl]at c;have f:=ar c;clear c;go_wp2_with fail;refine bg (v:= Y #[X #[M O 4,M O p,M O 0,M O 0,M O 0,Q ⟨#[]⟩],M O (b:Int)]) (by simp[results,Tryz.results46,go_sem,z0,al,am,an,ap,av]) rfl ⟨ot f.out,?_⟩
    iterate 6 refine dK ?_ (by simp) _
    exact n
   rw[aa bd]at c;have d0:(A==10)=S:=by simp[bd]
   by_cases bf:A=92
   ·subst bf;rw[ab rfl]at c;clear bb bd;have j:=fun w=>eC s (by omega) ((b:Int)+1) (b+1) (by omega) w;by_cases k:ao s (b+1)=110
    ·have x:=ba k (by omega);rw[show ed s (b+1)=(10,b+1+1,B0) by unfold ed;rw[ab k],ab rfl]at c;rw[nA x,k]at j;have f:BI s i (b+1+1) (g++[10]) F:=⟨c⟩;clear c k;go_wp2_with (first|(go_at_call 41;refine dz (j _) ?_)|(at_builtin;refine fs rfl (.tmp 51) (.tmp 52) rfl (w.heap.size+2) _ l g rfl B r (by omega) [10] 1 rfl (by decide) (by decide) _ rfl rfl ?_;intro G a6 w1 u d));go_roundw
     case rel=>exact⟨b+1+1,l+1,i,g++[10],by go_num,J.below d (by omega),K.below d (by omega),u,by omega,by omega,by omega,f,n.trans (d.mono (by omega)),bA r d.size⟩
     case measure=>simp[Br];omega
    by_cases m:ao s (b+1)=116
    ·have x:=ba m (by omega);rw[show ed s (b+1)=(9,b+1+1,B0) by unfold ed;rw[aa k,ab m],ab rfl]at c;rw[nA x,m]at j;have f:BI s i (b+1+1) (g++[9]) F:=⟨c⟩;clear c k m;go_wp2_with (first|(go_at_call 41;refine dz (j _) ?_)|(at_builtin;refine fs rfl (.tmp 56) (.tmp 57) rfl (w.heap.size+2) _ l g rfl B r (by omega) [9] 1 rfl (by decide) (by decide) _ rfl rfl ?_;intro G a6 w1 u d));go_roundw
     case rel=>exact⟨b+1+1,l+1,i,g++[9],by go_num,J.below d (by omega),K.below d (by omega),u,by omega,by omega,by omega,f,n.trans (d.mono (by omega)),bA r d.size⟩
     case measure=>simp[Br];omega
    by_cases q:ao s (b+1)=34
    ·have x:=ba q (by omega);rw[show ed s (b+1)=(34,b+1+1,B0) by unfold ed;rw[aa k,aa m,ab (Or.inl q),q],ab rfl]at c;rw[nA x,q]at j;have bp:=fun w=>qJ x w;rw[q]at bp;have f:BI s i (b+1+1) (g++[34]) F:=⟨c⟩;clear c k m q;go_wp2_with (first|(go_at_call 41;refine dz (j _) ?_)|(at_builtin;refine fs rfl (.tmp 62) (.tmp 66) rfl (w.heap.size+2) _ l g rfl B r (by omega) [34] 1 rfl (by decide) (by decide) _ rfl rfl ?_;intro G a6 w1 u d));go_roundw
     case rel=>exact⟨b+1+1,l+1,i,g++[34],by go_num,J.below d (by omega),K.below d (by omega),u,by omega,by omega,by omega,f,n.trans (d.mono (by omega)),bA r d.size⟩
     case measure=>simp[Br];omega
    by_cases t:ao s (b+1)=92
    ·have x:=ba t (by omega);rw[show ed s (b+1)=(92,b+1+1,B0) by unfold ed;rw[aa k,aa m,ab (Or.inr t),t],ab rfl]at c;rw[nA x,t]at j;have bp:=fun w=>qJ x w;rw[t]at bp;have f:BI s i (b+1+1) (g++[92]) F:=⟨c⟩;clear c k m q t;go_wp2_with (first|(go_at_call 41;refine dz (j _) ?_)|(at_builtin;refine fs rfl (.tmp 62) (.tmp 66) rfl (w.heap.size+2) _ l g rfl B r (by omega) [92] 1 rfl (by decide) (by decide) _ rfl rfl ?_;intro G a6 w1 u d));go_roundw
     case rel=>exact⟨b+1+1,l+1,i,g++[92],by go_num,J.below d (by omega),K.below d (by omega),u,by omega,by omega,by omega,f,n.trans (d.mono (by omega)),bA r d.size⟩
     case measure=>simp[Br];omega
    by_cases I:ao s (b+1)=120
    ·have x:=ba I (by omega);rw[nA x,I]at j;have b1:ed s (b+1)=hexI s (b+1+1):=by unfold ed;rw[aa k,aa m,aa (fun h=>h.elim q t),ab I]
     rw[b1]at c;unfold hexI at c;have C:=fun w=>eC s (by omega) ((b:Int)+1+1) (b+1+1) (by omega) w;have ak:=fun w=>eC s (by omega) ((b:Int)+1+2) (b+1+1+1) (by omega) w;have a8:=EG s (b+1+1);have a9:=EG s (b+1+1+1);have o:=fun w=>sw (lk s (b+1+1)) a8.1 a8.2 w;have z:=fun w=>sw (lk s (b+1+1+1)) a9.1 a9.2 w;rw[E2]at o z;have bw:=jl (ao s (b+1+1));have bx:=jl (ao s (b+1+1+1));clear b1 k m q t I;by_cases L:dE (ao s (b+1+1))<0
     ·rw[ab L,aa (by simp)]at c;have f:=ar c;generalize lk s (b+1+1)=b0 at C o;generalize dE (ao s (b+1+1))=y at o L;clear c ak z bw bx a8 a9;go_wp2_with (go_at_call 41;refine dz (j _) ?_);refine lD 3 ?_;rw[fD];clear j;go_wp2_with (first|(go_at_call 41;refine dz (C _) ?_)|(go_at_call 67;refine dz (o _) ?_));refine bg (v:= Y #[X #[M O 4,M O p,M O 0,M O 0,M O 0,Q ⟨#[]⟩],M O ((b:Int)+1+1)]) (by simp[results,Tryz.results46,go_sem,z0,al,am,an,ap,av]) rfl ⟨ot f.out,?_⟩
      iterate 6 refine dK ?_ (by simp) _
      exact n
     rw[aa L]at c;have b7:0<=dE (ao s (b+1+1)):=by omega
     by_cases a7:dE (ao s (b+1+1+1))<0
     ·rw[ab a7,aa (by simp)]at c;have f:=ar c;generalize lk s (b+1+1)=b0 at C o;generalize dE (ao s (b+1+1))=y at o L b7;generalize lk s (b+1+1+1)=cn at ak z;generalize dE (ao s (b+1+1+1))=H at z a7;clear c bw bx a8 a9;go_wp2_with (go_at_call 41;refine dz (j _) ?_);refine lD 3 ?_;rw[fD];clear j;go_wp2_with (first|(go_at_call 41;refine dz (C _) ?_)|(go_at_call 67;refine dz (o _) ?_));rw[fD];clear C o;go_wp2_with (first|(go_at_call 41;refine dz (ak _) ?_)|(go_at_call 67;refine dz (z _) ?_));refine bg (v:= Y #[X #[M O 4,M O p,M O 0,M O 0,M O 0,Q ⟨#[]⟩],M O ((b:Int)+1+2)]) (by simp[results,Tryz.results46,go_sem,z0,al,am,an,ap,av]) rfl ⟨by have h:=ot (p:=p) f.out;rw[show((b+1+1+1:Nat):Int)=(b:Int)+1+2 by omega]at h;exact h,?_⟩
      iterate 6 refine dK ?_ (by simp) _
      exact n
     have bn:b+1+1<s.size:=by
      rcases be (b+1+1) s.size with h|h
      ·exact h
      ·rw[ci (by omega)]at L;exact absurd (by decide) L
     have bo:b+1+1+1<s.size:=by
      rcases be (b+1+1+1) s.size with h|h
      ·exact h
      ·rw[ci (by omega)]at a7;exact absurd (by decide) a7
     have br:=fun w=>ch bn w;have bs:=fun w=>ch bo w;rw[show((b+1+1:Nat):Int)=(b:Int)+1+1 by omega]at br;rw[show((b+1+1+1:Nat):Int)=(b:Int)+1+2 by omega]at bs;rw[aa a7,ab rfl]at c;rw[nA bn]at C o;rw[nA bo]at ak z;have ct:0<=dE (ao s (b+1+1+1)):=by omega
     have f:BI s i (b+1+1+1+1) (g++[dE (ao s (b+1+1))*16+dE (ao s (b+1+1+1))]) F:=⟨c⟩;clear c a8 a9;have cp:=fG bn;have cq:=fG bo;generalize dE (ao s (b+1+1))=y at o L b7 bw f;generalize dE (ao s (b+1+1+1))=H at z a7 ct bx f;generalize ao s (b+1+1)=b0 at C o br cp;generalize ao s (b+1+1+1)=cn at ak z bs cq;rw[show y*16+H=16*y+H by omega]at f;go_wp2_with (go_at_call 41;refine dz (j _) ?_);refine lD 3 ?_;rw[fD];clear j;go_wp2_with (first|(go_at_call 41;refine dz (C _) ?_)|(go_at_call 67;refine dz (o _) ?_));rw[fD];clear C;go_wp2_with (first|(go_at_call 41;refine dz (ak _) ?_)|(go_at_call 67;refine dz (z _) ?_));rw[fD];clear ak;go_wp2_with fail;obtain⟨E,bj⟩:∃E:Int,(b:Int)+1=E:=⟨_,rfl⟩;rw[bj]at br bs⊢;have cl:=ar bj;have d3:IntKind.i64.wrap (E+1)=E+1:=ue _ (by omega);have d4:IntKind.i64.wrap (E+2)=E+2:=ue _ (by omega);have d5:IntKind.i64.wrap (16*y)=16*y:=ue _ (by omega);have d6:IntKind.i64.wrap (16*y+H)=16*y+H:=ue _ (by omega);have d7:IntKind.u8.wrap (16*y+H)=16*y+H:=IntWalk.u8_in _ (by omega);have c9:0<=E:=by omega
     have da:E<=70001:=by omega
     clear bj b8;go_region_held3 (fun cf=>True) (trivial) ((first|(go_at_call 67;with_reducible refine dz (o _) ?_)|(go_at_call 67;with_reducible refine dz (z _) ?_)|(refine ug (by rfl) _ _ (by rfl) (w.heap.size+2) _ l g (by rfl) B r (by omega) [_] 1 (by rfl) (by decide) (by decide) _ (by rfl) (by rfl) ?_;intro G a6 w1 u d)))
     all_goals
      go_wp2_with fail;have ds:=cl.out;exact⟨⟨b+1+1+1+1,l+1,i,g++[16*y+H],by congr 1<;>omega,J.below d (by omega),K.below d (by omega),u,by omega,by omega,by omega,f,n.trans (d.mono (by omega)),bA r d.size⟩,by simp[Br];omega⟩
    rw[show ed s (b+1)=(0,b+1,S) by unfold ed;rw[aa k,aa m,aa (fun h=>h.elim q t),aa I],aa (by simp)]at c;have f:=ar c;have b9:=oc s (b+1) 110 (by omega);have ca:=oc s (b+1) 116 (by omega);have cb:=oc s (b+1) 34 (by omega);have cc:=oc s (b+1) 92 (by omega);have ce:=oc s (b+1) 120 (by omega);rw[bk k]at b9;rw[bk m]at ca;rw[bk q]at cb;rw[bk t]at cc;rw[bk I]at ce;generalize lk s (b+1)=cz at j b9 ca cb cc ce;clear c k m q t I;go_wp2_with (go_at_call 41;refine dz (j _) ?_);refine bg (v:= Y #[X #[M O 4,M O p,M O 0,M O 0,M O 0,Q ⟨#[]⟩],M O ((b:Int)+1)]) (by simp[results,Tryz.results46,go_sem,z0,al,am,an,ap,av]) rfl ⟨ot f.out,?_⟩
    iterate 6 refine dK ?_ (by simp) _
    exact n
   rw[aa bf]at c;have d1:(A==92)=S:=by simp[bf]
   have f:BI s i (b+1) (g++[A]) F:=⟨c⟩;clear c;go_wp2_with (at_builtin;refine fs rfl (.tmp 36) (.tmp 38) rfl (w.heap.size+2) _ l g rfl B r (by omega) [A] 1 rfl (by decide) (by decide) _ rfl rfl ?_;intro G a6 w1 u d);go_roundw
   case rel=>exact⟨b+1,l+1,i,g++[A],by go_num,J.below d (by omega),K.below d (by omega),u,by omega,by omega,by omega,f,n.trans (d.mono (by omega)),bA r d.size⟩
   case measure=>simp[Br];omega
  ·rw[ab (by omega)]at c;have f:=ar c;clear c;obtain rfl:b=s.size:=by omega
   go_wp2_with fail;refine bg (v:= Y #[X #[M O 4,M O p,M O 0,M O 0,M O 0,Q ⟨#[]⟩],M O (s.size:Int)]) (by simp[results,Tryz.results46,go_sem,z0,al,am,an,ap,av]) rfl ⟨ot f.out,?_⟩
   iterate 6 refine dK ?_ (by simp) _
   exact n
structure ez (W:Ax) (vt:T) (ns:List Nd) (N:Nd) (vn vk:T):Prop where
 t:bI W vt ns
 n:cj W vn N.nm
 k:aJ W vk N.ks
 ok:sB ns N
 ln:ns.length<=1048576
 l1:N.nm.length<=1048576
 l2:N.ks.length<=1048576
 lx:N.x.size<=1048576
 ls:∀s∈N.nm,s.size<=1048576
theorem ez.below{b d:Ax}{e:T}{ns:List Nd}{N:Nd}{vn vk:T}(a:ez b e ns N vn vk)(c:A2 b.heap.size b d):ez d e ns N vn vk:=
 ⟨a.t.below c,a.n.below c,a.k.below c,a.ok,a.ln,a.l1,a.l2,a.lx,a.ls⟩
structure St (w:Ax) (vt:T) (ns:List Nd) (N:Nd) (vn vk:T) (W:Ax):Prop where
 a:ez W vt ns N vn vk
 bt:W.cell? ⟨w.heap.size,0,none⟩=some vt
 bn:cw (w.heap.size+1) W 96 N vn vk
 bel:A2 w.heap.size w W
theorem St.below{w:Ax}{f:T}{ns:List Nd}{N:Nd}{vn vk:T}{d e:Ax}(b:St w f ns N vn vk d)(c:A2 d.heap.size d e):St w f ns N vn vk e:=
 ⟨b.a.below c,bm c b.bt,b.bn.below c,b.bel.trans (c.mono b.bel.size)⟩
theorem St.start{w:Ax}{a:T}{ns:List Nd}{N:Nd}{vn vk:T}(c:ez w a ns N vn vk):St w a ns N vn vk ((w.alloc (V #[a] 76)).alloc (V #[M O N.k,M O N.f,M O N.t,M O N.l,M O N.op,M O N.n,Q N.x,vn,vk] 96)):=by
 have b:A2 w.heap.size w ((w.alloc (V #[a] 76)).alloc (V #[M O N.k,M O N.f,M O N.t,M O N.l,M O N.op,M O N.n,Q N.x,vn,vk] 96)):=((aq _ w).alloc (ag _) _).alloc (by simp) _;refine⟨c.below b,?_,?_,b⟩
 ·rw[ay _ _ _ _ _ _ ((cg _ _ _ (by simp)).trans (ax w _))];rfl
 ·have:=ax (w.alloc (V #[a] 76)) (V #[M O N.k,M O N.f,M O N.t,M O N.l,M O N.op,M O N.n,Q N.x,vn,vk] 96);rw[dI]at this;exact this
theorem gL{w:Ax}{b:T}{ns:List Nd}{N:Nd}{vn vk:T}(a:ez w b ns N vn vk)(i:Nat)(h:i<N.ks.length):
  B1 A0 155 #[X #[b],cE N vn vk,M O i] w fun e j=>e= U (M O (dm ns N i))/\A2 w.heap.size w j:=by
 obtain⟨l,c,d,f,g,m⟩:=a.ok.get h;rw[g];exact Gz w b ns N c vn vk i l a.t a.n a.k d f a.ln a.l2
def Fw:List Int:=[20,21,22,27,23,24,25,26,28,29,32,30,31,33,34,35,36,37,40,41,42]
theorem aa8{w:Ax}{f:T}{ns:List Nd}{N:Nd}{vn vk:T}(d:ez w f ns N vn vk)(b:∀c∈Fw,N.k≠c):
  B1 A0 136 #[X #[f],cE N vn vk] w fun e h=>e= U (.bool S)/\A2 w.heap.size w h:=by
 obtain⟨i,m,rfl⟩:=d.t.form;obtain⟨j,o,rfl⟩:=d.n.form;obtain⟨l,p,rfl⟩:=d.k.form;have g:=St.start d;clear d;have q:(N.k==20)=S:=by rw[aC];exact fun a=>b 20 (by decide) a
 have r:(N.k==21)=S:=by rw[aC];exact fun a=>b 21 (by decide) a
 have s:(N.k==22)=S:=by rw[aC];exact fun a=>b 22 (by decide) a
 have z:(N.k==27)=S:=by rw[aC];exact fun a=>b 27 (by decide) a
 have u:(N.k==23)=S:=by rw[aC];exact fun a=>b 23 (by decide) a
 have v:(N.k==24)=S:=by rw[aC];exact fun a=>b 24 (by decide) a
 have x:(N.k==25)=S:=by rw[aC];exact fun a=>b 25 (by decide) a
 have y:(N.k==26)=S:=by rw[aC];exact fun a=>b 26 (by decide) a
 have A:(N.k==28)=S:=by rw[aC];exact fun a=>b 28 (by decide) a
 have B:(N.k==29)=S:=by rw[aC];exact fun a=>b 29 (by decide) a
 have F:(N.k==32)=S:=by rw[aC];exact fun a=>b 32 (by decide) a
 have C:(N.k==30)=S:=by rw[aC];exact fun a=>b 30 (by decide) a
 have E:(N.k==31)=S:=by rw[aC];exact fun a=>b 31 (by decide) a
 have G:(N.k==33)=S:=by rw[aC];exact fun a=>b 33 (by decide) a
 have q34:(N.k==34)=S:=by rw[aC];exact fun a=>b 34 (by decide) a
 have H:(N.k==35)=S:=by rw[aC];exact fun a=>b 35 (by decide) a
 have I:(N.k==36)=S:=by rw[aC];exact fun a=>b 36 (by decide) a
 have J:(N.k==37)=S:=by rw[aC];exact fun a=>b 37 (by decide) a
 have K:(N.k==40)=S:=by rw[aC];exact fun a=>b 40 (by decide) a
 have L:(N.k==41)=S:=by rw[aC];exact fun a=>b 41 (by decide) a
 have af:(N.k==42)=S:=by rw[aC];exact fun a=>b 42 (by decide) a
 clear b;unfold cE;go_in;go_wp2;go_ret;exact⟨rfl,g.bel⟩
def enB(ns:List Nd)(N:Nd):Nat->Nat->Bool
 |0,_=>B0
 |f+1,j=>decide (40<=dm ns N j/\dm ns N j<=42)&&enB ns N f (j+1)
structure adq (ns:List Nd) (N:Nd) (f j:Nat) (R:Bool):Prop where
 out:enB ns N f j=R
theorem Jg{w:Ax}{al:T}{ns:List Nd}{N:Nd}{vn vk:T}(j:ez w al ns N vn vk)(c:N.k=35):
  B1 A0 136 #[X #[al],cE N vn vk] w fun e o=>e= U (.bool (enB ns N N.ks.length 0&&aA N S S S S))/\A2 w.heap.size w o:=by
 obtain⟨H,K,rfl⟩:=j.t.form;obtain⟨I,L,rfl⟩:=j.n.form;obtain⟨J,af,rfl⟩:=j.k.form;have b:=St.start j;have a7:=j.l2;clear j;have a8:=bu c 20 rfl;have a9:=bu c 21 rfl;have bb:=bu c 22 rfl;have bo:=bu c 27 rfl;have bd:=bu c 23 rfl;have bf:=bu c 24 rfl;have bj:=bu c 25 rfl;have bl:=bu c 26 rfl;have bp:=bu c 28 rfl;have br:=bu c 29 rfl;have bx:=bu c 32 rfl;have bs:=bu c 30 rfl;have bw:=bu c 31 rfl;have bE:=bu c 33 rfl;have q34:=bu c 34 rfl;have b0:=gE c 35 rfl;clear c;obtain⟨E,F⟩:=aD (enB ns N N.ks.length 0);rw[F];have an:adq ns N N.ks.length 0 E:=⟨F⟩;clear F;unfold cE;go_in;go_wp2_with fail;generalize (w.alloc (V #[Z H ns.length K] 76)).alloc (V #[M O N.k,M O N.f,M O N.t,M O N.l,M O N.op,M O N.n,Q N.x,Z I N.nm.length L,Z J N.ks.length af] 96)=a0 at b⊢;go_loopw [6,7,200] (fun _ _ G wr=>∃(d:Nat),G= M O d/\d<=N.ks.length/\adq ns N (N.ks.length-d) d E/\St w (Z H ns.length K) ns N (Z I N.nm.length L) (Z J N.ks.length af) wr) (fun _ _ G _=>N.ks.length-(Br G).toNat)
 case atStart=>exact⟨0,rfl,by omega,an,b⟩
 case round=>
  clear b;obtain⟨d,rfl,a6,am,b⟩:=hrel;obtain⟨p,q,r,s,u,v,y,z,A,B⟩:=aj b.bn;have C:=b.bt;have g:=am.out;by_cases av:d<N.ks.length
  ·rw[show N.ks.length-d=(N.ks.length-(d+1))+1 by omega,enB]at g;have ap:(d:Int)<(N.ks.length:Int):=by omega
   have m:=gL b.a d av;unfold cE at m;generalize dm ns N d=ak at g m;by_cases a4:ak<40
   ·rw[bk (by omega),ip]at g;have i:=ar g;clear g;go_wp2_with (go_at_call 155;refine m.mono ?_;rintro e o ⟨rfl,h⟩;replace b:=b.below h;clear h;obtain⟨p,q,r,s,u,v,y,z,A,B⟩:=aj b.bn;have C:=b.bt);go_ret;exact⟨by rw[<-i.out];rfl,b.bel⟩
   by_cases a5:42<ak
   ·rw[bk (by omega),ip]at g;have i:=ar g;clear g;go_wp2_with (go_at_call 155;refine m.mono ?_;rintro e o ⟨rfl,h⟩;replace b:=b.below h;clear h;obtain⟨p,q,r,s,u,v,y,z,A,B⟩:=aj b.bn;have C:=b.bt);go_ret;exact⟨by rw[<-i.out];rfl,b.bel⟩
   rw[cG (by omega),jf]at g;have i:adq ns N (N.ks.length-(d+1)) (d+1) E:=⟨g⟩;clear g;go_wp2_with (go_at_call 155;refine m.mono ?_;rintro e o ⟨rfl,h⟩;replace b:=b.below h;clear h;obtain⟨p,q,r,s,u,v,y,z,A,B⟩:=aj b.bn;have C:=b.bt);exact⟨⟨d+1,by go_num,by omega,i,b⟩,by simp[Br];omega⟩
  ·rw[show N.ks.length-d=0 by omega,enB]at g;have i:=ar g;have ap:¬(d:Int)<(N.ks.length:Int):=by omega
   clear g;go_wp2_with (go_at_call 156;refine(bJ _ N _ _ b.a.n b.a.k b.a.l1).mono ?_;rintro e o ⟨rfl,h⟩;replace b:=b.below h;clear h;obtain⟨p,q,r,s,u,v,y,z,A,B⟩:=aj b.bn;have C:=b.bt);go_ret;exact⟨by rw[<-i.out];rfl,b.bel⟩
theorem rz{w:Ax}{a:T}{ns:List Nd}{N:Nd}{vn vk:T}(b:ez w a ns N vn vk)(c:0<N.ks.length):
  B1 A0 155 #[X #[a],X #[M O N.k,M O N.f,M O N.t,M O N.l,M O N.op,M O N.n,Q N.x,vn,vk],M O 0] w fun e d=>e= U (M O (dm ns N 0))/\A2 w.heap.size w d:=gL b 0 c
theorem rA{w:Ax}{a:T}{ns:List Nd}{N:Nd}{vn vk:T}(b:ez w a ns N vn vk)(c:1<N.ks.length):
  B1 A0 155 #[X #[a],X #[M O N.k,M O N.f,M O N.t,M O N.l,M O N.op,M O N.n,Q N.x,vn,vk],M O 1] w fun e d=>e= U (M O (dm ns N 1))/\A2 w.heap.size w d:=gL b 1 c
def sbB(ns:List Nd)(N:Nd):Nat->Nat->Bool
 |0,_=>B0
 |f+1,j=>jE (dm ns N j)&&sbB ns N f (j+1)
structure adr (ns:List Nd) (N:Nd) (f j:Nat) (R:Bool):Prop where
 out:sbB ns N f j=R
theorem aa9{w:Ax}{am:T}{ns:List Nd}{N:Nd}{vn vk:T}(h:ez w am ns N vn vk)(ak:N.k=1):
  B1 A0 135 #[X #[am],cE N vn vk] w fun e o=>e= U (.bool (sbB ns N N.ks.length 0&&aA N S S S S))/\A2 w.heap.size w o:=by
 obtain⟨H,K,rfl⟩:=h.t.form;obtain⟨I,L,rfl⟩:=h.n.form;obtain⟨J,af,rfl⟩:=h.k.form;have b:=St.start h;have a6:=h.l2;clear h;have a7:(N.k==1)=B0:=by rw[ak];rfl
 clear ak;obtain⟨p,q⟩:=aD (sbB ns N N.ks.length 0);rw[q];have ap:adr ns N N.ks.length 0 p:=⟨q⟩;clear q;unfold cE;go_in;go_wp2_with fail;generalize (w.alloc (V #[Z H ns.length K] 76)).alloc (V #[M O N.k,M O N.f,M O N.t,M O N.l,M O N.op,M O N.n,Q N.x,Z I N.nm.length L,Z J N.ks.length af] 96)=a4 at b⊢;go_loopw [6,18] (fun _ r wr=>∃(c:Nat),r= M O c/\c<=N.ks.length/\adr ns N (N.ks.length-c) c p/\St w (Z H ns.length K) ns N (Z I N.nm.length L) (Z J N.ks.length af) wr) (fun _ r _=>N.ks.length-(Br r).toNat)
 case atStart=>exact⟨0,rfl,by omega,ap,b⟩
 case round=>
  clear b;obtain⟨c,rfl,a5,an,b⟩:=hrel;obtain⟨s,u,v,y,z,A,B,C,E,F⟩:=aj b.bn;have G:=b.bt;have d:=an.out;by_cases a0:c<N.ks.length
  ·rw[show N.ks.length-c=(N.ks.length-(c+1))+1 by omega,sbB]at d;have av:(c:Int)<(N.ks.length:Int):=by omega
   have j:=gL b.a c a0;unfold cE at j;generalize dm ns N c=al at d j;have m:=fun w=>vy al w;cases hx:jE al with
   |false=>
    rw[hx,ip]at d;rw[hx]at m;have i:=ar d;clear d hx;go_wp2_with (first|(go_at_call 155;refine j.mono ?_;rintro e o ⟨rfl,g⟩;replace b:=b.below g;clear g;obtain⟨s,u,v,y,z,A,B,C,E,F⟩:=aj b.bn;have G:=b.bt)|(go_at_call 134;refine dz (m _) ?_));go_ret;exact⟨by rw[<-i.out];rfl,b.bel⟩
   |true=>
    rw[hx,jf]at d;rw[hx]at m;have i:adr ns N (N.ks.length-(c+1)) (c+1) p:=⟨d⟩;clear d hx;go_wp2_with (first|(go_at_call 155;refine j.mono ?_;rintro e o ⟨rfl,g⟩;replace b:=b.below g;clear g;obtain⟨s,u,v,y,z,A,B,C,E,F⟩:=aj b.bn;have G:=b.bt)|(go_at_call 134;refine dz (m _) ?_));exact⟨⟨c+1,by go_num,by omega,i,b⟩,by simp[Br];omega⟩
  ·rw[show N.ks.length-c=0 by omega,sbB]at d;have i:=ar d;have av:¬(c:Int)<(N.ks.length:Int):=by omega
   clear d;go_wp2_with (go_at_call 156;refine(bJ _ N _ _ b.a.n b.a.k b.a.l1).mono ?_;rintro e o ⟨rfl,g⟩;replace b:=b.below g;clear g;obtain⟨s,u,v,y,z,A,B,C,E,F⟩:=aj b.bn;have G:=b.bt);go_ret;exact⟨by rw[<-i.out];rfl,b.bel⟩
