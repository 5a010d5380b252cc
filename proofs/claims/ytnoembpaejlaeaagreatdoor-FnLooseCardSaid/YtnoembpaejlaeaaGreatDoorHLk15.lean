import Derived.Test.YtnoembpaejlaeaaGreatDoorHLk13
import Derived.Test.YtnoembpaejlaeaaGreatDoorHLk06
import Derived.Lib.ItoaLen
set_option linter.all false
set_option maxRecDepth 100000
set_option maxHeartbeats 25600000
open Bool renaming false->M,true->Y
open Go.Value renaming int->O,string->Z,pointer->Ax,slice->Br,bool->B0,agg->B1,tuple->B3,iface->B6,int->B7
open Go.IntKind renaming i64->Q
open Go.Proofs.Tryz renaming prog->T
open Option renaming some->U,none->X
open Go.Ending renaming returned->V
open Go.RowKit renaming Below->A0,intOf->A9,Hid->B2
open Go renaming Value->A2,Calls->A3,World->A5
open Go.Obj renaming cells->B4
open List renaming replicate->B5
namespace Go.Proofs.YtnoembpaejlaeaaGreatDoor
open Go.RowKit Go.Maps Go.WideMaps
variable{N:Nd}{R:Bool×Nat×List Int}{W W' w:World}{b:Nat}{c n:Int}{ns:List Nd}{vk vn vt:Value}
structure Ki (s:ByteArray) (f p:Nat) (a:List Int) (R:Bool×Nat×List Int):Prop where
 out:gi s f p a=R
def FK(p:Nat)(R:Bool×Nat×List Int):A2:=if R.1=Y then B1 #[O Q 4,O Q p,O Q (R.2.1:Int),O Q 0,O Q 0,Z (fy R.2.2)] else B1 #[O Q 4,O Q p,O Q 0,O Q 0,O Q 0,Z ⟨#[]⟩]
def Kj(R:Bool×Nat×List Int):Int:=if R.1=Y then -1 else(R.2.1:Int)
def FL{p a:Nat}{c:List Int}(h:(Y,a,c)=R):(Ending.returned (B3 #[B1 #[O Q 4,O Q p,O Q (a:Int),O Q 0,O Q 0,Z (fy c)],O Q (-1)]))= V (B3 #[FK p R,O Q (Kj R)]):=by
 subst h;rfl
def uv{p a:Nat}{c:List Int}(h:(M,a,c)=R):(Ending.returned (B3 #[B1 #[O Q 4,O Q p,O Q 0,O Q 0,O Q 0,Z ⟨#[]⟩],O Q (a:Int)]))= V (B3 #[FK p R,O Q (Kj R)]):=by
 subst h;rfl
def H8(s:ByteArray)(cI:s.size<=70000)(p:Nat)(c1:p<s.size)(w:A5):A3 T 136 #[Z s,B1 #[O Q 0,O Q p,O Q 0,O Q 0,O Q 0,Z ⟨#[]⟩]] w λe bx=>
  e= V (B3 #[FK p (gi s (s.size+1) (p+1) []),O Q (Kj (gi s (s.size+1) (p+1) []))])/\A0 w.heap.size w bx:=by
 obtain⟨C,bl⟩:=aF (gi s (s.size+1) (p+1) []);rw[bl];have bE:Ki s (s.size+1) (p+1) [] C:=⟨bl⟩;go_in;go_wp2_with fail;go_loopw [6,7,8,9] (λbd ck dx d0 wr=>∃(b j i:Nat) (g:List Int),bd= O Q b/\fe w.heap.size wr 4 p 0 0 0 ⟨#[]⟩/\fe (w.heap.size+1) wr 0 0 0 0 0 ⟨#[]⟩/\wr.ownsRow (w.heap.size+2) 5 1 ck j (B8 g)/\s.size<b+i/\b<=s.size/\j<=b/\Ki s i b g C/\A0 w.heap.size w wr/\w.heap.size+2<=wr.heap.size) (λbd _ _ _ _=>s.size-(A9 bd).toNat)
 case atStart=>
  generalize b8:(w.alloc _).alloc _=cq;obtain⟨x,y,b6,c8⟩:=Co b8;exact⟨p+1,0,s.size+1,[],by go_num,x,y,eI _ _ _ _,by omega,by omega,by omega,bE,b6,by omega⟩
 case round=>
  obtain⟨b,j,i,g,rfl,x,y,z,cF,c6,c0,b0,l,m⟩:=hrel;obtain⟨cr,cs,ct,cu,cv,cw,cx⟩:=bz x;obtain⟨z0,L,ad,ak,al,an,d1⟩:=bz y;obtain⟨i,rfl⟩:∃H,i=H+1:=⟨i-1,by omega⟩;have c:=b0.out;unfold gi at c;by_cases bn:b<s.size
  .have cf:=jF bn;have cd:=λw=>dL bn w;have c4:(b:Int)<(s.size:Int):=by omega
   rw[aa (by omega)]at c;obtain⟨t,ca⟩:=aF (aw s b);rw[ca]at cf cd c;by_cases av:t=34
   .subst av;rw[ab rfl]at c;have f:=aq c;rcases z.2 with⟨rfl,cb⟩|⟨H,ao,cy,rfl,dd⟩
    .have b9:g=[]:=by have:=xI z;rw[cb]at this;exact jK this
     have bA:=aq b9;have ce:=xK;go_wp2_with fail;refine aH (v:= B3 #[B1 #[O Q 4,O Q p,O Q ((b:Int)+1),O Q 0,O Q 0,Z ByteArray.empty],O Q (-1)]) (by simp[results,Tryz.results136,go_sem,z0,L,ad,ak,al,an]) rfl ⟨by have h:=f.out;rw[bA.out]at h;exact FL h,?_⟩
     iterate 8 refine fK ?_ (by simp) _
     exact l
    .have ce:=oh (iF (a:=⟨w.heap.size,2,X⟩) z (by simp) (O Q ((b:Int)+1)));go_wp2_with fail;refine aH (v:= B3 #[B1 #[O Q 4,O Q p,O Q ((b:Int)+1),O Q 0,O Q 0,Z (fy g)],O Q (-1)]) (by simp[results,Tryz.results136,go_sem,z0,L,ad,ak,al,an]) rfl ⟨FL f,?_⟩
     iterate 8 refine fK ?_ (by simp) _
     exact l
   rw[aa av]at c;have c9:(t==34)=M:=by simp[av]
   by_cases ax:t=10
   .subst ax;rw[ab rfl]at c;have f:=aq c;go_wp2_with fail;refine aH (v:= B3 #[B1 #[O Q 4,O Q p,O Q 0,O Q 0,O Q 0,Z ⟨#[]⟩],O Q (b:Int)]) (by simp[results,Tryz.results136,go_sem,z0,L,ad,ak,al,an]) rfl ⟨uv f,?_⟩
    iterate 6 refine fK ?_ (by simp) _
    exact l
   rw[aa ax]at c;have da:(t==10)=M:=by simp[ax]
   by_cases a6:t=92
   .subst a6;rw[ab rfl]at c;have k:=λw=>iC s (by omega) ((b:Int)+1) (b+1) (by omega) w;by_cases u:aw s (b+1)=110
    .have q:=bq u;rw[show iH s (b+1)=(10,b+1+1,Y) by unfold iH;rw[ab u],ab rfl]at c;rw[sF q,u]at k;have f:Ki s i (b+1+1) (g++[10]) C:=⟨c⟩;go_wp2_with (first|(go_at_call 131;refine ft (k _) ?_)|(at_builtin;refine mL rfl (.tmp 51) (.tmp 52) rfl (w.heap.size+2) _ j g rfl z m (by omega) [10] 1 rfl (by decide) (by decide) _ rfl rfl ?_;intro H ao w1 o d));go_roundw
     case rel=>exact⟨b+1+1,j+1,i,g++[10],by go_num,x.below d (by omega),y.below d (by omega),o,by omega,by omega,by omega,f,l.trans (d.mono (by omega)),bG m d.size⟩
     case measure=>simp[A9];omega
    by_cases E:aw s (b+1)=116
    .have q:=bq E;rw[show iH s (b+1)=(9,b+1+1,Y) by unfold iH;rw[aa u,ab E],ab rfl]at c;rw[sF q,E]at k;have f:Ki s i (b+1+1) (g++[9]) C:=⟨c⟩;go_wp2_with (first|(go_at_call 131;refine ft (k _) ?_)|(at_builtin;refine mL rfl (.tmp 56) (.tmp 57) rfl (w.heap.size+2) _ j g rfl z m (by omega) [9] 1 rfl (by decide) (by decide) _ rfl rfl ?_;intro H ao w1 o d));go_roundw
     case rel=>exact⟨b+1+1,j+1,i,g++[9],by go_num,x.below d (by omega),y.below d (by omega),o,by omega,by omega,by omega,f,l.trans (d.mono (by omega)),bG m d.size⟩
     case measure=>simp[A9];omega
    by_cases F:aw s (b+1)=34
    .have q:=bq F;rw[show iH s (b+1)=(34,b+1+1,Y) by unfold iH;rw[aa u,aa E,ab (Or.inl F),F],ab rfl]at c;rw[sF q,F]at k;have a9:=λw=>xL q w;rw[F]at a9;have f:Ki s i (b+1+1) (g++[34]) C:=⟨c⟩;go_wp2_with (first|(go_at_call 131;refine ft (k _) ?_)|(at_builtin;refine mL rfl (.tmp 62) (.tmp 66) rfl (w.heap.size+2) _ j g rfl z m (by omega) [34] 1 rfl (by decide) (by decide) _ rfl rfl ?_;intro H ao w1 o d));go_roundw
     case rel=>exact⟨b+1+1,j+1,i,g++[34],by go_num,x.below d (by omega),y.below d (by omega),o,by omega,by omega,by omega,f,l.trans (d.mono (by omega)),bG m d.size⟩
     case measure=>simp[A9];omega
    by_cases G:aw s (b+1)=92
    .have q:=bq G;rw[show iH s (b+1)=(92,b+1+1,Y) by unfold iH;rw[aa u,aa E,ab (Or.inr G),G],ab rfl]at c;rw[sF q,G]at k;have a9:=λw=>xL q w;rw[G]at a9;have f:Ki s i (b+1+1) (g++[92]) C:=⟨c⟩;go_wp2_with (first|(go_at_call 131;refine ft (k _) ?_)|(at_builtin;refine mL rfl (.tmp 62) (.tmp 66) rfl (w.heap.size+2) _ j g rfl z m (by omega) [92] 1 rfl (by decide) (by decide) _ rfl rfl ?_;intro H ao w1 o d));go_roundw
     case rel=>exact⟨b+1+1,j+1,i,g++[92],by go_num,x.below d (by omega),y.below d (by omega),o,by omega,by omega,by omega,f,l.trans (d.mono (by omega)),bG m d.size⟩
     case measure=>simp[A9];omega
    by_cases ar:aw s (b+1)=120
    .have q:=bq ar;rw[sF q,ar]at k;have b7:iH s (b+1)=hexI s (b+1+1):=by unfold iH;rw[aa u,aa E,aa (λh=>h.elim F G),ab ar]
     rw[b7]at c;unfold hexI at c;have K:=λw=>iC s (by omega) ((b:Int)+1+1) (b+1+1) (by omega) w;have au:=λw=>iC s (by omega) ((b:Int)+1+2) (b+1+1+1) (by omega) w;have bh:=abF s (b+1+1);have bj:=abF s (b+1+1+1);have n:=λw=>zv (lk s (b+1+1)) bh.1 bh.2 w;have A:=λw=>zv (lk s (b+1+1+1)) bj.1 bj.2 w;rw[abL]at n A;have cl:=oa (aw s (b+1+1));have cn:=oa (aw s (b+1+1+1));by_cases J:gF (aw s (b+1+1))<0
     .rw[ab J,aa (by simp)]at c;have f:=aq c;generalize lk s (b+1+1)=bf at K n;generalize gF (aw s (b+1+1))=r at n J;go_wp2_with (go_at_call 131;refine ft (k _) ?_);refine qv 3 ?_;rw[jA];go_wp2_with (first|(go_at_call 131;refine ft (K _) ?_)|(go_at_call 203;refine ft (n _) ?_));refine aH (v:= B3 #[B1 #[O Q 4,O Q p,O Q 0,O Q 0,O Q 0,Z ⟨#[]⟩],O Q ((b:Int)+1+1)]) (by simp[results,Tryz.results136,go_sem,z0,L,ad,ak,al,an]) rfl ⟨uv f,?_⟩
      iterate 6 refine fK ?_ (by simp) _
      exact l
     rw[aa J]at c;have bo:0<=gF (aw s (b+1+1)):=by omega
     by_cases ap:gF (aw s (b+1+1+1))<0
     .rw[ab ap,aa (by simp)]at c;have f:=aq c;generalize lk s (b+1+1)=bf at K n;generalize gF (aw s (b+1+1))=r at n J bo;generalize lk s (b+1+1+1)=b1 at au A;generalize gF (aw s (b+1+1+1))=I at A ap;go_wp2_with (go_at_call 131;refine ft (k _) ?_);refine qv 3 ?_;rw[jA];go_wp2_with (first|(go_at_call 131;refine ft (K _) ?_)|(go_at_call 203;refine ft (n _) ?_));rw[jA];go_wp2_with (first|(go_at_call 131;refine ft (au _) ?_)|(go_at_call 203;refine ft (A _) ?_));refine aH (v:= B3 #[B1 #[O Q 4,O Q p,O Q 0,O Q 0,O Q 0,Z ⟨#[]⟩],O Q ((b:Int)+1+2)]) (by simp[results,Tryz.results136,go_sem,z0,L,ad,ak,al,an]) rfl ⟨by have h:=uv (p:=p) f.out;rw[show((b+1+1+1:Nat):Int)=(b:Int)+1+2 by omega]at h;exact h,?_⟩
      iterate 6 refine fK ?_ (by simp) _
      exact l
     have a7:b+1+1<s.size:=by
      rcases bC (b+1+1) s.size with h|h
      .exact h
      .rw[dH]at J;exact absurd (by decide) J
     have a8:b+1+1+1<s.size:=by
      rcases bC (b+1+1+1) s.size with h|h
      .exact h
      .rw[dH]at ap;exact absurd (by decide) ap
     have ba:=λw=>dL a7 w;have bb:=λw=>dL a8 w;rw[show((b+1+1:Nat):Int)=(b:Int)+1+1 by omega]at ba;rw[show((b+1+1+1:Nat):Int)=(b:Int)+1+2 by omega]at bb;rw[aa ap,ab rfl]at c;rw[sF a7]at K n;rw[sF a8]at au A;have cc:0<=gF (aw s (b+1+1+1)):=by omega
     have f:Ki s i (b+1+1+1+1) (g++[gF (aw s (b+1+1))*16+gF (aw s (b+1+1+1))]) C:=⟨c⟩;have b4:=jF a7;have b5:=jF a8;generalize gF (aw s (b+1+1))=r at n J bo cl f;generalize gF (aw s (b+1+1+1))=I at A ap cc cn f;generalize aw s (b+1+1)=bf at K n ba b4;generalize aw s (b+1+1+1)=b1 at au A bb b5;rw[show r*16+I=16*r+I by omega]at f;go_wp2_with (go_at_call 131;refine ft (k _) ?_);refine qv 3 ?_;rw[jA];go_wp2_with (first|(go_at_call 131;refine ft (K _) ?_)|(go_at_call 203;refine ft (n _) ?_));rw[jA];go_wp2_with (first|(go_at_call 131;refine ft (au _) ?_)|(go_at_call 203;refine ft (A _) ?_));rw[jA];go_wp2_with fail;obtain⟨B,bk⟩:∃B:Int,(b:Int)+1=B:=⟨_,rfl⟩;rw[bk]at ba bb⊢;have bD:=aq bk;have df:IntKind.i64.wrap (B+1)=B+1:=BA _ (by omega);have dg:IntKind.i64.wrap (B+2)=B+2:=BA _ (by omega);have dn:IntKind.i64.wrap (16*r)=16*r:=BA _ (by omega);have dq:IntKind.i64.wrap (16*r+I)=16*r+I:=BA _ (by omega);have ds:IntKind.u8.wrap (16*r+I)=16*r+I:=IntWalk.u8_in _ (by omega);have cz:0<=B:=by omega
     have cB:B<=70001:=by omega
     go_region_held3 (λbx=>True) (trivial) ((first|(go_at_call 203;with_reducible refine ft (n _) ?_)|(go_at_call 203;with_reducible refine ft (A _) ?_)|(refine aby (by rfl) _ _ (by rfl) (w.heap.size+2) _ j g (by rfl) z m (by omega) [_] 1 (by rfl) (by decide) (by decide) _ (by rfl) (by rfl) ?_;intro H ao w1 o d)))
     all_goals
      go_wp2_with fail;have c7:=bD.out;exact⟨⟨b+1+1+1+1,j+1,i,g++[16*r+I],by congr 1<;>omega,x.below d (by omega),y.below d (by omega),o,by omega,by omega,by omega,f,l.trans (d.mono (by omega)),bG m d.size⟩,by simp[A9];omega⟩
    rw[show iH s (b+1)=(0,b+1,M) by unfold iH;rw[aa u,aa E,aa (λh=>h.elim F G),aa ar],aa (by simp)]at c;have f:=aq c;have br:=ul s (b+1) 110;have bs:=ul s (b+1) 116;have bt:=ul s (b+1) 34;have bv:=ul s (b+1) 92;have bw:=ul s (b+1) 120;rw[aD u]at br;rw[aD E]at bs;rw[aD F]at bt;rw[aD G]at bv;rw[aD ar]at bw;generalize lk s (b+1)=cp at k br bs bt bv bw;go_wp2_with (go_at_call 131;refine ft (k _) ?_);refine aH (v:= B3 #[B1 #[O Q 4,O Q p,O Q 0,O Q 0,O Q 0,Z ⟨#[]⟩],O Q ((b:Int)+1)]) (by simp[results,Tryz.results136,go_sem,z0,L,ad,ak,al,an]) rfl ⟨uv f,?_⟩
    iterate 6 refine fK ?_ (by simp) _
    exact l
   rw[aa a6]at c;have dc:(t==92)=M:=by simp[a6]
   have f:Ki s i (b+1) (g++[t]) C:=⟨c⟩;go_wp2_with (at_builtin;refine mL rfl (.tmp 36) (.tmp 38) rfl (w.heap.size+2) _ j g rfl z m (by omega) [t] 1 rfl (by decide) (by decide) _ rfl rfl ?_;intro H ao w1 o d);go_roundw
   case rel=>exact⟨b+1,j+1,i,g++[t],by go_num,x.below d (by omega),y.below d (by omega),o,by omega,by omega,by omega,f,l.trans (d.mono (by omega)),bG m d.size⟩
   case measure=>simp[A9];omega
  .rw[ab (by omega)]at c;have f:=aq c;obtain rfl:b=s.size:=by omega
   go_wp2_with fail;refine aH (v:= B3 #[B1 #[O Q 4,O Q p,O Q 0,O Q 0,O Q 0,Z ⟨#[]⟩],O Q (s.size:Int)]) (by simp[results,Tryz.results136,go_sem,z0,L,ad,ak,al,an]) rfl ⟨uv f,?_⟩
   iterate 6 refine fK ?_ (by simp) _
   exact l
def Kk(ns:List Nd)(N:Nd):Nat->Nat->Bool
 |0,_=>Y
 |f+1,j=>jz (fH ns N j)&&Kk ns N f (j+1)
structure am6 (ns:List Nd) (N:Nd) (f j:Nat) (R:Bool):Prop where
 out:Kk ns N f j=R
def ajz(g:NArg w vt ns N vn vk)(af:N.k=1):
  A3 T 83 #[B1 #[vt],jl N vn vk] w λe r=>e= V (B0 (Kk ns N N.ks.length 0&&bF N M M M M))/\A0 w.heap.size w r:=by
 obtain⟨H,K,rfl⟩:=g.t.form;obtain⟨I,L,rfl⟩:=g.n.form;obtain⟨J,ad,rfl⟩:=g.k.form;have b:=St.start g;have ax:=g.l2;clear g;have a0:(N.k==1)=Y:=by rw[af];rfl
 clear af;obtain⟨o,p⟩:=aF (Kk ns N N.ks.length 0);rw[p];have an:am6 ns N N.ks.length 0 o:=⟨p⟩;clear p;unfold jl;go_in;go_wp2_with fail;generalize (w.alloc (B4 #[Br H ns.length K] 26)).alloc (B4 #[O Q N.k,O Q N.f,O Q N.t,O Q N.l,O Q N.op,O Q N.n,Z N.x,Br I N.nm.length L,Br J N.ks.length ad] 62)=au at b⊢;go_loopw [6,18] (λ_ q wr=>∃(c:Nat),q= O Q c/\c<=N.ks.length/\am6 ns N (N.ks.length-c) c o/\St w (Br H ns.length K) ns N (Br I N.nm.length L) (Br J N.ks.length ad) wr) (λ_ q _=>N.ks.length-(A9 q).toNat)
 case atStart=>exact⟨0,rfl,by omega,an,b⟩
 case round=>
  clear b;obtain⟨c,rfl,av,al,b⟩:=hrel;obtain⟨s,u,v,y,z,A,B,C,E,F⟩:=be b.bn;have G:=b.bt;have d:=al.out;by_cases ap:c<N.ks.length
  .rw[show N.ks.length-c=(N.ks.length-(c+1))+1 by omega,Kk]at d;have ao:(c:Int)<(N.ks.length:Int):=by omega
   have j:=qC b.a c ap;unfold jl at j;generalize fH ns N c=ak at d j;have m:=λw=>CF ak w;cases hx:jz ak with
   |false=>
    rw[hx,fw]at d;rw[hx]at m;have h:=aq d;clear d hx;go_wp2_with (first|(go_at_call 157;refine j.mono ?_;rintro e r ⟨rfl,i⟩;replace b:=b.below i;clear i;obtain⟨s,u,v,y,z,A,B,C,E,F⟩:=be b.bn;have G:=b.bt)|(go_at_call 82;refine ft (m _) ?_));go_ret;exact⟨by rw[<-h.out];rfl,b.bel⟩
   |true=>
    rw[hx,gB]at d;rw[hx]at m;have h:am6 ns N (N.ks.length-(c+1)) (c+1) o:=⟨d⟩;clear d hx;go_wp2_with (first|(go_at_call 157;refine j.mono ?_;rintro e r ⟨rfl,i⟩;replace b:=b.below i;clear i;obtain⟨s,u,v,y,z,A,B,C,E,F⟩:=be b.bn;have G:=b.bt)|(go_at_call 82;refine ft (m _) ?_));exact⟨⟨c+1,by go_num,by omega,h,b⟩,by simp[A9];omega⟩
  .rw[show N.ks.length-c=0 by omega,Kk]at d;have h:=aq d;have ao:¬(c:Int)<(N.ks.length:Int):=by omega
   clear d;go_wp2_with (go_at_call 158;refine b.bare λar b=>?_;obtain⟨s,u,v,y,z,A,B,C,E,F⟩:=be b.bn;have G:=b.bt);go_ret;exact⟨by rw[<-h.out];rfl,b.bel⟩
def agt(a:NArg w vt ns N vn vk)(b:2<N.ks.length):
  A3 T 157 #[B1 #[vt],B1 #[O Q N.k,O Q N.f,O Q N.t,O Q N.l,O Q N.op,O Q N.n,Z N.x,vn,vk],O Q 2] w λe c=>e= V (O Q (fH ns N 2))/\A0 w.heap.size w c:=qC a 2 b
def ajA(d:NArg w vt ns N vn vk)(g:N.k=7):
  A3 T 83 #[B1 #[vt],jl N vn vk] w λe f=>e= V (B0 (bF N M M M M&&(decide (2<=N.ks.length/\N.ks.length<=3)&&(lE ns N 1 0&&(!(fH ns N 1 !=1)&&((N.ks.length:Int)==2||(fH ns N 2==1||fH ns N 2==7)))))))/\A0 w.heap.size w f:=by
 obtain⟨A,E,rfl⟩:=d.t.form;obtain⟨B,F,rfl⟩:=d.n.form;obtain⟨C,G,rfl⟩:=d.k.form;have b:=St.start d;have J:=d.l2;clear d;have K:=kqf g;have L:=kqt g 7 rfl;clear g;unfold jl;cases t0:bF N M M M M
 case' true=>
  by_cases H:(N.ks.length:Int)<2
  case' pos=>rw[aD (by omega)]
  case' neg=>
   by_cases I:(3:Int)<(N.ks.length:Int)
   case' pos=>rw[aD (by omega)]
   case' neg=>
    rw[bp (by omega)];have v:B2 (1<=N.ks.length):=by show _<=_;omega
    have x:B2 (1<N.ks.length):=by show _<_;omega
    cases t1:lE ns N 1 0
    case' true=>
     cases t2:(fH ns N 1 !=1)
     case' false=>
      cases t3:((N.ks.length:Int)==2)
      case' false=>
       have y:B2 (2<N.ks.length):=by show _<_;have:=ne_of_beq_false t3;omega
       cases t4:(fH ns N 2==1)
       case' false=>cases t5:(fH ns N 2==7)
 all_goals
  go_in;go_wp2_with (first|(go_at_call 158;refine b.bare λz b=>?_;obtain⟨h,i,j,l,m,o,p,q,r,s⟩:=be b.bn;have u:=b.bt)|(go_at_call 160;refine(mE _ _ ns N _ _ 0 1 b.a.t b.a.n b.a.k b.a.ok v.out b.a.ln b.a.l2).mono ?_;rintro e f ⟨rfl,c⟩;replace b:=b.below c;clear c;obtain⟨h,i,j,l,m,o,p,q,r,s⟩:=be b.bn;have u:=b.bt)|(go_at_call 157;with_reducible refine(afK b.a x.out).mono ?_;rintro e f ⟨rfl,c⟩;replace b:=b.below c;clear c;obtain⟨h,i,j,l,m,o,p,q,r,s⟩:=be b.bn;have u:=b.bt)|(go_at_call 157;with_reducible refine(agt b.a y.out).mono ?_;rintro e f ⟨rfl,c⟩;replace b:=b.below c;clear c;obtain⟨h,i,j,l,m,o,p,q,r,s⟩:=be b.bn;have u:=b.bt));go_ret;exact⟨rfl,b.bel⟩
def agu(b:NArg w vt ns N vn vk)(d:0<N.ks.length):
  A3 T 157 #[B1 #[vt],B1 #[O Q N.k,O Q N.f,O Q N.t,O Q N.l,O Q N.op,O Q N.n,Z N.x,vn,vk],O Q ((N.ks.length:Int)-1)] w λe c=>e= V (O Q (fH ns N (N.ks.length-1)))/\A0 w.heap.size w c:=by
 have a:=qC b (N.ks.length-1) (by omega);rw[show((N.ks.length-1:Nat):Int)=(N.ks.length:Int)-1 by omega]at a;exact a
def ajB(a:NArg w vt ns N vn vk)(d:0<N.ks.length):
  A3 T 160 #[B1 #[vt],B1 #[O Q N.k,O Q N.f,O Q N.t,O Q N.l,O Q N.op,O Q N.n,Z N.x,vn,vk],O Q 0,O Q ((N.ks.length:Int)-1)] w λe c=>e= V (B0 (lE ns N (N.ks.length-1) 0))/\A0 w.heap.size w c:=by
 have b:=mE w vt ns N vn vk 0 (N.ks.length-1) a.t a.n a.k a.ok (by omega) a.ln a.l2;rw[show((N.ks.length-1:Nat):Int)=(N.ks.length:Int)-1 by omega]at b;exact b
def ajC(c:NArg w vt ns N vn vk)(g:N.k=9):
  A3 T 83 #[B1 #[vt],jl N vn vk] w λe h=>e= V (B0 (bF N M M M Y&&(fE N 1 1&&(((N.ks.length:Int)==3||(N.ks.length:Int)==4)&&(lE ns N (N.ks.length-1) 0&&(fH ns N (N.ks.length-1)==1))))))/\A0 w.heap.size w h:=by
 obtain⟨y,B,rfl⟩:=c.t.form;obtain⟨z,C,rfl⟩:=c.n.form;obtain⟨A,E,rfl⟩:=c.k.form;have b:=St.start c;have F:=c.l2;clear c;have G:=kqf g;have H:=kqt g 9 rfl;clear g;unfold jl;cases t0:bF N M M M Y
 case' true=>
  cases t1:fE N 1 1
  case' true=>
   cases t2:((N.ks.length:Int)==3)
   case' false=>cases t5:((N.ks.length:Int)==4)
   case' false.true=>
    have f:B2 (0<N.ks.length):=by show _<_;have:=iE t5;omega
    cases t3:lE ns N (N.ks.length-1) 0
    case' true=>cases t4:(fH ns N (N.ks.length-1)==1)
   case' true.true.true=>
    have f:B2 (0<N.ks.length):=by show _<_;have:=iE t2;omega
    cases t3:lE ns N (N.ks.length-1) 0
    case' true=>cases t4:(fH ns N (N.ks.length-1)==1)
 all_goals
  go_in;go_wp2_with (first|(go_at_call 158;refine b.bare λx b=>?_;obtain⟨i,j,l,m,o,p,q,r,s,u⟩:=be b.bn;have v:=b.bt)|(go_at_call 159;refine b.named λx b=>?_;obtain⟨i,j,l,m,o,p,q,r,s,u⟩:=be b.bn;have v:=b.bt)|(go_at_call 160;with_reducible refine(ajB b.a f.out).mono ?_;rintro e h ⟨rfl,d⟩;replace b:=b.below d;clear d;obtain⟨i,j,l,m,o,p,q,r,s,u⟩:=be b.bn;have v:=b.bt)|(go_at_call 157;with_reducible refine(agu b.a f.out).mono ?_;rintro e h ⟨rfl,d⟩;replace b:=b.below d;clear d;obtain⟨i,j,l,m,o,p,q,r,s,u⟩:=be b.bn;have v:=b.bt));go_ret;exact⟨rfl,b.bel⟩
def F3(ns:List Nd)(N:Nd):Nat->Nat->Bool
 |0,_=>Y
 |f+1,j=>tr (fH ns N j)&&F3 ns N f (j+1)
structure am7 (ns:List Nd) (N:Nd) (f j:Nat) (R:Bool):Prop where
 out:F3 ns N f j=R
def ajD(h:NArg w vt ns N vn vk)(E:N.k=5):
  A3 T 83 #[B1 #[vt],jl N vn vk] w λe A=>e= V (B0 (bF N M Y M M&&(decide (1<=N.n/\N.n<(N.ks.length:Int))&&(F3 ns N N.n.toNat 0&&lE ns N (N.ks.length-N.n.toNat) N.n.toNat))))/\A0 w.heap.size w A:=by
 obtain⟨ak,ap,rfl⟩:=h.t.form;obtain⟨al,ar,rfl⟩:=h.n.form;obtain⟨an,au,rfl⟩:=h.k.form;have b:=St.start h;have a5:=h.l2;clear h;have a8:=kqf E;have a9:=kqt E 5 rfl;clear E;unfold jl;cases t0:bF N M Y M M with
 |false=>
  go_in;go_wp2_with (first|(go_at_call 158;refine b.bare λC b=>?_;obtain⟨i,j,l,m,o,p,q,r,s,u⟩:=be b.bn;have v:=b.bt));go_ret;exact⟨rfl,b.bel⟩
 |true=>
  by_cases ax:N.n<1
  .rw[aD (by omega)];go_in;go_wp2_with (first|(go_at_call 158;refine b.bare λC b=>?_;obtain⟨i,j,l,m,o,p,q,r,s,u⟩:=be b.bn;have v:=b.bt));go_ret;exact⟨rfl,b.bel⟩
  by_cases a0:(N.ks.length:Int)<=N.n
  .rw[aD (by omega)];go_in;go_wp2_with (first|(go_at_call 158;refine b.bare λC b=>?_;obtain⟨i,j,l,m,o,p,q,r,s,u⟩:=be b.bn;have v:=b.bt));go_ret;exact⟨rfl,b.bel⟩
  rw[bp (by omega)];obtain⟨d,J⟩:∃d:Nat,N.n=(d:Int):=⟨N.n.toNat,by omega⟩;have K:N.n.toNat=d:=by omega
  rw[K];have a7:d<N.ks.length:=by omega
  have ad:=aq J;obtain⟨B,F⟩:=aF (F3 ns N d 0);rw[F];have af:am7 ns N d 0 B:=⟨F⟩;clear F J K;go_in;go_wp2_with (first|(go_at_call 158;refine b.bare λC b=>?_;obtain⟨i,j,l,m,o,p,q,r,s,u⟩:=be b.bn;have v:=b.bt));go_loopw [7] (λI wr=>∃(c:Nat),I= O Q c/\c<=d/\am7 ns N (d-c) c B/\St w (Br ak ns.length ap) ns N (Br al N.nm.length ar) (Br an N.ks.length au) wr) (λI _=>d-(A9 I).toNat)
  case atStart=>exact⟨0,rfl,by omega,af,b⟩
  case round=>
   clear b;obtain⟨c,rfl,a4,L,b⟩:=hrel;obtain⟨ba,bb,bd,bf,bh,bj,bk,bl,bo,br⟩:=be b.bn;have bs:=b.bt;have f:=L.out;have G:=ad.out;by_cases a6:c<d
   .rw[show d-c=(d-(c+1))+1 by omega,F3]at f;have av:(c:Int)<N.n:=by omega
    have z:=qC b.a c (by omega);unfold jl at z;have y:=λw=>GI (fH ns N c) w;clear G;generalize fH ns N c=ao at f z y;cases hx:tr ao with
    |false=>
     rw[hx,fw]at f;rw[hx]at y;have x:=aq f;clear f hx;go_wp2_with (first|(go_at_call 157;refine z.mono ?_;rintro e A ⟨rfl,g⟩;replace b:=b.below g;clear g;obtain⟨i,j,l,m,o,p,q,r,s,u⟩:=be b.bn;have v:=b.bt)|(go_at_call 161;refine ft (y _) ?_));go_ret;exact⟨by rw[<-x.out];rfl,b.bel⟩
    |true=>
     rw[hx,gB]at f;rw[hx]at y;have x:am7 ns N (d-(c+1)) (c+1) B:=⟨f⟩;clear f hx;go_wp2_with (first|(go_at_call 157;refine z.mono ?_;rintro e A ⟨rfl,g⟩;replace b:=b.below g;clear g;obtain⟨i,j,l,m,o,p,q,r,s,u⟩:=be b.bn;have v:=b.bt)|(go_at_call 161;refine ft (y _) ?_));exact⟨⟨c+1,by go_num,by omega,x,b⟩,by simp[A9];omega⟩
   .rw[show d-c=0 by omega,F3]at f;have x:=aq f;have av:¬(c:Int)<N.n:=by omega
    have H:=mE _ _ ns N _ _ d N.ks.length b.a.t b.a.n b.a.k b.a.ok (ag _) b.a.ln b.a.l2;unfold jl at H;rw[<-G]at H;clear f G;go_wp2_with (go_at_call 160;refine H.mono ?_;rintro e A ⟨rfl,g⟩;replace b:=b.below g;clear g;obtain⟨i,j,l,m,o,p,q,r,s,u⟩:=be b.bn;have v:=b.bt);go_ret;exact⟨by rw[<-x.out];rfl,b.bel⟩
def stB(ns:List Nd)(N:Nd):Bool:=
 if N.k=1 then(Kk ns N N.ks.length 0&&bF N M M M M)
 else if N.k=2 then(bF N M M M Y&&fE N 1 200&&lE ns N N.ks.length 0)
 else if N.k=3 then(bF N M M M Y&&fE N 1 1&&((N.ks.length:Int)==1)&&lE ns N 1 0)
 else if N.k=4 then(bF N M M M Y&&fE N 1 1&&((N.ks.length:Int)==1)&&(fH ns N 0==36))
 else if N.k=5 then(bF N M Y M M&&(decide (1<=N.n/\N.n<(N.ks.length:Int))&&(F3 ns N N.n.toNat 0&&lE ns N (N.ks.length-N.n.toNat) N.n.toNat)))
 else if N.k=6 then(bF N M M M M&&((N.ks.length:Int)==1)&&(fH ns N 0==34))
 else if N.k=7 then(bF N M M M M&&(decide (2<=N.ks.length/\N.ks.length<=3)&&(lE ns N 1 0&&(!(fH ns N 1 !=1)&&((N.ks.length:Int)==2||(fH ns N 2==1||fH ns N 2==7))))))
 else if N.k=8 then(bF N M M M M&&((N.ks.length:Int)==2)&&lE ns N 1 0&&(fH ns N 1==1))
 else if N.k=9 then(bF N M M M Y&&(fE N 1 1&&(((N.ks.length:Int)==3||(N.ks.length:Int)==4)&&(lE ns N (N.ks.length-1) 0&&(fH ns N (N.ks.length-1)==1)))))
 else if N.k=10 then(bF N M M M Y&&fE N 1 200&&((N.ks.length:Int)==2)&&lE ns N 1 0&&(fH ns N 1==1))
 else if N.k=11 then(bF N M M M M&&((N.ks.length:Int)==0))
 else if N.k=12 then(bF N M M M M&&((N.ks.length:Int)==0))
 else if N.k=13 then(bF N M M M M&&lE ns N N.ks.length 0)
 else if N.k=14 then(bF N M M M Y&&fE N 1 2&&((N.ks.length:Int)==2)&&(fH ns N 0==1)&&(fH ns N 1==1))
 else if N.k=15 then(bF N M M M M&&((N.ks.length:Int)==1)&&lE ns N 1 0)
 else if N.k=16 then(bF N M M M M&&((N.ks.length:Int)==1)&&(fH ns N 0==34))
 else M
def am8(g:NArg w vt ns N vn vk)(hK:N.k=3\/N.k=8\/N.k=11\/N.k=12\/N.k=2\/N.k=4\/N.k=6\/N.k=16\/N.k=10\/N.k=13\/N.k=14\/N.k=15):
  A3 T 83 #[B1 #[vt],jl N vn vk] w λe z=>e= V (B0 (stB ns N))/\A0 w.heap.size w z:=by
 obtain⟨B,F,rfl⟩:=g.t.form;obtain⟨C,G,rfl⟩:=g.n.form;obtain⟨E,H,rfl⟩:=g.k.form;have a:=St.start g;have A:B2 (N.x.size<=1100000):=bG g.lx (by decide);clear g;rcases hK with hK|hK|hK|hK|hK|hK|hK|hK|hK|hK|hK|hK;all_goals
  unfold stB;simp only[hK,reduceIte,Int.reduceEq];have J:=kqf hK;have I:=kqs hK;first
  |(have b:N.k=3:=hK
    clear b hK;cases t0:bF N M M M Y
    case' true=>
     cases t1:fE N 1 1
     case' true=>
      cases t2:((N.ks.length:Int)==1)
      case' true=>
       have c:N.ks.length=1:=by have:=iE t2;omega
       have d:B2 (1<=N.ks.length):=by show _<=_;omega
       have f:B2 (0<N.ks.length):=by show _<_;omega
       clear c;cases t3:lE ns N 1 0)
  |(have b:N.k=8:=hK
    clear b hK;cases t0:bF N M M M M
    case' true=>
     cases t1:((N.ks.length:Int)==2)
     case' true=>
      have c:N.ks.length=2:=by have:=iE t1;omega
      have d:B2 (1<=N.ks.length):=by show _<=_;omega
      have f:B2 (0<N.ks.length):=by show _<_;omega
      have i:B2 (1<N.ks.length):=by show _<_;omega
      clear c;cases t2:lE ns N 1 0
      case' true=>
       cases t3:(fH ns N 1==1))
  |(have b:N.k=11\/N.k=12:=by first|exact .inl hK|exact .inr (hK)
    clear b hK;cases t0:bF N M M M M
    case' true=>
     cases t1:((N.ks.length:Int)==0))
  |(have b:N.k=2:=hK
    clear b hK;cases t0:bF N M M M Y
    case' true=>
     cases t1:fE N 1 200
     case' true=>
      cases t2:lE ns N N.ks.length 0)
  |(have b:N.k=4:=hK
    clear b hK;cases t0:bF N M M M Y
    case' true=>
     cases t1:fE N 1 1
     case' true=>
      cases t2:((N.ks.length:Int)==1)
      case' true=>
       have c:N.ks.length=1:=by have:=iE t2;omega
       have d:B2 (1<=N.ks.length):=by show _<=_;omega
       have f:B2 (0<N.ks.length):=by show _<_;omega
       clear c;cases t3:(fH ns N 0==36))
  |(have b:N.k=6\/N.k=16:=by first|exact .inl hK|exact .inr (hK)
    clear b hK;cases t0:bF N M M M M
    case' true=>
     cases t1:((N.ks.length:Int)==1)
     case' true=>
      have c:N.ks.length=1:=by have:=iE t1;omega
      have d:B2 (1<=N.ks.length):=by show _<=_;omega
      have f:B2 (0<N.ks.length):=by show _<_;omega
      clear c;cases t2:(fH ns N 0==34))
  |(have b:N.k=10:=hK
    clear b hK;cases t0:bF N M M M Y
    case' true=>
     cases t1:fE N 1 200
     case' true=>
      cases t2:((N.ks.length:Int)==2)
      case' true=>
       have c:N.ks.length=2:=by have:=iE t2;omega
       have d:B2 (1<=N.ks.length):=by show _<=_;omega
       have f:B2 (0<N.ks.length):=by show _<_;omega
       have i:B2 (1<N.ks.length):=by show _<_;omega
       clear c;cases t3:lE ns N 1 0
       case' true=>
        cases t4:(fH ns N 1==1))
  |(have b:N.k=13:=hK
    clear b hK;cases t0:bF N M M M M
    case' true=>
     cases t1:lE ns N N.ks.length 0)
  |(have b:N.k=14:=hK
    clear b hK;cases t0:bF N M M M Y
    case' true=>
     cases t1:fE N 1 2
     case' true=>
      cases t2:((N.ks.length:Int)==2)
      case' true=>
       have c:N.ks.length=2:=by have:=iE t2;omega
       have d:B2 (1<=N.ks.length):=by show _<=_;omega
       have f:B2 (0<N.ks.length):=by show _<_;omega
       have i:B2 (1<N.ks.length):=by show _<_;omega
       clear c;cases t3:(fH ns N 0==1)
       case' true=>
        cases t4:(fH ns N 1==1))
  |(have b:N.k=15:=hK
    clear b hK;cases t0:bF N M M M M
    case' true=>
     cases t1:((N.ks.length:Int)==1)
     case' true=>
      have c:N.ks.length=1:=by have:=iE t1;omega
      have d:B2 (1<=N.ks.length):=by show _<=_;omega
      have f:B2 (0<N.ks.length):=by show _<_;omega
      clear c;cases t2:lE ns N 1 0)
 all_goals
  unfold jl;go_in;go_wp2_with (first|(go_at_call 158;with_reducible refine a.bare λh a=>?_;obtain⟨j,l,m,o,p,q,r,s,u,v⟩:=be a.bn;have y:=a.bt)|(go_at_call 159;with_reducible refine a.named λh a=>?_;obtain⟨j,l,m,o,p,q,r,s,u,v⟩:=be a.bn;have y:=a.bt)|(go_at_call 160;(first|with_reducible refine a.ex1 d.out λh a=>?_|with_reducible refine a.ex2 d.out λh a=>?_|with_reducible refine a.exL λh a=>?_);obtain⟨j,l,m,o,p,q,r,s,u,v⟩:=be a.bn;have y:=a.bt)|(go_at_call 157;(first|with_reducible refine a.kid0 f.out λh a=>?_|with_reducible refine a.kid1 i.out λh a=>?_);obtain⟨j,l,m,o,p,q,r,s,u,v⟩:=be a.bn;have y:=a.bt));go_ret;exact⟨rfl,a.bel⟩
section
variable {w : World} {vt : Value} {ns : List Nd} {N : Nd} {vn vk : Value} (A : NArg w vt ns N vn vk)
include A
def Ba(h:jz N.k=Y):A3 T 83 #[B1 #[vt],jl N vn vk] w λe a=>e= V (B0 (stB ns N))/\A0 w.heap.size w a:=by
 have b:=aE h;rcases(show(N.k=3\/N.k=8\/N.k=11\/N.k=12\/N.k=2\/N.k=4\/N.k=6\/N.k=16\/N.k=10\/N.k=13\/N.k=14\/N.k=15)\/N.k=1\/N.k=5\/N.k=7\/N.k=9 by omega) with hK|hK|hK|hK|hK
 .exact am8 A hK
 all_goals
  unfold stB;simp only[hK,reduceIte,Int.reduceEq];first|exact ajz A hK|exact ajD A hK|exact ajA A hK|exact ajC A hK
def Aa:A3 T 84 #[B1 #[vt],jl N vn vk] w λe d=>e= V (B0 (jg ns N))/\A0 w.heap.size w d:=by
 by_cases b:N.k=20\/N.k=21\/N.k=22\/N.k=27\/N.k=23\/N.k=24\/N.k=25\/N.k=26\/N.k=28\/N.k=29\/N.k=41\/N.k=32\/N.k=30\/N.k=31\/N.k=33\/N.k=34\/N.k=40\/N.k=42\/N.k=36\/N.k=37
 .exact amC A b
 by_cases a:N.k=35
 .unfold jg;simp only[a,reduceIte,Int.reduceEq];exact agk A a
 rw[show jg ns N=M by unfold jg;repeat rw[aa (by omega)]];refine ajt A λf c=>?_;simp only[Cb,ij,mo,mu]at c;omega
end
def I2(l:List Int)(i:Int):Nat->Nat->Bool
 |0,_=>Y
 |f+1,j=>decide (0<=l.getD j 0/\l.getD j 0<i)&&I2 l i f (j+1)
structure am9 (l:List Int) (i:Int) (f j:Nat) (R:Bool):Prop where
 out:I2 l i f j=R
def yC(l:List Int)(i:Int):∀(f j:Nat),I2 l i f j=Y->∀k,j<=k->k<j+f->0<=l.getD k 0/\l.getD k 0<i
 |0,j,_,k,a,b=>by omega
 |f+1,j,h,k,a,b=>by
  rw[I2,bI]at h;rcases js a with rfl|h3
  .exact aE h.1
  .exact yC l i f (j+1) h.2 k h3 (by omega)
def ana{i:Nat}(h:I2 N.ks i N.ks.length 0=Y)(d:i<=ns.length):zo ns N:=by
 refine⟨λe b=>?_⟩;obtain⟨c,a,rfl⟩:=gG b;have:=yC N.ks i N.ks.length 0 h c (by omega) (by omega);rw[aK,aA a]at this;simp only[iu]at this;omega
def Kl(N:Nd):Bool:=decide (0<=N.f/\N.f<=N.t/\0<=N.l/\N.ks.length<=200)
def nC(ns:List Nd)(N:Nd):Bool:=if jz N.k=Y then stB ns N else jg ns N
def jx(ns:List Nd)(i:Nat)(N:Nd):Bool:=Kl N&&(I2 N.ks i N.ks.length 0&&nC ns N)
structure kH (N:Nd):Prop where
 l1:N.nm.length<=1048576
 l2:N.ks.length<=1048576
 lx:N.x.size<=1048576
 ls:∀s∈N.nm,s.size<=1048576
def H9(w:A5)(an:A2)(ns:List Nd)(i:Nat)(N:Nd)(ht:eK w an ns)(bb:ns.length<=1048576)(o:ns[i]?=U N)(hS:kH N):
  A3 T 45 #[B1 #[an],O Q i] w λe bf=>e= V (B0 (jx ns i N))/\A0 w.heap.size w bf:=by
 obtain⟨bj,J,rfl⟩:=ht.form;obtain⟨al,rfl,bD,bA,a7⟩:=ht.get o;have a9:i<ns.length:=by rcases bC i ns.length with h|h;exact h;rw[jr h]at o;cases o
 have br:(i:Int)<(ns.length:Int):=by omega
 have bo:(0:Int)<=(i:Int):=by omega
 obtain⟨ad,ar,au,av,ax,a0,a4,a5,a6,z,y⟩:=a7;obtain⟨H,K,rfl⟩:=z.form;obtain⟨I,L,rfl⟩:=y.form;have bw:=BC ad;have m:=aq hS;have n:=kJ ht z y;have bv:=hS.l2;clear ht z y hS o;unfold jx;by_cases s:N.f<0\/N.t<N.f\/N.l<0\/(200:Int)<(N.ks.length:Int)
 .rw[show Kl N=M from aD (by omega)];go_in;go_wp2;all_goals (go_ret;exact⟨rfl,(Co rfl).2.2.1⟩)
 rw[show Kl N=Y from bp (by omega)];simp only[not_or]at s;obtain⟨s,bk,bl,bn⟩:=s;obtain⟨G,hS⟩:=aF (nC ns N);rw[hS];have F:=aq hS;clear hS;obtain⟨q,u⟩:=aF (I2 N.ks i N.ks.length 0);rw[u];have E:am9 N.ks i N.ks.length 0 q:=⟨u⟩;clear u;go_in;go_wp2_with fail;generalize af:(w.alloc _).alloc _=r;obtain⟨ak,x,c, -⟩:=Co af;replace ak:r.cell? ⟨w.heap.size,0,X⟩=U (Br (U al) ns.length J):=(am _ _ _ _ _ _ ak).trans rfl;replace x:mD (w.heap.size+1) r 62 N (Br H N.nm.length K) (Br I N.ks.length L):=x;clear af;clear ad ar au av ax a0 a4 a5 a6;go_loop [7,37] (λ_ C=>∃a:Nat,C= O Q a/\a<=N.ks.length/\am9 N.ks i (N.ks.length-a) a q) (λ_ C=>N.ks.length-(A9 C).toNat)
 case atStart=>exact⟨0,rfl,by omega,E⟩
 case round=>
  obtain⟨a,rfl,bs,ap⟩:=hrel;have b:=ap.out;by_cases bd:a<N.ks.length
  .have B:N.ks[a]?=U N.ks[a]:=aA bd;obtain⟨bx,rfl,a8⟩:=(n.2.2.below c).get B;rw[show N.ks.length-a=(N.ks.length-(a+1))+1 by omega,I2,aK,B,iu]at b;have ba:(a:Int)<(N.ks.length:Int):=by omega
   have bt:(0:Int)<=(a:Int):=by omega
   generalize N.ks[a]=ao at b a8;clear B;by_cases z0:ao<0
   .rw[aD (by omega),fw]at b;have d:=aq b;clear b;go_wp2_with fail;go_ret;exact⟨by rw[<-d.out];rfl,c⟩
   by_cases b9:(i:Int)<=ao
   .rw[aD (by omega),fw]at b;have d:=aq b;clear b;go_wp2_with fail;go_ret;exact⟨by rw[<-d.out];rfl,c⟩
   rw[bp (by omega),gB]at b;have d:am9 N.ks i (N.ks.length-(a+1)) (a+1) q:=⟨b⟩;clear b;go_wp2_with fail;go_round
   case rel=>exact⟨a+1,by go_num,by omega,d⟩
   case measure=>simp[A9];omega
  .rw[show N.ks.length-a=0 by omega,I2]at b;have d:=aq b;have ba:¬(a:Int)<(N.ks.length:Int):=by omega
   have A:zo ns N:=ana (by rw[E.out,<-d.out]) (fx a9);have j:NArg r (Br (U al) ns.length J) ns N (Br H N.nm.length K) (Br I N.ks.length L):=⟨n.1.below c,n.2.1.below c,n.2.2.below c,A,bb,m.l1,m.l2,m.lx,m.ls⟩;obtain⟨bE,b0,b1,b2,b3,b4,b5,b6,b7,b8⟩:=be x;have p:=λw=>CF N.k w;clear b;cases hx:jz N.k with
   |true=>
    have g:=Ba j hx;rw[hx]at p;rw[show stB ns N=G by rw[<-F.out];unfold nC;rw[ab hx]]at g;unfold jl at g;clear hx j A;go_wp2_with (first|(go_at_call 82;refine ft (p _) ?_)|(go_at_call 83;refine g.mono ?_;rintro e bh ⟨rfl,v⟩));go_ret;exact⟨by rw[<-d.out];rfl,c.trans (v.mono c.size)⟩
   |false=>
    have g:=Aa j;rw[hx]at p;rw[show jg ns N=G by rw[<-F.out];unfold nC;rw[aa (by rw[hx];simp)]]at g;unfold jl at g;clear hx j A;go_wp2_with (first|(go_at_call 82;refine ft (p _) ?_)|(go_at_call 84;refine g.mono ?_;rintro e bh ⟨rfl,v⟩));go_ret;exact⟨by rw[<-d.out];rfl,c.trans (v.mono c.size)⟩
def ic(p:Nat->Bool):Nat->Nat->Option Nat
 |0,_=>X
 |f+1,j=>if p j=Y then U j else ic p f (j+1)
structure xo (p:Nat->Bool) (f j:Nat) (R:Option Nat):Prop where
 out:ic p f j=R
def LB(i:Nat):List Int->List Int->List Int
 |[],D=>D
 |k::r,D=>LB i r (D.set k.toNat (D.getD i 0+1))
def dpN(ns:List Nd):Nat->List Int->List Int
 |0,D=>D
 |m+1,D=>dpN ns m (LB m (ns.getD m Fi).ks D)
def Ev(ns:List Nd):List Int:=dpN ns ns.length (B5 ns.length 0)
def iA(ns:List Nd):Bool:=decide (ns.length=0\/3000<ns.length\/(ns.getD (ns.length-1) Fi).k≠1)
def fl(ns:List Nd)(i:Nat):Bool:=!(jx ns i (ns.getD i Fi))
def fL(S:List Int)(i:Nat):Bool:=S.getD i 0==0
def jv(D:List Int)(i:Nat):Bool:=decide (100<D.getD i 0)
def tf4:Option Nat->Int×Int
 |some i=>(4,(i:Int))
 |none=>(0,0)
def tf3(S D:List Int)(n:Nat):Option Nat->Int×Int
 |some i=>(3,(i:Int))
 |none=>if S.getD (n-1) 0≠(n:Int) then(3,(n:Int)-1) else tf4 (ic (jv D) n 0)
def tf2(S D:List Int)(n:Nat):Option Nat->Int×Int
 |some i=>(2,(i:Int))
 |none=>tf3 S D n (ic (fL S) n 0)
def dD(ns:List Nd):Int×Int:=if iA ns=Y then(1,0) else tf2 (il ns) (Ev ns) ns.length (ic (fl ns) ns.length 0)
def aej(n:Nat)(D:List Int):Prop:=D.length=n/\∀(a:Nat) z,D[a]?=U z->0<=z/\z<=(n:Int)-1-a
def aej.set{n:Nat}{D:List Int}(h:aej n D)(i q:Nat)(g:i<n)(j:q<i):aej n (D.set q (D.getD i 0+1)):=by
 obtain⟨e,b⟩:=h;refine⟨by simp[e],λd f a=>?_⟩;by_cases c:q=d
 .subst c;rw[List.getElem?_set_self (by omega)]at a;obtain rfl:=bc a;rw[aK,aA (by omega)];have:=b i D[i] (aA (by omega));simp;omega
 .rw[List.getElem?_set_ne c]at a;exact b d f a
def oC{p:Nat->Bool}:∀{f j:Nat},ic p f j=X->∀k,j<=k->k<j+f->p k=M
 |0,j,_,k,a,b=>by omega
 |f+1,j,h,k,a,b=>by
  rw[ic]at h;split at h
  .cases h
  .rename_i c;rcases js a with rfl|g
   .simpa using c
   .exact oC h k g (by omega)
def lH(b:Nat)(W:A5)(c n:Int):Prop:=W.heap[b]?=U (B4 #[O Q c,O Q n] 55 (0,0))
def jI(h:lH b W c n):W.cell? ⟨b,0,X⟩=U (O Q c)/\W.cell? ⟨b,1,X⟩=U (O Q n)/\∀j,W.frozen? ⟨b,j,X⟩=M:=by
 unfold lH at h;exact⟨by rw[am _ _ _ _ _ _ h];rfl,by rw[am _ _ _ _ _ _ h];rfl,λj=>ch _ _ _ _ _ h⟩
def qj(h:lH b W c n)(a n2:Int):lH b ((W.setCell ⟨b,0,X⟩ (O Q a)).setCell ⟨b,1,X⟩ (O Q n2)) a n2:=aL _ b 1 _ _ _ (aL _ b 0 _ _ _ h)
def lH.below(h:lH b W c n)(a:A0 W.heap.size W W'):lH b W' c n:=(a.block _ (aj h)).trans h
def Km(w:A5)(v:A2)(ns:List Nd)(h:eK w v ns)(u:ns.length<=1048576)(o:iA ns=Y):
  A3 T 22 #[.agg #[v]] w λe E=>e= .returned (.agg #[.int .i64 1,.int .i64 0])/\A0 w.heap.size w E:=by
 obtain⟨F,G,rfl⟩:=h.form;have i:∀b c,A0 w.heap.size w ((w.alloc b).alloc c):=λb c=>((ai _ w).alloc (ag _) b).alloc (by simp) c;have r:∀b (f:Array A2) (j:TypeId),((w.alloc b).alloc (.cells f j)).heap[w.heap.size+1]?=U (.cells f j (0,0)):=λb f j=>by
  have:=aB (w.alloc b) (.cells f j);rw[de]at this;exact this
 have p:=aE o;by_cases d:ns.length=0
 .rw[d];go_in;go_wp2;exact aH (gA rfl _ _ (w.heap.size+1) _ _ _ _ rfl (r _ _ _) Tryz.underlying55 rfl (by kernel_rfl)) rfl ⟨rfl,i _ _⟩
 by_cases g:3000<ns.length
 .have A:(3000:Int)<(ns.length:Int):=by omega
  have z:¬(ns.length:Int)=0:=by omega
  generalize ns.length=s at z A u⊢;clear h o p d g;go_in;go_wp2;exact aH (gA rfl _ _ (w.heap.size+1) _ _ _ _ rfl (r _ _ _) Tryz.underlying55 rfl (by kernel_rfl)) rfl ⟨rfl,i _ _⟩
 .have B:(ns.getD (ns.length-1) Fi).k≠1:=by rcases p with e|e|e;exact absurd e d;exact absurd e g;exact e
  have q:ns.length-1<ns.length:=by omega
  obtain⟨l,n⟩:∃l,ns[ns.length-1]?=U l:=⟨_,aA q⟩;rw[aK,n,iu]at B;obtain⟨y,rfl,ao,an,t⟩:=h.get n;have m:=t.c0;obtain⟨s,x⟩:=aF ns.length;rw[x]at m d g u q⊢;obtain⟨a,C⟩:∃a:Nat,s=a+1:=⟨s-1,by omega⟩;subst C;rw[nK]at m;have J:((a+1:Nat):Int)-1=(a:Int):=by omega
  have ad:¬((a+1:Nat):Int)=0:=by omega
  have af:¬(3000:Int)<((a+1:Nat):Int):=by omega
  have ak:(a:Int)<((a+1:Nat):Int):=by omega
  have L:(0:Int)<=(a:Int):=by omega
  have H:(((a:Int)+1)==0)=M:=by rw[dv];omega
  have I:decide ((3000:Int)<(a:Int)+1)=M:=aD (by omega);have al:(a:Int)<(a:Int)+1:=by omega
  have K:∀b c,((w.alloc b).alloc c).cell? (y.add (a*9))=U (.int .i64 l.k):=λb c=>ah (i b c) m;clear h o p d g n t x q;go_in;go_wp2;exact aH (gA rfl _ _ (w.heap.size+1) _ _ _ _ rfl (r _ _ _) Tryz.underlying55 rfl (by kernel_rfl)) rfl ⟨rfl,i _ _⟩
structure Kn (w:A5) (v:A2) (W:A5):Prop where
 tb:W.heap[w.heap.size]?=U (.cells #[v] 26 (0,0))
 fb:lH (w.heap.size+1) W 0 0
 bl:A0 w.heap.size w W
def Kn.below{v:A2}(h:Kn w v W)(a:A0 W.heap.size W W'):Kn w v W':=
 ⟨(a.block _ (aj h.tb)).trans h.tb,h.fb.below a,h.bl.trans (a.mono h.bl.size)⟩
structure anb (w:A5) (v:A2) (gd n:Nat) (ns:List Nd) (t:Nat) (D:List Int) (W:A5):Prop where
 tk:Kn w v W
 row:W.ownsRow w.heap.size 3 1 (.slice (U ⟨gd,0,X⟩) n n) n (D.map (B7 .i64))
 ok:aej n D
 rest:dpN ns t D=Ev ns
structure anc (w:A5) (v:A2) (gd n t:Nat) (ks D:List Int) (j:Nat) (E:List Int) (W:A5):Prop where
 tk:Kn w v W
 row:W.ownsRow w.heap.size 3 1 (.slice (U ⟨gd,0,X⟩) n n) n (E.map (B7 .i64))
 ok:aej n E
 rest:LB t (ks.drop j) E=LB t ks D
def dI{v:A2}{t:TypeId}(h:W.heap[b]?=U (B4 #[v] t (0,0))):W.cell? ⟨b,0,X⟩=U v:=by
 rw[am _ _ _ _ _ _ h];rfl
def Ko(w:A5)(v:A2)(ns:List Nd)(h:eK w v ns)(er:ns.length<=1048576)(dn:∀N∈ns,kH N)(b3:iA ns=M):
  A3 T 22 #[.agg #[v]] w λe fd=>e= .returned (.agg #[.int .i64 (dD ns).1,.int .i64 (dD ns).2])/\A0 w.heap.size w fd:=by
 obtain⟨fm,y,rfl⟩:=h.form;have bk:=mj b3;have H:=kJ h dn b3;have cy:¬ns.length=0:=λe=>bk (.inl e);have ef:¬3000<ns.length:=λe=>bk (.inr (.inl e));have bE:(ns.getD (ns.length-1) Fi).k=1:=by
  by_cases a6:(ns.getD (ns.length-1) Fi).k=1
  .exact a6
  .exact absurd (.inr (.inr a6)) bk
 obtain⟨N,E⟩:∃N,ns[ns.length-1]?=U N:=⟨_,aA (by omega)⟩;rw[aK,E,iu]at bE;obtain⟨s,rfl,gt,gr,c3⟩:=h.get E;have a5:=c3.c0;rw[bE]at a5;have ek:∀ap A,A0 w.heap.size w ((w.alloc ap).alloc A):=λap A=>((ai _ w).alloc (ag _) ap).alloc (by simp) A;obtain⟨ao,b8⟩:=aF ns.length;obtain⟨B,hF⟩:=aF (dD ns);have o:=gE b8 hF;rw[hF];rw[b8]at H a5 cy ef⊢;obtain⟨a,ey⟩:∃a:Nat,ao=a+1:=⟨ao-1,by omega⟩;have dd:ao-1=a:=by omega
 rw[dd]at a5;have dg:(0:Int)<=(a:Int):=by omega
 have e6:¬(ao:Int)=0:=by omega
 have e7:¬(3000:Int)<(ao:Int):=by omega
 have e8:(a:Int)<(ao:Int):=by omega
 have e9:(ao:Int)-1=(a:Int):=by omega
 have fv:(((a:Int)+1)==0)=M:=by rw[dv];omega
 have fz:decide ((3000:Int)<(a:Int)+1)=M:=aD (by omega);have gp:(a:Int)<(a:Int)+1:=by omega
 have el:∀ap A,((w.alloc ap).alloc A).cell? (s.add (a*9))=U (.int .i64 1):=λap A=>ah (ek ap A) a5;clear h b3 bk cy bE E c3 b8 er dn hF dd a5 e6 e7 e8 e9;subst ey;go_in;go_wp2_with fail;generalize cI:(w.alloc _).alloc _=d7;obtain⟨cx,cl,cf, -⟩:=Co cI;have dq:Kn w (.slice (U s) (a+1) y) d7:=⟨cx,cl,cf⟩;clear cI;obtain⟨bx,b1⟩:=aF (ic (fl ns) (a+1) 0);have bv:=aq b1;have cp:xo (fl ns) (a+1-0) 0 bx:=⟨b1⟩;clear b1 cx cl cf el;go_loopw [39] (λj wr=>∃b:Nat,b<=a+1/\j= .int .i64 b/\xo (fl ns) (a+1-b) b bx/\Kn w (.slice (U s) (a+1) y) wr) (λj _=>a+1-(A9 j).toNat)
 case atStart=>exact⟨0,aI _,rfl,cp,dq⟩
 case round=>
  obtain⟨b,c9,rfl,m,x⟩:=hrel;clear dq cp;have c:=m.out;by_cases ev:b<a+1
  .obtain⟨bd,a7⟩:=cA o.1 ev;have dc:(b:Int)<(a:Int)+1:=by omega
   have da:(0:Int)<=(b:Int):=by omega
   have bs:=H9 wr (.slice (U s) (a+1) y) ns b bd (H.1.below x.bl) (by rw[o.out.1];omega) a7 (H.2.1 bd (dz a7));have av:=dI x.tb;obtain⟨ad,af,al⟩:=jI x.fb;rw[show a+1-b=(a+1-(b+1))+1 by omega,ic]at c;have z:fl ns b=!(jx ns b bd):=by unfold fl;rw[aK,a7];rfl
   rw[z]at c;have bb:=aq x;cases hx:jx ns b bd with
   |true=>
    rw[hx]at bs c;rw[aa (by decide)]at c;have a9:xo (fl ns) (a+1-(b+1)) (b+1) bx:=⟨c⟩;clear c hx z a7 x m ad af al;go_wp2_with (go_at_call 45;refine bs.mono ?_;rintro e J ⟨rfl,an⟩);exact⟨⟨b+1,by omega,by go_num,a9,bb.below an⟩,by simp[A9];omega⟩
   |false=>
    rw[hx]at bs c;rw[ab (by decide)]at c;have G:B2 (B=(2,(b:Int))):=by
     show B=(2,(b:Int));rw[<-o.out.2];unfold dD;rw[H.out.2.2,aa (by decide),o.out.1,bv.out,<-c];rfl
    clear c hx z a7 x m ad af al;go_wp2_with fail;refine bs.mono ?_;rintro e J ⟨rfl,an⟩;have g:=bb.below an;obtain⟨ad,af,al⟩:=jI g.fb;have p:=aq g;clear g an;go_wp2_with fail;have g:=p.out;exact aH (gA rfl _ _ (w.heap.size+1) _ _ _ _ rfl (qj g.fb 2 b) Tryz.underlying55 rfl (by kernel_rfl)) rfl ⟨by rw[G.out],(g.bl.setCell (by simp) _).setCell (by simp) _⟩
  .obtain rfl:b=a+1:=by omega
   rw[fG,ic]at c;have d4:=aq c.symm;have c2:=oC (show ic (fl ns) (a+1) 0=X by rw[bv.out];exact c.symm);have a3:∀(F:Nat) N,ns[F]?=U N->∀i∈N.ks,0<=i/\i<(F:Int):=λF N E i d=>by
    have bo:F<a+1:=by rw[<-o.out.1];exact(List.getElem?_eq_some_iff.1 E).1
    have I:=c2 F (aI _) (by omega);unfold fl at I;rw[aK,E,iu]at I;have b0:jx ns F N=Y:=by simpa using I
    unfold jx at b0;have eg:I2 N.ks F N.ks.length 0=Y:=by
     rw[bI,bI]at b0;exact b0.2.1
    obtain⟨n,cb,rfl⟩:=gG d;have:=yC N.ks F N.ks.length 0 eg n (by omega) (by omega);rw[aK,aA cb]at this;simpa using this
   have cc:=Jm wr (.slice (U s) (a+1) y) ns (H.1.below x.bl) (by rw[o.out.1];omega) (λN E=>(H.2.1 N E).l2) a3;rw[o.out.1]at cc;have cs:=aq a3;have av:=dI x.tb;have bb:=aq x;have e1:=x.bl.size;have gm:w.heap.size+1<wr.heap.size:=aj x.fb;clear c c2 a3 x m;go_wp2_with fail;refine cc.mono ?_;rintro e J ⟨a6,rfl,b9,an⟩;have g:=bb.below an;obtain⟨q,hS⟩:=aF (il ns);have cF:q.length=a+1:=by rw[<-hS,kG,o.out.1]
   rw[hS]at b9;have cu:B2 (il ns=q/\q.length=a+1/\A4 q):=⟨hS,cF,by rw[<-hS];exact xe ns (λN E i d=>by
    obtain⟨F,bo,e⟩:=gG E;exact(cs F N (by rw[aA bo,e]) i d).1)⟩
   have p:=gE g b9;obtain⟨bf,bj⟩:=aF (ic (fL q) (a+1) 0);have fk:=aq bj;have a9:xo (fL q) (a+1-0) 0 bf:=⟨bj⟩;have bw:B2 (dD ns=tf3 q (Ev ns) (a+1) bf):=by
    show dD ns=_;unfold dD;rw[H.out.2.2,aa (by decide),o.out.1,bv.out,d4.out,hS];show tf3 q (Ev ns) (a+1) (ic (fL q) (a+1) 0)=_;rw[bj]
   clear hS cF bj g b9 an cc av;go_wp2_with fail;go_loop [53] (λj=>∃b:Nat,b<=a+1/\j= .int .i64 b/\xo (fL q) (a+1-b) b bf) (λj=>a+1-(A9 j).toNat)
   case atStart=>exact⟨0,aI _,rfl,a9⟩
   case round=>
    obtain⟨b,f5,rfl,m⟩:=hrel;clear a9;have c:=m.out;by_cases ew:b<a+1
    .have dc:(b:Int)<(a:Int)+1:=by omega
     have da:(0:Int)<=(b:Int):=by omega
     obtain⟨i,d⟩:=cA cu.2.1 ew;have bD:J.cell? ⟨a6,b,X⟩=U (.int .i64 i):=by rw[p.out.2.cellAt b (by omega),cH,d];rfl
     rw[show a+1-b=(a+1-(b+1))+1 by omega,ic]at c;have z:fL q b=(i==0):=by unfold fL;rw[aK,d];rfl
     rw[z]at c;by_cases br:i=0
     .subst br;rw[ab (by decide)]at c;have G:B2 (B=(3,(b:Int))):=by
       show B=(3,(b:Int));rw[<-o.out.2,bw.out,<-c];rfl
      obtain⟨ad,af,al⟩:=jI p.1.fb;clear c z d m;go_wp2_with fail;have g:=p.1;exact aH (gA rfl _ _ (w.heap.size+1) _ _ _ _ rfl (qj g.fb 3 b) Tryz.underlying55 rfl (by kernel_rfl)) rfl ⟨by rw[G.out],(g.bl.setCell (by simp) _).setCell (by simp) _⟩
     .rw[aa (by simpa using br)]at c;have bt:xo (fL q) (a+1-(b+1)) (b+1) bf:=⟨c⟩;clear c z d m;go_wp2_with fail;go_round
      case rel=>exact⟨b+1,by omega,by go_num,bt⟩
      case measure=>simp[A9];omega
    .obtain rfl:b=a+1:=by omega
     rw[fG,ic]at c;have d5:=aq c.symm;obtain⟨i,d⟩:=cA cu.2.1 (show a<a+1 by omega);have bD:J.cell? ⟨a6,a,X⟩=U (.int .i64 i):=by rw[p.out.2.cellAt a (by omega),cH,d];rfl
     have a0:q.getD a 0=i:=by rw[aK,d];rfl
     have t:=bw.out;rw[d5.out,tf3,nK,a0]at t;by_cases e5:i=(a:Int)+1
     .rw[aa (by omega)]at t;have d6:=aq t;subst e5;have av:=dI p.1.tb;clear c t d a0 m;obtain⟨dg,bo,br,e3,e4⟩:=eD vA;have eL:=p.1.bl.size;go_wp2_with (at_make;refine Bw _ rfl _ _ 60 rfl w.heap.size 3 dg (.int .i64 0) 1 Tryz.underlying60 bo br e3 .i64 .i64 _ _ (a+1) rfl rfl rfl rfl (by rw[e4];omega) (by unfold maxLen;omega) eL ?_;intro dx ca a1;have b4:A0 J.heap.size J dx:=⟨a1.os,a1.tape,a1.output,a1.size,λb c9=>a1.block b c9 (by simp)⟩;have d9:=ah b4 av);rw[show(madeCells (B7 .i64 0).cells ((a+1)*1)).toList=B5 (a+1) (B7 .i64 0) by rw[sn];exact Bl _ _]at ca;have ce:anb w (.slice (U s) (a+1) y) J.heap.size (a+1) ns (a+1) (B5 (a+1) 0) dx:=by
       refine⟨p.1.below b4,?_,⟨by simp,λu i d=>?_⟩,?_⟩
       .rw[List.map_replicate];exact ca
       .rw[Gi]at d;split at d
        .obtain rfl:=bc d;omega
        .cases d
       .unfold Ev;rw[o.out.1]
      have e0:w.heap.size+1<J.heap.size:=aj p.1.fb;clear ca a1 b4 d9 av bD;obtain⟨r,a0⟩:=aF J.heap.size;rw[a0]at ce e0⊢;have cv:=aq ce;clear ce a0 p bw;go_loopw [8] (λj wr=>∃(f:Nat) (D:List Int),f<=a+1/\j= .int .i64 ((f:Int)-1)/\B2 (anb w (.slice (U s) (a+1) y) r (a+1) ns f D wr)) (λj _=>(A9 j+1).toNat)
      case atStart=>exact⟨a+1,_,ag _,by congr 1;omega,cv⟩
      case round=>
       obtain⟨f,D,gb,rfl,l⟩:=hrel;clear cv;cases f with
       |zero=>
        have f7:¬(0:Int)<=((0:Nat):Int)-1:=by omega
        have cB:D=Ev ns:=l.rest;have ar:=kJ l.tk l.row l.ok.1;have t:=d6.out;rw[<-cB]at t;obtain⟨bA,b2⟩:=aF (ic (jv D) (a+1) 0);rw[b2,o.out.2]at t;have cw:=aq t;have cr:xo (jv D) (a+1-0) 0 bA:=⟨b2⟩;clear t b2 cB l;go_wp2_with fail;go_loop [110] (λj=>∃b:Nat,b<=a+1/\j= .int .i64 b/\xo (jv D) (a+1-b) b bA) (λj=>a+1-(A9 j).toNat)
        case atStart=>exact⟨0,aI _,rfl,cr⟩
        case round=>
         obtain⟨b,f6,rfl,m⟩:=hrel;clear cr;have c:=m.out;by_cases ex:b<a+1
         .have dc:(b:Int)<(a:Int)+1:=by omega
          have da:(0:Int)<=(b:Int):=by omega
          obtain⟨i,d⟩:=cA ar.2.2 ex;have bD:wr.cell? ⟨r,b,X⟩=U (.int .i64 i):=by rw[ar.out.2.1.cellAt b (by omega),cH,d];rfl
          rw[show a+1-b=(a+1-(b+1))+1 by omega,ic]at c;have z:jv D b=decide (100<i):=by unfold jv;rw[aK,d];rfl
          rw[z]at c;by_cases df:100<i
          .rw[ab (bp df)]at c;have G:B2 (B=(4,(b:Int))):=by
            show B=(4,(b:Int));rw[cw.out,<-c];rfl
           obtain⟨ad,af,al⟩:=jI ar.1.fb;clear c z d m;go_wp2_with fail;have g:=ar.1;exact aH (gA rfl _ _ (w.heap.size+1) _ _ _ _ rfl (qj g.fb 4 b) Tryz.underlying55 rfl (by kernel_rfl)) rfl ⟨by rw[G.out],(g.bl.setCell (by simp) _).setCell (by simp) _⟩
          .rw[aa (by simpa using df)]at c;have bt:xo (jv D) (a+1-(b+1)) (b+1) bA:=⟨c⟩;clear c z d m;go_wp2_with fail;go_round
           case rel=>exact⟨b+1,by omega,by go_num,bt⟩
           case measure=>simp[A9];omega
         .obtain rfl:b=a+1:=by omega
          rw[fG,ic]at c;have G:B2 (B=(0,0)):=by
           show B=(0,0);rw[cw.out,<-c];rfl
          obtain⟨ad,af,al⟩:=jI ar.1.fb;clear c m;go_wp2_with fail;have g:=ar.1;exact aH (gA rfl _ _ (w.heap.size+1) _ _ _ _ rfl (qj g.fb 0 0) Tryz.underlying55 rfl (by kernel_rfl)) rfl ⟨by rw[G.out],(g.bl.setCell (by simp) _).setCell (by simp) _⟩
       |succ f=>
        have ed:(((f+1:Nat)):Int)-1=(f:Int):=by omega
        rw[ed];have gf:(f:Int)<(a:Int)+1:=by omega
        have ge:(0:Int)<=(f:Int):=by omega
        obtain⟨C,ax⟩:=cA o.1 (show f<a+1 by omega);obtain⟨fn,eh,gu,gs,b5⟩:=H.1.get ax;obtain rfl:=bc eh;have ea:=ah l.tk.bl b5.c8;have a3:=cs.out f C ax;have b7:=b5.hk;obtain⟨d8,ec,rfl⟩:=b7.form;obtain⟨au,bh⟩:=aF C.ks.length;have es:=(H.2.1 C (dz ax)).l2;rw[bh]at ea es;have eq:l.rest=l.rest:=rfl;have a8:dpN ns f (LB f C.ks D)=Ev ns:=by
         have:=l.rest;rw[dpN,aK,ax,iu]at this;exact this
        have ba:=Cn bh a3 a8 ax;have av:=dI l.tk.tb;have d3:B2 (dB w (.slice d8 au ec) C.ks):=by rw[<-bh];exact b7
        have cn:B2 (anc w (.slice (U s) (a+1) y) r (a+1) f C.ks D 0 D wr):=⟨l.tk,l.row,l.ok,rfl⟩;have e1:=l.tk.bl.size;clear a3 b7 a8 b5 ax bh l eq;go_wp2_with fail;go_loopw [95] (λj fg=>∃(u:Nat) (L:List Int),u<=au/\j= .int .i64 u/\B2 (anc w (.slice (U s) (a+1) y) r (a+1) f C.ks D u L fg)) (λj _=>au-(A9 j).toNat)
        case atStart=>exact⟨0,D,aI _,rfl,cn⟩
        case round=>
         obtain⟨u,L,f2,rfl,k⟩:=hrel;clear cn;by_cases ep:u<au
         .have f4:(u:Int)<(au:Int):=by omega
          have f3:(0:Int)<=(u:Int):=by omega
          obtain⟨i,d⟩:=cA ba.1 ep;obtain⟨fo,ei,fF⟩:=(d3.below k.tk.bl).get d;subst ei;obtain⟨e2,gn⟩:=ba.2.1 i (dz d);obtain⟨n,rfl⟩:=iw e2;have cb:n<f:=by omega
          obtain⟨K,bn⟩:=cA k.ok.1 (show f<a+1 by omega);obtain⟨ee,c6⟩:=cA k.ok.1 (show n<a+1 by omega);have fB:=k.ok.2 f K bn;have a4:=k.row;have fu:wr.cell? ⟨r,f,X⟩=U (.int .i64 K):=by rw[a4.cellAt f (by omega),cH,bn];rfl
          have fr:wr.cell? ⟨r,n,X⟩=U (.int .i64 ee):=by rw[a4.cellAt n (by omega),cH,c6];rfl
          have fA:=a4.frozenAt n;have eo:=(a4.lt r rfl).1;have b6:L.getD f 0=K:=by rw[aK,bn];rfl
          have A:=(a4.stored n (.int .i64 (K+1))).1;rw[<-List.map_set]at A;have cd:=k.ok.set f n (by omega) cb;rw[b6]at cd;have a8:LB f (C.ks.drop (u+1)) (L.set n (K+1))=LB f C.ks D:=by
           have I:=k.rest;have c7:=(List.getElem?_eq_some_iff.1 d);rw[lp c7.1,c7.2,LB,b6]at I;exact I
          have eF:r≠w.heap.size:=by omega
          have eA:r≠w.heap.size+1:=by omega
          have ds:Kn w (.slice (U s) (a+1) y) (wr.setCell ⟨r,n,X⟩ (.int .i64 (K+1))):=
           ⟨(aC _ _ _ _ (dA eF)).trans k.tk.tb,(aC _ _ _ _ (dA eA)).trans k.tk.fb,k.tk.bl.setCell eo _⟩
          have d0:B2 (anc w (.slice (U s) (a+1) y) r (a+1) f C.ks D (u+1) (L.set n (K+1)) (wr.setCell ⟨r,n,X⟩ (.int .i64 (K+1)))):=⟨ds,A,cd,a8⟩;have f9:(n:Int)<(a:Int)+1:=by omega
          have f8:(0:Int)<=(n:Int):=by omega
          clear d k A cd a8 ds a4 bn c6 b6;go_wp2_with fail;exact⟨⟨u+1,_,by omega,by go_num,d0⟩,by simp[A9];omega⟩
         .obtain rfl:u=au:=by omega
          have en:B2 (anb w (.slice (U s) (a+1) y) r (a+1) ns f L wr):=by
           refine⟨k.tk,k.row,k.ok,?_⟩;have I:=k.rest;rw[lr (by rw[ba.out.1];exact ag _),LB]at I;rw[I];exact ba.2.2.1
          clear k;go_wp2_with fail;exact⟨⟨f,L,by omega,rfl,en⟩,by simp[A9]⟩
     .rw[ab (by omega)]at t;have G:B2 (B=(3,(a:Int))):=by
       show B=(3,(a:Int));rw[<-o.out.2,t]
       congr 1
       omega
      obtain⟨ad,af,al⟩:=jI p.1.fb;clear c t d a0 m;go_wp2_with fail;have g:=p.1;exact aH (gA rfl _ _ (w.heap.size+1) _ _ _ _ rfl (qj g.fb 3 a) Tryz.underlying55 rfl (by kernel_rfl)) rfl ⟨by rw[G.out],(g.bl.setCell (by simp) _).setCell (by simp) _⟩
def DC(w:A5)(v:A2)(ns:List Nd)(h:eK w v ns)(a:ns.length<=1048576)(b:∀N∈ns,kH N):
  A3 T 22 #[B1 #[v]] w λe c=>e= V (B1 #[O Q (dD ns).1,O Q (dD ns).2])/\A0 w.heap.size w c:=by
 cases hb:iA ns with
 |true=>
  have e:dD ns=(1,0):=by unfold dD;rw[ab hb]
  rw[e];exact Km w v ns h a hb
 |false=>exact Ko w v ns h a b hb
structure ane (ns:List Nd):Prop where
 len:1<=ns.length/\ns.length<=3000
 kid:∀(i:Nat) N,ns[i]?=U N->∀z∈N.ks,0<=z/\z<(i:Int)
 kn:∀N∈ns,N.ks.length<=200
def agv{o:Option Nat}(h:(tf4 o).1=0):o=X:=by
 cases o with
 |none=>rfl
 |some a=>simp[tf4]at h
def uw(h:(dD ns).1=0):ane ns:=by
 unfold dD at h;by_cases i:iA ns=Y
 .rw[ab i]at h;exact absurd h (by decide)
 rw[aa i]at h;have q:iA ns=M:=by simpa using i
 have k:=mj q;obtain⟨e,j⟩:∃e,ic (fl ns) ns.length 0=e:=⟨_,rfl⟩;rw[j]at h;cases e with
 |some a=>rw[tf2]at h;exact absurd h (by simp)
 |none=>
  have p:=oC j;have m:∀(a:Nat) b,ns[a]?=U b->jx ns a b=Y:=λa b d=>by
   have l:a<ns.length:=(List.getElem?_eq_some_iff.1 d).1;have f:=p a (aI _) (by omega);unfold fl at f;rw[aK,d,iu]at f;simpa using f
  refine⟨⟨?_,?_⟩,λa b d u s=>?_,λb d=>?_⟩
  .rcases pi ns.length with g|g
   .exact absurd (.inl g) k
   .exact g
  .rcases bC 3000 ns.length with g|g
   .exact absurd (.inr (.inl g)) k
   .exact g
  .have c:=m a b d;unfold jx at c;have o:I2 b.ks a b.ks.length 0=Y:=by
    rw[bI,bI]at c;exact c.2.1
   obtain⟨t,r,rfl⟩:=gG s;have:=yC b.ks a b.ks.length 0 o t (by omega) (by omega);rw[aK,aA r]at this;simpa using this
  .obtain⟨a,l,n⟩:=gG d;have c:=m a b (by rw[aA l,n]);unfold jx Kl at c;rw[bI]at c;exact(aE c.1).2.2.2
def anf(s:ByteArray):ByteArray:=fy (eE s)
def aaD(x:List Int):(fy x).size=x.length:=by
 have d:∀(x:List Int)(a:ByteArray),(x.foldl (λb e=>b.push (UInt8.ofNat e.toNat)) a).size=a.size+x.length:=by
  intro x
  induction x with
  |nil=>intro a;rfl
  |cons f b c=>intro a;show(b.foldl _ (a.push _)).size=_;rw[c];simp;omega
 have:=d x ByteArray.empty;unfold fy;rw[this];simp
def aek(s:ByteArray):(anf s).size<=2+4*s.size:=by
 unfold anf;rw[aaD];unfold eE;have:=Gy s s.size (ag _);simp;omega
structure Lk (W:A5) (lb mb:Nat) (vs:A2):Prop where
 b:W.heap[lb]?=U (.cells #[.map (U mb),vs] 165 (0,0))
 m:W.ownsMap T 9 (plainElem (H:=Unit) T 3) mb 22 (zi 22)
 e:ou W
def sJ{mb n:Nat}{D:DataW Unit}(h:W.ownsMap T 9 (plainElem (H:=Unit) T 3) mb n D)(c:W'.heap[mb]?=W.heap[mb]?):W'.ownsMap T 9 (plainElem (H:=Unit) T 3) mb n D:=by
 obtain⟨b,a,d,e⟩:=h;exact⟨b,a,c.trans d,e⟩
def ou.keep(h:ou W)(a:A0 W.heap.size W W'):ou W':=by
 obtain⟨⟨b,c,f⟩,⟨d,e,g⟩⟩:=h;exact⟨⟨b,c,ah a f⟩,⟨d,e,ah a g⟩⟩
def Lk.below{lb mb:Nat}{c:A2}(h:Lk W lb mb c)(a:A0 W.heap.size W W'):Lk W' lb mb c:=
 ⟨(a.block _ (aj h.b)).trans h.b,sJ h.m (a.block _ h.m.lt),h.e.keep a⟩
def ux(w:A5)(lb mb:Nat)(k:A2)(s:ByteArray)(j:s.size<=1100000)(h:Lk w lb mb k):
  A3 T 227 #[Ax (U ⟨lb,0,X⟩),Z s] w λe g=>e= V (B0 (lh s))/\g=w:=by
 have n:w.cell? ⟨lb,0,X⟩=U (.map (U mb)):=by rw[am _ _ _ _ _ _ h.b];rfl
 have c:=LH s j mb w h.m;by_cases f:s.size<=40
 .have e:decide (bK (aw s 0)=Y/\qr s (s.size+1) 0=s.size/\sr s=M)=lh s:=by
   unfold lh;by_cases a:bK (aw s 0)=Y/\qr s (s.size+1) 0=s.size/\sr s=M
   .rw[bp a,bp ⟨f,a⟩]
   .rw[aD a,aD (λd=>a d.2)]
  rw[e]at c;generalize lh s=l at c⊢;clear e h;have i:(s.size:Int)<=40:=by omega
  go_in;go_wp2_with (go_at_call 249;refine c.mono ?_;rintro e g ⟨rfl,rfl⟩);go_ret;exact⟨rfl,rfl⟩
 .have e:lh s=M:=by unfold lh;rw[aD (λd=>f d.1)]
  rw[e];have i:¬(s.size:Int)<=40:=by omega
  clear c;go_in;go_wp2;go_ret;exact⟨rfl,rfl⟩
def yD(w:A5)(lb mb:Nat)(q:A2)(vn:A2)(l:List ByteArray)(h:Lk w lb mb q)(n:dk w vn l)(x:l.length<=1048576)(p:∀s∈l,s.size<=1048576):
  A3 T 195 #[Ax (U ⟨lb,0,X⟩),vn] w λe z=>e= V (B0 (ug l l.length 0))/\z=w:=by
 have f:=kJ n p h;obtain⟨B,C,rfl⟩:=n.form;obtain⟨k,g⟩:=aF (ug l l.length 0);rw[g];obtain⟨b,m⟩:=aF l.length;have t:=aq m;rw[m]at f x g⊢;have u:Fl l b 0 k:=⟨g⟩;clear m n p h g;go_in;go_wp2_with fail;go_loop [9] (λo=>∃(a:Nat),o= O Q a/\a<=b/\Fl l (b-a) a k) (λo=>b-(A9 o).toNat)
 case atStart=>exact⟨0,rfl,by omega,u⟩
 case round=>
  obtain⟨a,rfl,F,r⟩:=hrel;have c:=r.out;by_cases y:a<b
  .obtain⟨s,i⟩:=cA t.out y;have H:=f.2.1 s (dz i);obtain⟨I,rfl,E⟩:=f.1.get i;rw[show b-a=(b-(a+1))+1 by omega,ug,aK,i,iu]at c;have v:(a:Int)<(b:Int):=by omega
   have G:(0:Int)<=(a:Int):=by omega
   have j:=ux w lb mb q s (by omega) f.2.2;clear i;cases hx:lh s with
   |true=>
    rw[hx,gB]at c;rw[hx]at j;have d:Fl l (b-(a+1)) (a+1) k:=⟨c⟩;clear c hx;go_wp2_with (go_at_call 227;refine j.mono ?_;rintro e A ⟨rfl,rfl⟩);go_round
    case rel=>exact⟨a+1,by go_num,by omega,d⟩
    case measure=>simp[A9];omega
   |false=>
    rw[hx,fw]at c;rw[hx]at j;have d:=aq c;clear c hx;go_wp2_with (go_at_call 227;refine j.mono ?_;rintro e A ⟨rfl,rfl⟩);go_ret;exact⟨by rw[<-d.out];rfl,rfl⟩
  .rw[show b-a=0 by omega,ug]at c;have d:=aq c;have v:¬(a:Int)<(b:Int):=by omega
   clear c;go_wp2_with fail;go_ret;exact⟨by rw[<-d.out];rfl,rfl⟩
def txB(k:Int)(x:ByteArray):Bool:=if k=24 then fok x else if k=25 then decide ((x.size:Int)<=4000) else lh x
def Ia(w:A5)(lb mb:Nat)(j:A2)(k:Int)(s:ByteArray)(i:s.size<=1100000)(h:Lk w lb mb j):
  A3 T 196 #[Ax (U ⟨lb,0,X⟩),O Q k,Z s] w λe d=>e= V (B0 (txB k s))/\A0 w.heap.size w d:=by
 have b:=ux w lb mb j s i h;have a:=JA s i w h.e;unfold txB;by_cases c:k=24
 .subst c;rw[ab rfl];unfold fok;by_cases g:s.size<=40
  .have n:(s.size:Int)<=40:=by omega
   rw[bp g,gB];generalize qd s=l at a⊢;clear b h;go_in;go_wp2_with (go_at_call 228;refine a.mono ?_;rintro e d ⟨rfl,m⟩);go_ret;exact⟨rfl,m⟩
  .have n:¬(s.size:Int)<=40:=by omega
   rw[aD g,fw];clear b a h;go_in;go_wp2;go_ret;exact⟨rfl,ai _ _⟩
 by_cases f:k=25
 .subst f;rw[aa (by decide),ab rfl];clear b a h c;go_in;go_wp2;go_ret;exact⟨rfl,ai _ _⟩
 rw[aa c,aa f];generalize lh s=l at b⊢;clear a h;go_in;go_wp2_with (go_at_call 227;refine b.mono ?_;rintro e d ⟨rfl,rfl⟩);go_ret;exact⟨rfl,ai _ _⟩
def DF(k:Int):Int:=if k=2\/k=10 then 200 else if k=14 then 2 else 1
def Bb(k:Int)(w:A5):A3 T 194 #[O Q k] w λe b=>e= V (B3 #[O Q 1,O Q (DF k)])/\b=w:=by
 unfold DF;rcases(show k=2\/k=10\/k=14\/(¬k=2/\¬k=10/\¬k=14) by omega) with rfl|rfl|rfl|⟨c,d,a⟩
 .rw[ab (by decide)];go_in;go_wp2;go_ret2;exact⟨rfl,rfl⟩
 .rw[ab (by decide)];go_in;go_wp2;go_ret2;exact⟨rfl,rfl⟩
 .rw[aa (by decide),ab rfl];go_in;go_wp2;go_ret2;exact⟨rfl,rfl⟩
 .rw[aa (by omega),aa a];go_in;go_wp2;go_ret2;exact⟨rfl,rfl⟩
def ff0(w:A5)(lb mb:Nat)(o:A2)(h:Lk w lb mb o)(b:Nat)(nk v y x z:Int)(vk:A2)(vn:A2)(l:List ByteArray)(g:dk w vn l)(k:l.length<=1048576)(m:∀s∈l,s.size<=1048576)
  (f:w.heap[b]?=U (B4 #[O Q nk,O Q v,O Q y,O Q x,O Q z,vk,vn] 147 (0,0))):
  A3 T 128 #[Ax (U ⟨lb,0,X⟩),B6 145 (Ax (U ⟨b,0,X⟩))] w λe p=>e= V (B0 (decide (1<=(l.length:Int)/\(l.length:Int)<=DF nk)&&ug l l.length 0))/\p=w:=by
 have C:=λw=>asT b w;have E:=λw=>asF b w;have c:=λw=>Bb nk w;have a:=yD w lb mb o vn l h g k m;obtain⟨r,u,rfl⟩:=g.form;have B:w.cell? ⟨b,0,X⟩=U (O Q nk):=by rw[am _ _ _ _ _ _ f];rfl
 have t:w.cell? ⟨b,6,X⟩=U (Br r l.length u):=by rw[am _ _ _ _ _ _ f];rfl
 generalize ug l l.length 0=A at a⊢;generalize l.length=n at k a t⊢;generalize DF nk=q at c⊢;clear f g m h;by_cases i:1<=(n:Int)
 .by_cases j:(n:Int)<=q
  .rw[bp ⟨i,j⟩,gB];go_in;go_wp2_with (first|(go_at_call 194;refine ft (c _) ?_)|(go_at_call 195;refine a.mono ?_;rintro e p ⟨rfl,rfl⟩));go_ret;exact⟨rfl,rfl⟩
  .rw[aD (λd=>j d.2),fw];clear a;go_in;go_wp2_with (go_at_call 194;refine ft (c _) ?_);go_ret;exact⟨rfl,rfl⟩
 .rw[aD (λd=>i d.1),fw];clear a;go_in;go_wp2_with (go_at_call 194;refine ft (c _) ?_);go_ret;exact⟨rfl,rfl⟩
def ff1(w:A5)(lb:Nat)(b:Nat)(nk j l k m a:Int)(h:Option Addr)(L ck:Nat)(p:L<=1048576)
  (g:w.heap[b]?=U (B4 #[O Q nk,O Q j,O Q l,O Q k,O Q m,Br h L ck,O Q a] 150 (0,0))):
  A3 T 128 #[Ax (U ⟨lb,0,X⟩),B6 148 (Ax (U ⟨b,0,X⟩))] w λe n=>e= V (B0 (decide (1<=a/\a<(L:Int))))/\A0 w.heap.size w n:=by
 have q:=λw=>asT b w;have s:=λw=>asF b w;have c5:w.cell? ⟨b,5,X⟩=U (Br h L ck):=by rw[am _ _ _ _ _ _ g];rfl
 have o:w.cell? ⟨b,6,X⟩=U (O Q a):=by rw[am _ _ _ _ _ _ g];rfl
 clear g;by_cases d:1<=a
 .by_cases f:a<(L:Int)
  .rw[bp ⟨d,f⟩];go_in;go_wp2_with fail;go_quiet (fail)
   go_wp2_with fail;go_ret;exact⟨rfl,lK (ai _ _) _⟩
  .rw[aD (λc=>f c.2)];have i:=aq f;go_in;go_wp2_with fail;go_quiet (fail)
   go_wp2_with fail;go_ret;exact⟨by show Ending.returned (B0 (decide (a<(L:Int))))=_;rw[aD (by have:=i.out;omega)],lK (ai _ _) _⟩
 .rw[aD (λc=>d c.1)];have r:decide ((1:Int)<=a)=M:=aD d;go_in;go_wp2_with fail;go_quiet (fail)
  go_wp2_with fail;go_ret;exact⟨rfl,lK (ai _ _) _⟩
def ff2(w:A5)(lb:Nat)(b:Nat):
  A3 T 128 #[Ax (U ⟨lb,0,X⟩),B6 151 (Ax (U ⟨b,0,X⟩))] w λe a=>e= V (B0 Y)/\a=w:=by
 have c:=λw=>asT b w;have d:=λw=>asF b w;go_in;go_wp2;go_ret;exact⟨rfl,rfl⟩
def ff6(w:A5)(lb:Nat)(b:Nat):
  A3 T 128 #[Ax (U ⟨lb,0,X⟩),B6 93 (Ax (U ⟨b,0,X⟩))] w λe a=>e= V (B0 Y)/\a=w:=by
 have c:=λw=>asT b w;have d:=λw=>asF b w;go_in;go_wp2;go_ret;exact⟨rfl,rfl⟩
def ff3(w:A5)(lb mb:Nat)(g:A2)(h:Lk w lb mb g)(b:Nat)(nk l n m o:Int)(vk:A2)(x:ByteArray)(k:x.size<=1100000)
  (c:w.heap[b]?=U (B4 #[O Q nk,O Q l,O Q n,O Q m,O Q o,vk,Z x] 156 (0,0))):
  A3 T 128 #[Ax (U ⟨lb,0,X⟩),B6 154 (Ax (U ⟨b,0,X⟩))] w λe a=>e= V (B0 (txB nk x))/\A0 w.heap.size w a:=by
 have q:=λw=>asT b w;have r:=λw=>asF b w;have f:=Ia w.drew lb mb g nk x k (h.below (bH (ai _ w)));have i:w.cell? ⟨b,0,X⟩=U (O Q nk):=by rw[am _ _ _ _ _ _ c];rfl
 have j:w.cell? ⟨b,6,X⟩=U (Z x):=by rw[am _ _ _ _ _ _ c];rfl
 generalize txB nk x=p at f⊢;clear c h;go_in;go_wp2_with fail;go_region_held3 (λa=>a.cell? ⟨b,0,X⟩=U (O Q nk)/\a.cell? ⟨b,6,X⟩=U (Z x)) (first|go_keep|exact⟨ah d i,ah d j⟩) ((go_at_call 196;refine f.mono ?_;rintro e s ⟨rfl,d⟩))
 go_wp2_with fail;go_ret;exact⟨rfl,(bH (ai _ w)).trans d⟩
def ff4(w:A5)(lb:Nat)(b:Nat)(nk g i h j a:Int)(vk:A2)
  (d:w.heap[b]?=U (B4 #[O Q nk,O Q g,O Q i,O Q h,O Q j,vk,O Q a] 159 (0,0))):
  A3 T 128 #[Ax (U ⟨lb,0,X⟩),B6 157 (Ax (U ⟨b,0,X⟩))] w λe k=>e= V (B0 (if nk=30 then(decide ((19:Int)<=a)&&decide (a<=22)) else(decide ((1:Int)<=a)&&decide (a<=18))))/\k=w:=by
 have n:=λw=>asT b w;have o:=λw=>asF b w;have l:w.cell? ⟨b,0,X⟩=U (O Q nk):=by rw[am _ _ _ _ _ _ d];rfl
 have m:w.cell? ⟨b,6,X⟩=U (O Q a):=by rw[am _ _ _ _ _ _ d];rfl
 clear d;by_cases f:nk=30
 .rw[ab f];by_cases c:(19:Int)<=a
  .rw[bp c,gB];go_in;go_wp2;go_ret;exact⟨rfl,rfl⟩
  .rw[aD c,fw];go_in;go_wp2;go_ret;exact⟨rfl,rfl⟩
 .rw[aa f];by_cases c:(1:Int)<=a
  .rw[bp c,gB];go_in;go_wp2;go_ret;exact⟨rfl,rfl⟩
  .rw[aD c,fw];go_in;go_wp2;go_ret;exact⟨rfl,rfl⟩
def ff5(w:A5)(lb mb:Nat)(i:A2)(h:Lk w lb mb i)(b:Nat)(nk p r q t:Int)(vk:A2)(vn:A2)(m:Bool)(l:List ByteArray)(a:dk w vn l)(f:l.length<=1048576)(g:∀s∈l,s.size<=1048576)
  (d:w.heap[b]?=U (B4 #[O Q nk,O Q p,O Q r,O Q q,O Q t,vk,vn,B0 m] 162 (0,0))):
  A3 T 128 #[Ax (U ⟨lb,0,X⟩),B6 160 (Ax (U ⟨b,0,X⟩))] w λe j=>e= V (B0 (ug l l.length 0))/\j=w:=by
 have v:=λw=>asT b w;have x:=λw=>asF b w;have c:=yD w lb mb i vn l h a f g;obtain⟨k,o,rfl⟩:=a.form;have n:w.cell? ⟨b,6,X⟩=U (Br k l.length o):=by rw[am _ _ _ _ _ _ d];rfl
 generalize ug l l.length 0=u at c⊢;generalize l.length=y at f c n⊢;clear d a g h;go_in;go_wp2_with (go_at_call 195;refine c.mono ?_;rintro e j ⟨rfl,rfl⟩);go_ret;exact⟨rfl,rfl⟩
def ang(w:A5):(Instr.typeAssert .nilIface 20 39 Y).run T w= .ok (B3 #[B1 #[O Q 0],B0 M]) w:=by kernel_rfl
