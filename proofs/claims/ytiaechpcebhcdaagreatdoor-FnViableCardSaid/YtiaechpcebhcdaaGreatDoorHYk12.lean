import Derived.Test.YtiaechpcebhcdaaGreatDoorHYk04
import Derived.Test.YtiaechpcebhcdaaGreatDoorHYk07
set_option linter.all false
set_option maxRecDepth 100000
set_option maxHeartbeats 6400000
open Go.Proofs.Tryz
open Go.Value renaming int->M,slice->T,string->V,tuple->Ax,agg->A2,pointer->A3
open Go.IntKind renaming i64->Q
open Option renaming none->X,some->Y
open Go.Obj renaming cells->A0
namespace Go.Proofs.YtiaechpcebhcdaaGreatDoor
open Go.RowKit Go.Maps Go.WideMaps
variable{R:Bool×Nat×List Int}
structure aad (s:Bz) (f p:Nat) (a:List Int) (R:Bool×Nat×List Int):Prop where
 out:bC s f p a=R
def He(p:Nat)(R:Bool×Nat×List Int):Value:=if R.1=true then A2 #[M Q 4,M Q p,M Q (R.2.1:Int),M Q 0,M Q 0,V (gL R.2.2)] else A2 #[M Q 4,M Q p,M Q 0,M Q 0,M Q 0,V ⟨#[]⟩]
def aae(R:Bool×Nat×List Int):Int:=if R.1=true then -1 else(R.2.1:Int)
def Hf{p a:Nat}{c:List Int}(h:(true,a,c)=R):(Ending.returned (Ax #[A2 #[M Q 4,M Q p,M Q (a:Int),M Q 0,M Q 0,V (gL c)],M Q (-1)]))= .returned (Ax #[He p R,M Q (aae R)]):=by
 subst h;rfl
def wg{p a:Nat}{c:List Int}(h:(false,a,c)=R):(Ending.returned (Ax #[A2 #[M Q 4,M Q p,M Q 0,M Q 0,M Q 0,V ⟨#[]⟩],M Q (a:Int)]))= .returned (Ax #[He p R,M Q (aae R)]):=by
 subst h;rfl
def Jk(s:Bz)(cx:s.size<=70000)(p:Nat)(cz:p<s.size)(w:World):Calls Tryz.prog 54 #[V s,A2 #[M Q 0,M Q p,M Q 0,M Q 0,M Q 0,V ⟨#[]⟩]] w λe bv=>
  e= .returned (Ax #[He p (bC s (s.size+1) (p+1) []),M Q (aae (bC s (s.size+1) (p+1) []))])/\Below w.heap.size w bv:=by
 have⟨C,bk⟩:=aw (bC s (s.size+1) (p+1) []);rw[bk];have bA:aad s (s.size+1) (p+1) [] C:=⟨bk⟩;go_in;go_wp2;go_loopw [6,7,8,9] (λbd ce dd df wr=>∃(b j i:Nat) (g:List Int),bd= M Q b/\dL w.heap.size wr 4 p 0 0 0 ⟨#[]⟩/\dL (w.heap.size+1) wr 0 0 0 0 0 ⟨#[]⟩/\wr.ownsRow (w.heap.size+2) 5 1 ce j (B8 g)/\s.size<b+i/\b<=s.size/\j<=b/\aad s i b g C/\Below w.heap.size w wr/\w.heap.size+2<=wr.heap.size) (λbd _ _ _ _=>s.size-(intOf bd).toNat)
 case atStart=>
  generalize b6:(w.alloc _).alloc _=ck;have⟨x,y,b4,cI⟩:=Da b6;exact⟨p+1,0,s.size+1,[],by go_num,x,y,dA _ _ _ _,O,O,O,bA,b4,O⟩
 case round=>
  obtain⟨b,j,i,g,rfl,x,y,z,cw,cB,cy,bD,l,m⟩:=hrel;have⟨cl,cm,cn,cp,cq,cr,cs⟩:=aE x;have⟨z0,ag,ak,al,am,an,dg⟩:=aE y;obtain⟨i,rfl⟩:∃H,i=H+1:=⟨i-1,O⟩;have c:=bD.out;unfold bC at c;by_cases bl:b<s.size
  .have cd:=gI bl;have cb:=λw=>dx bl w;have cA:(b:Int)<(s.size:Int):=O;rw[aa O]at c;have⟨t,b8⟩:=aw (ae s b);rw[b8]at cd cb c;by_cases aL:t=34
   .subst aL;rw[ab rfl]at c;have f:=aj c;rcases z.2 with⟨rfl,b9⟩|⟨H,ao,ct,rfl,c5⟩
    .have b7:g=[]:=by have:=zD z;rw[b9]at this;exact tG this
     have bw:=aj b7;have cc:=zE;go_wp2_with fail;refine aD (v:= Ax #[A2 #[M Q 4,M Q p,M Q ((b:Int)+1),M Q 0,M Q 0,V ByteArray.empty],M Q (-1)]) (by simp[results,results54,go_sem,z0,ag,ak,al,am,an]) rfl ⟨by have h:=f.out;rw[bw.out]at h;exact Hf h,?_⟩
     iterate 8 refine gh ?_ I _
     exact l
    .have cc:=oF (tJ (a:=⟨w.heap.size,2,X⟩) z I (M Q ((b:Int)+1)));go_wp2_with fail;refine aD (v:= Ax #[A2 #[M Q 4,M Q p,M Q ((b:Int)+1),M Q 0,M Q 0,V (gL g)],M Q (-1)]) (by simp[results,results54,go_sem,z0,ag,ak,al,am,an]) rfl ⟨Hf f,?_⟩
     iterate 8 refine gh ?_ I _
     exact l
   rw[aa aL]at c;have c0:(t==34)=false:=by simp[aL]
   by_cases a6:t=10
   .subst a6;rw[ab rfl]at c;have f:=aj c;go_wp2_with fail;refine aD (v:= Ax #[A2 #[M Q 4,M Q p,M Q 0,M Q 0,M Q 0,V ⟨#[]⟩],M Q (b:Int)]) (by simp[results,results54,go_sem,z0,ag,ak,al,am,an]) rfl ⟨wg f,?_⟩
    iterate 6 refine gh ?_ I _
    exact l
   rw[aa a6]at c;have c1:(t==10)=false:=by simp[a6]
   by_cases a7:t=92
   .subst a7;rw[ab rfl]at c;have k:=λw=>iw s O ((b:Int)+1) (b+1) O w;by_cases u:ae s (b+1)=110
    .have q:=aF u;rw[show ej s (b+1)=(10,b+1+1,true) by unfold ej;rw[ab u],ab rfl]at c;rw[ul q,u]at k;have f:aad s i (b+1+1) (g++[10]) C:=⟨c⟩;go_wp2_with (first|(go_at_call 49;refine eE (k _) ?_)|(at_builtin;refine nB rfl (.tmp 51) (.tmp 52) rfl (w.heap.size+2) _ j g rfl z m O [10] 1 rfl Z Z _ rfl rfl ?_;intro H ao w1 o d));go_roundw
     case rel=>exact⟨b+1+1,j+1,i,g++[10],by go_num,x.below d O,y.below d O,o,O,O,O,f,l.trans (d.mono O),aK m d.size⟩
     case measure=>simp[intOf];omega
    by_cases E:ae s (b+1)=116
    .have q:=aF E;rw[show ej s (b+1)=(9,b+1+1,true) by unfold ej;rw[aa u,ab E],ab rfl]at c;rw[ul q,E]at k;have f:aad s i (b+1+1) (g++[9]) C:=⟨c⟩;go_wp2_with (first|(go_at_call 49;refine eE (k _) ?_)|(at_builtin;refine nB rfl (.tmp 56) (.tmp 57) rfl (w.heap.size+2) _ j g rfl z m O [9] 1 rfl Z Z _ rfl rfl ?_;intro H ao w1 o d));go_roundw
     case rel=>exact⟨b+1+1,j+1,i,g++[9],by go_num,x.below d O,y.below d O,o,O,O,O,f,l.trans (d.mono O),aK m d.size⟩
     case measure=>simp[intOf];omega
    by_cases F:ae s (b+1)=34
    .have q:=aF F;rw[show ej s (b+1)=(34,b+1+1,true) by unfold ej;rw[aa u,aa E,ab (Or.inl F),F],ab rfl]at c;rw[ul q,F]at k;have ba:=λw=>zF q w;rw[F]at ba;have f:aad s i (b+1+1) (g++[34]) C:=⟨c⟩;go_wp2_with (first|(go_at_call 49;refine eE (k _) ?_)|(at_builtin;refine nB rfl (.tmp 62) (.tmp 66) rfl (w.heap.size+2) _ j g rfl z m O [34] 1 rfl Z Z _ rfl rfl ?_;intro H ao w1 o d));go_roundw
     case rel=>exact⟨b+1+1,j+1,i,g++[34],by go_num,x.below d O,y.below d O,o,O,O,O,f,l.trans (d.mono O),aK m d.size⟩
     case measure=>simp[intOf];omega
    by_cases G:ae s (b+1)=92
    .have q:=aF G;rw[show ej s (b+1)=(92,b+1+1,true) by unfold ej;rw[aa u,aa E,ab (Or.inr G),G],ab rfl]at c;rw[ul q,G]at k;have ba:=λw=>zF q w;rw[G]at ba;have f:aad s i (b+1+1) (g++[92]) C:=⟨c⟩;go_wp2_with (first|(go_at_call 49;refine eE (k _) ?_)|(at_builtin;refine nB rfl (.tmp 62) (.tmp 66) rfl (w.heap.size+2) _ j g rfl z m O [92] 1 rfl Z Z _ rfl rfl ?_;intro H ao w1 o d));go_roundw
     case rel=>exact⟨b+1+1,j+1,i,g++[92],by go_num,x.below d O,y.below d O,o,O,O,O,f,l.trans (d.mono O),aK m d.size⟩
     case measure=>simp[intOf];omega
    by_cases ar:ae s (b+1)=120
    .have q:=aF ar;rw[ul q,ar]at k;have b5:ej s (b+1)=hexI s (b+1+1):=by unfold ej;rw[aa u,aa E,aa (λh=>h.elim F G),ab ar]
     rw[b5]at c;unfold hexI at c;have ad:=λw=>iw s O ((b:Int)+1+1) (b+1+1) O w;have av:=λw=>iw s O ((b:Int)+1+2) (b+1+1+1) O w;have bg:=adC s (b+1+1);have bh:=adC s (b+1+1+1);have n:=λw=>AG (lk s (b+1+1)) bg.1 bg.2 w;have A:=λw=>AG (lk s (b+1+1+1)) bh.1 bh.2 w;rw[adG]at n A;have cf:=ov (ae s (b+1+1));have cg:=ov (ae s (b+1+1+1));by_cases L:gj (ae s (b+1+1))<0
     .rw[ab L,aa I]at c;have f:=aj c;generalize lk s (b+1+1)=bf at ad n;generalize gj (ae s (b+1+1))=r at n L;go_wp2_with (go_at_call 49;refine eE (k _) ?_);refine rf 3 ?_;rw[jG];go_wp2_with (first|(go_at_call 49;refine eE (ad _) ?_)|(go_at_call 101;refine eE (n _) ?_));refine aD (v:= Ax #[A2 #[M Q 4,M Q p,M Q 0,M Q 0,M Q 0,V ⟨#[]⟩],M Q ((b:Int)+1+1)]) (by simp[results,results54,go_sem,z0,ag,ak,al,am,an]) rfl ⟨wg f,?_⟩
      iterate 6 refine gh ?_ I _
      exact l
     rw[aa L]at c;have bn:0<=gj (ae s (b+1+1)):=O;by_cases ap:gj (ae s (b+1+1+1))<0
     .rw[ab ap,aa I]at c;have f:=aj c;generalize lk s (b+1+1)=bf at ad n;generalize gj (ae s (b+1+1))=r at n L bn;generalize lk s (b+1+1+1)=bE at av A;generalize gj (ae s (b+1+1+1))=K at A ap;go_wp2_with (go_at_call 49;refine eE (k _) ?_);refine rf 3 ?_;rw[jG];go_wp2_with (first|(go_at_call 49;refine eE (ad _) ?_)|(go_at_call 101;refine eE (n _) ?_));rw[jG];go_wp2_with (first|(go_at_call 49;refine eE (av _) ?_)|(go_at_call 101;refine eE (A _) ?_));refine aD (v:= Ax #[A2 #[M Q 4,M Q p,M Q 0,M Q 0,M Q 0,V ⟨#[]⟩],M Q ((b:Int)+1+2)]) (by simp[results,results54,go_sem,z0,ag,ak,al,am,an]) rfl ⟨by have h:=wg (p:=p) f.out;rw[(O:((b+1+1+1:Nat):Int)=(b:Int)+1+2)]at h;exact h,?_⟩
      iterate 6 refine gh ?_ I _
      exact l
     have a8:b+1+1<s.size:=by
      rcases aH (b+1+1) s.size with h|h
      .exact h
      .rw[di]at L;exact absurd Z L
     have a9:b+1+1+1<s.size:=by
      rcases aH (b+1+1+1) s.size with h|h
      .exact h
      .rw[di]at ap;exact absurd Z ap
     have bb:=λw=>dx a8 w;have bc:=λw=>dx a9 w;rw[(O:((b+1+1:Nat):Int)=(b:Int)+1+1)]at bb;rw[(O:((b+1+1+1:Nat):Int)=(b:Int)+1+2)]at bc;rw[aa ap,ab rfl]at c;rw[ul a8]at ad n;rw[ul a9]at av A;have ca:0<=gj (ae s (b+1+1+1)):=O;have f:aad s i (b+1+1+1+1) (g++[gj (ae s (b+1+1))*16+gj (ae s (b+1+1+1))]) C:=⟨c⟩;have b0:=gI a8;have b1:=gI a9;generalize gj (ae s (b+1+1))=r at n L bn cf f;generalize gj (ae s (b+1+1+1))=K at A ap ca cg f;generalize ae s (b+1+1)=bf at ad n bb b0;generalize ae s (b+1+1+1)=bE at av A bc b1;rw[(O:r*16+K=16*r+K)]at f;go_wp2_with (go_at_call 49;refine eE (k _) ?_);refine rf 3 ?_;rw[jG];go_wp2_with (first|(go_at_call 49;refine eE (ad _) ?_)|(go_at_call 101;refine eE (n _) ?_));rw[jG];go_wp2_with (first|(go_at_call 49;refine eE (av _) ?_)|(go_at_call 101;refine eE (A _) ?_));rw[jG];go_wp2_with fail;obtain⟨B,bj⟩:∃B:Int,(b:Int)+1=B:=⟨_,rfl⟩;rw[bj]at bb bc⊢;have bx:=aj bj;have c6:IntKind.i64.wrap (B+1)=B+1:=C7 _ O;have c7:IntKind.i64.wrap (B+2)=B+2:=C7 _ O;have c8:IntKind.i64.wrap (16*r)=16*r:=C7 _ O;have c9:IntKind.i64.wrap (16*r+K)=16*r+K:=C7 _ O;have dc:IntKind.u8.wrap (16*r+K)=16*r+K:=IntWalk.u8_in _ O;have cu:0<=B:=O;have cv:B<=70001:=O;go_region_held3 (λbv=>True) (trivial) ((first|(go_at_call 101;with_reducible refine eE (n _) ?_)|(go_at_call 101;with_reducible refine eE (A _) ?_)|(refine adv byR _ _ byR (w.heap.size+2) _ j g byR z m O [_] 1 byR Z Z _ byR byR ?_;intro H ao w1 o d)))
     all_goals
      go_wp2_with fail;have cF:=bx.out;exact⟨⟨b+1+1+1+1,j+1,i,g++[16*r+K],by congr 1<;>omega,x.below d O,y.below d O,o,O,O,O,f,l.trans (d.mono O),aK m d.size⟩,by simp[intOf];omega⟩
    rw[show ej s (b+1)=(0,b+1,false) by unfold ej;rw[aa u,aa E,aa (λh=>h.elim F G),aa ar],aa I]at c;have f:=aj c;have bo:=vF s (b+1) 110;have bp:=vF s (b+1) 116;have br:=vF s (b+1) 34;have bs:=vF s (b+1) 92;have bt:=vF s (b+1) 120;rw[aG u]at bo;rw[aG E]at bp;rw[aG F]at br;rw[aG G]at bs;rw[aG ar]at bt;generalize lk s (b+1)=ch at k bo bp br bs bt;go_wp2_with (go_at_call 49;refine eE (k _) ?_);refine aD (v:= Ax #[A2 #[M Q 4,M Q p,M Q 0,M Q 0,M Q 0,V ⟨#[]⟩],M Q ((b:Int)+1)]) (by simp[results,results54,go_sem,z0,ag,ak,al,am,an]) rfl ⟨wg f,?_⟩
    iterate 6 refine gh ?_ I _
    exact l
   rw[aa a7]at c;have c4:(t==92)=false:=by simp[a7]
   have f:aad s i (b+1) (g++[t]) C:=⟨c⟩;go_wp2_with (at_builtin;refine nB rfl (.tmp 36) (.tmp 38) rfl (w.heap.size+2) _ j g rfl z m O [t] 1 rfl Z Z _ rfl rfl ?_;intro H ao w1 o d);go_roundw
   case rel=>exact⟨b+1,j+1,i,g++[t],by go_num,x.below d O,y.below d O,o,O,O,O,f,l.trans (d.mono O),aK m d.size⟩
   case measure=>simp[intOf];omega
  .rw[ab O]at c;have f:=aj c;obtain rfl:b=s.size:=O;go_wp2_with fail;refine aD (v:= Ax #[A2 #[M Q 4,M Q p,M Q 0,M Q 0,M Q 0,V ⟨#[]⟩],M Q (s.size:Int)]) (by simp[results,results54,go_sem,z0,ag,ak,al,am,an]) rfl ⟨wg f,?_⟩
   iterate 6 refine gh ?_ I _
   exact l
attribute [local go_sem] mK
theorem Sq.new{W:World}{c cap n:Nat}{tk:Nat->Tk}{d:Array Value}{fr:Nat×Nat}(e:W.heap[c]?=Y (A0 d 48 fr))(k:TkR d tk n)(hn:n<=1048576){o:Obj}{b:World}(j:(W.alloc o).alloc (A0 #[T (Y ⟨c,0,X⟩) n cap,M Q 0,T X 0 0] 117)=b):Hid (Sq ⟨W.heap.size,W.heap.size+1,c,cap,n,tk⟩ b X [] b 0 [] .nil [] [] []):=by
 have⟨m,h,i,p⟩:=Da j;have:=ah e;have l:=(i.block _ this).trans e;have g:b.heap[W.heap.size+1]?=Y (pC ⟨W.heap.size,W.heap.size+1,c,cap,n,tk⟩ ((0:Nat):Int) (T X 0 0)):=h;refine⟨⟨U,U,U,hn⟩,⟨d,fr,l,k⟩,⟨_,g,dA _ _ _ _⟩,⟨λq a=>?_,λf a=>(by cases a)⟩,λr a=>(by cases a),Ac.nil _ _,rfl,ai _ _,λ_ _ _ _=>rfl,λf a=>(by cases a),xi,λf a=>(by cases a),.nil⟩;have:=(nbI g).1 a;simp[Value.ownBlock]at this
theorem alL(s:Bz)(W:World)(w cap n j:Nat)(tk:Nat->Tk)(ba:Array Value)(fr:Nat×Nat)(b0:W.heap[w]?=Y (A0 ba 48 fr))(bx:TkR ba tk n)(hn:n<=1048576)(cy:s.size<=1048576){R:Fo}(hS:CL ⟨W.heap.size,W.heap.size+1,w,cap,n,tk⟩ 44 #[pV ⟨W.heap.size,W.heap.size+1,w,cap,n,tk⟩,M Q 6] 0 R j)(cr:R.sz<=40000000):
  Calls Tryz.prog 19 #[V s,T (Y ⟨w,0,X⟩) n cap] W λe k=>∃v L,e= .returned (A2 #[v])/\Lw k W.heap.size v L/\L.map Mb.N=(one ⟨1,0,(s.size:Nat),1,0,0,⟨#[]⟩,[],[]⟩ R).flat 0/\Below W.heap.size W k:=by
 have⟨cg,bd⟩:=aw ((W.alloc (A0 #[T X 0 0] 26)).alloc (A0 #[T (Y ⟨w,0,X⟩) n cap,M Q 0,T X 0 0] 117));have S:=Sq.new (tk:=tk) b0 bx hn bd;obtain⟨l,bc⟩:∃l:Pe,(⟨W.heap.size,W.heap.size+1,w,cap,n,tk⟩:Pe)=l:=⟨_,rfl⟩;rw[bc]at S hS;have aL:Hid (l.pb=W.heap.size+1):=by rw[<-bc];rfl
 have bf:Hid (l.base=W.heap.size):=U;rw[(U:pV l= A3 (Y ⟨W.heap.size+1,0,X⟩))]at hS;obtain⟨cd, -,bs,b1⟩:=Da bd;have a5:=fD cd bs;have a7:=Sq.box (cs:=#[M Q 1,M Q 0,M Q (s.size:Nat),M Q 1,M Q 0,M Q 0,V ⟨#[]⟩,s0,s0]) (t:=100) S;rw[b1]at a7;go_in;go_wp2_with fail;refine Sq.cq a7 hS U ?_;rintro cA _ a6 K _ ⟨b,c,rfl,rfl⟩ S;have cB:=Sq.rd S;have⟨f,bE⟩:=aw K.length;rw[bE]at S⊢;replace S:=Sq.set (q:=8) (u:= T b f c) S;go_wp2_with fail;generalize World.setCell _ _ _=a at S⊢;have⟨v,E,an⟩:=S.row;obtain⟨x,y,rfl⟩:=cG an;have ap:=E;rw[aL.out]at E;have al:a.cell? ⟨W.heap.size+1,2,X⟩=Y (T x a6.length y):=by rw[au _ _ _ _ _ _ E];rfl
 have⟨h,bh⟩:=aw a6.length;rw[bh]at al E an ap;have a0:a.heap[W.heap.size+1+1]?=Y (A0 #[M Q 1,M Q 0,M Q (s.size:Nat),M Q 1,M Q 0,M Q 0,V ⟨#[]⟩,T X 0 0,T b f c] 100 (0,0)):=Sq.hd S;refine wp_region_held_drew (S:=λaf=>af.heap[W.heap.size+1+1]?=Y (A0 #[M Q 1,M Q 0,M Q (s.size:Nat),M Q 1,M Q 0,M Q 0,V ⟨#[]⟩,T X 0 0,T b f c] 100 (0,0))) byR a0 (λo=>?_);simp only[iB,db,fx,Nat.reduceAdd,iA,jb,jc,dI,dt];refine bB 0 (A3 (Y ⟨W.heap.size+1,0,X⟩)) rfl rfl o (λk p=>by go_simp) ?_;simp only[List.set];refine bB 1 (A3 (Y ⟨W.heap.size+1,0,X⟩)) rfl rfl o (λk p=>by go_simp) ?_;simp only[List.set];refine bB 2 (A3 (Y ⟨W.heap.size+1,0,X⟩)) rfl rfl o (λk p=>by go_simp) ?_;simp only[List.set];refine bB 3 (A3 (Y ⟨W.heap.size+1,2,X⟩)) rfl rfl o (λk p=>by go_simp) ?_;simp only[List.set];refine I3 5 21 (A2 #[M Q 1,M Q 0,M Q (s.size:Nat),M Q 1,M Q 0,M Q 0,V ⟨#[]⟩,T X 0 0,T b f c]) rfl rfl J J J (λ_ _ _ ar=>ar) byR o (λk p=>by have cF:=co (N:=⟨1,0,(s.size:Nat),1,0,0,⟨#[]⟩,[],K⟩) (vn:= T X 0 0) (vk:= T b f c) p;go_simp) ?_;simp only[Act.put,bF,bG,bI];have bw:=al;refine tg (S:=λaf=>af.cell? ⟨W.heap.size+1,2,X⟩=Y (T x h y)) (C:=λj=>!(j==7||j==8||j==9||j==10)) (i:=4) (v:= T x h y) rfl (zn J) (λ_ _ _ ar=>ar) ?hC _ _ _ _ (zo rfl J) (List.contains_iff_mem.1 J) (Or.inl ⟨byR,λk p=>by go_simp⟩) o bw ?_
 case hC=>
  intro j cz bg d;simp only[Bool.not_eq_false',xc,mL]at d;rcases d with((rfl|rfl)|rfl)|rfl
  .obtain rfl:=cC bg;exact⟨{on:=4,ground:=Ground.data},I,rfl,rfl⟩
  all_goals
   obtain rfl:=cC bg;exact⟨{on:=4,ground:=Ground.phase},I,rfl,rfl⟩
 simp only[Act.put,bF,bG,bI];refine eK (i:=6) J rfl (λA g=>?_);go_simp;have a8:∀bk,Below a.heap.size a (a.drew.alloc bk):=λbk=>(bu (ai _ _)).alloc I _;refine g _ _ (((a8 _).block _ (ah a0)).trans a0) (λ_=>aq (a8 _) al) ?_;try simp only[bF,bG,bI]
 have B:=bu (de a (A0 #[M Q 1,M Q 0,M Q (s.size:Nat),M Q 1,M Q 0,M Q 0,V ⟨#[]⟩,T X 0 0,T b f c] 100));have bo:(a.alloc (A0 #[M Q 1,M Q 0,M Q (s.size:Nat),M Q 1,M Q 0,M Q 0,V ⟨#[]⟩,T X 0 0,T b f c] 100)).drew.heap[a.heap.size]?=_:=ay a _;generalize World.drew (World.alloc _ _)=br at B bo⊢;have bn:=Sq.below S B;have ca:=(B.block _ (ah ap)).trans ap;have cw:=bn.low;have cu:h<=40000000:=by have q:=Sq.ln S;simp only[fx,Fo.sz_app,Fo.sz]at q;omega
 have⟨b2,b4,b5,b7,b8⟩:=eC Aa;refine eK (i:=7) J rfl (λA g=>?_);refine step_append_lies _ byR _ _ 24 byR l.base 100 b2 _ 9 112 underlying24 b4 b5 b7 b8 rfl Z (T x h y) h _ byR (bz an B) ⟨a.heap.size,0,X⟩ 1 1 (xF ⟨1,0,(s.size:Nat),1,0,0,⟨#[]⟩,[],K⟩ s0 (T b f c)).toList byR rfl (World.news_of_block bo) (by intro u bj;simp at bj;rcases bj with rfl|rfl|rfl|rfl|rfl|rfl|rfl|rfl|rfl<;>rfl) Z py O O br.heap.size rfl ?_;intro ao am a4 b9 bD bA cx;obtain⟨a3,G⟩:=bn.push ca (by rw[bh]) ⟨⟨1,0,(s.size:Nat),1,0,0,⟨#[]⟩,[],K⟩,s0,T b f c⟩ (by rw[vG];exact b9) bD bA (.inl ⟨rfl,rfl⟩) (.inr (.head _)) rfl;rw[aL.out]at a3 G;have bp:_=Y (Obj.cells #[M Q 1,M Q 0,M Q (s.size:Nat),M Q 1,M Q 0,M Q 0,V ⟨#[]⟩,T X 0 0,T b f c] 100 (0,0)):=Sq.hd a3;have ad:=bp;rw[az _ _ _ _ U]at ad;have ch:a4.cell? ⟨W.heap.size+1,2,X⟩=Y (T x h y):=by rw[au _ _ _ _ _ _ G];rfl
 have cp:a4.frozen? ⟨W.heap.size+1,2,X⟩=false:=cD _ _ _ _ _ G;have a2:=aI a4 (W.heap.size+1) 2 _ _ (T (Y ⟨ao,0,X⟩) (h+1) am) G;have m:=aj a3;refine g _ _ ad (λd=>by cases d) ?_;simp only[Act.put,bF,bG,bI];refine eK (i:=8) J rfl (λA g=>?_);go_simp;refine g _ _ ad (λd=>by cases d) ?_;try simp only[bF,bG,bI]
 refine eK (i:=9) J rfl (λA g=>?_);go_simp;refine g _ _ ad (λd=>by cases d) ?_;try simp only[bF,bG,bI]
 refine eK (i:=10) J rfl (λA g=>?_);go_simp;refine g _ _ bp (λd=>by cases d) ?_;refine vI byR ?_ _;generalize World.setCell _ _ _=ag at m a2⊢;have cl:ag.cell? ⟨W.heap.size+1,2,X⟩=Y (T (Y ⟨ao,0,X⟩) (h+1) am):=by rw[au _ _ _ _ _ _ a2];rfl
 have r:=(m.fz W.heap.size O U I).trans a5.out.1;have cm:ag.cell? ⟨W.heap.size,0,X⟩=Y (T X 0 0):=by rw[au _ _ _ _ _ _ r];rfl
 have cn:ag.frozen? ⟨W.heap.size,0,X⟩=false:=cD _ _ _ _ _ r;have ce:=aj a2;go_wp2_with fail;have⟨cc,cb,a1⟩:=m.row;rw[aL.out]at cb;obtain rfl:cc= T (Y ⟨ao,0,X⟩) (h+1) am:=U;have⟨cf,bt,bv,_⟩:=m.ac;rw[bf.out]at a1;have z:=m.each;have a9:=m.bl;rw[bf.out]at a9 z;exact aD (fE rfl _ _ W.heap.size _ _ _ _ rfl (aI _ _ 0 _ _ _ r) underlying26 rfl byR) rfl ⟨_,rfl,_,⟨uq a1 (gy a1 r Z) 0 _,λH F=>⟨uq (z H F).1 (gy (z H F).1 r Z) 0 _,uq (z H F).2 (gy (z H F).2 r Z) 0 _⟩⟩,by rw[bt,dI,bv];rfl,a5.out.2.trans (a9.setCell cJ _)⟩
