import Derived.Test.YtbkolnpplhbdmaaGreatDoorHPl18
import Derived.Test.YtbkolnpplhbdmaaGreatDoorHPl27
import Derived.Test.YtbkolnpplhbdmaaGreatDoorHPl22
set_option linter.all false
set_option maxRecDepth 100000
set_option maxHeartbeats 12800000
open Go.Proofs.Tryz
open Option renaming some->O,none->Y
open Go.Value renaming slice->U,int->Z,string->A0,ownBlock->A1,pointer->A3,slice->Bk,string->Bn,agg->Ck,bool->Fs,iface->G2,tuple->H2,int->H4
open Go.IntKind renaming i64->V
open Go.Obj renaming cells->Ad
open Go renaming Value->Ak,World->A2,undef->A5,TypeId->B3,wpAnyH_ready->E2,Calls->E3,wpList_append_own_at->F1,wp_region_held_drew->G0,ownsRow_succ->G3,maxLen->H0,grownBy_putObj'->H1,KeepsFrom->H3
open Go.Proofs.Tryz renaming prog->Ax
open Bool renaming false->A9,true->B6
open Go.World renaming putObj_heap_other->Bc,news_of_block->Br,setCell->B2
open Go.Lib renaming asciiSpaceTab->B0,TabIs->F0
open Go.AllReadyH renaming cons->B1,nil->C2
open List renaming set->B4
open Go.RowKit renaming Hid->B7,Below->Ce,intOf->F2
open Go.Ending renaming returned->E1
namespace Go.Proofs.YtbkolnpplhbdmaaGreatDoor
open Go.Lib (strCells strCells_length wpList_append_own_string)
open Go.RowKit Go.Maps Go.WideMaps
variable{B b base g gb i j mb mg n p tv:Nat}{E:Pe}{I:Nat->Int->World->Prop}{N:Nd}{T s:ByteArray}{W W' w:World}{c k:Int}{fr:Nat×Nat}{l:List Wt}{ns:List Nd}{o:Obj}{out:List Tk}{v vn:Value}{xs:List Value}
def Rcw(C:Cd)(f:FuncId)(a:List Ak)(c:Cr)(v:Ak)(b:Cr):Prop:=
 ∀ ⦃E:Bs⦄ ⦃w:A2⦄,Cu C E w c->E3 Ax f (cV E::a).toArray w λd w'=>d= E1 v/\Cu C E w' b/\Ce E.base w w'
def Gh(a b:ByteArray):strCells (a++b)=strCells a++strCells b:=by
 unfold strCells;rw[lg,Hk,eJ]
def afx{a:Nat}(b:w.ownsRow base 5 1 (U (O ⟨g,0,Y⟩) n a) n (strCells T)):
  (convert 22 9 (U (O ⟨g,0,Y⟩) n a)).run Ax w= .ok (A0 T) w:=by
 have c:strCells T=B8 (xz T.data.toList):=by
  unfold strCells B8 xz;rw[List.map_map];rfl
 rw[c]at b;rw[oD b,Av]
def rv(k:Int)(w:A2):E3 Ax 43 #[Z V k] w (jt w (Fs (opn k))):=by
 by_cases a:k=46\/k=47\/k=40\/k=44\/k=10\/k=25
 .rcases a with rfl|rfl|rfl|rfl|rfl|rfl;all_goals
   go_in;go_wp2;go_ret;exact⟨rfl,rfl⟩
 .have d:((k==46)=A9/\(k==47)=A9/\(k==40)=A9)/\(k==44)=A9/\(k==10)=A9/\(k==25)=A9:=by simp only[du];omega
  have c:opn k=decide (60<k):=by unfold opn;exact decide_eq_decide.2 (by omega)
  rw[c];clear a c;by_cases b:60<k
  .rw[be b];go_in;go_wp2;go_ret;exact⟨rfl,rfl⟩
  .rw[az b];go_in;go_wp2;go_ret;exact⟨rfl,rfl⟩
def blV:List ByteArray:=[⟨#[32]⟩,⟨#[32]⟩,⟨#[32]⟩,⟨#[32,32]⟩,⟨#[9]⟩,⟨#[13]⟩,⟨#[32,9,32]⟩]
def arH:∀t∈blV,t.size<=5/\t∈Ej:=λt a=>by
 simp only[blV,gK,mC,mE]at a;rcases a with rfl|rfl|rfl|rfl|rfl|rfl|rfl<;>exact⟨by decide,by simp[Ej]⟩
def Fh{l:List ByteArray}{t:ByteArray}(h:w.cell? ⟨b,j,Y⟩=(l.map Bn).toArray[j]?)(ht:l[j]?=O t):w.cell? ⟨b,j,Y⟩=O (A0 t):=by
 rw[h];simp[ht]
def ad4(C:Cd)(c:Cr)(s:0<=c.p)(u:c.p<=800000000):∃(t:ByteArray) (c':Cr),(t.size<=5/\t∈Ej)/\(c'.p=c.p+1/\c'.r=c.r)/\Rc C 44 [] c (A0 t) c':=by
 have⟨a,k,d,m,j⟩:=lm C c 7;obtain⟨a,rfl⟩:=iE d.1;obtain⟨t,e⟩:∃t,blV[a]?=O t:=⟨_,aw (show a<7 by omega)⟩;refine⟨t,k,(arH t (dj e)),m,λn v b=>?_⟩;have g:=b.cw;have q:=d.2;have o:=d.1;go_in;go_wp2_with fail;refine g.al.run j λw1 h i=>?_;have r:=Fh (l:=blV) (Dg b i a) e;have f:=am h;clear g h i b e;go_wp2;go_ret;exact⟨rfl,f.out.cu,f.out.gr⟩
inductive Loc (C:Cd) (s:ByteArray):List Tk->Cr->ByteArray->Cr->Prop
 |nil (c:Cr):Loc C s [] c ⟨#[]⟩ c
 |stop {T:Tk}{ts:List Tk}{c:Cr}:T.k=6->Loc C s (T::ts) c ⟨#[]⟩ c
 |sep {T:Tk}{ts:List Tk}{c c1 c2:Cr}{j:Nat}{b y:ByteArray}:T.k=5->j<6->II[j]?=some b->Rc C 41 [.int .i64 6] c (.int .i64 j) c1->Loc C s ts c1 y c2->Loc C s (T::ts) c (b++y) c2
 |blank {T:Tk}{ts:List Tk}{c c1 c2:Cr}{b y:ByteArray}:T.k≠6->T.k≠5->opn T.k=false->b∈Ej->Rc C 44 [] c (.string b) c1->Loc C s ts c1 y c2->Loc C s (T::ts) c (s.extract T.f.toNat T.t.toNat++b++y) c2
 |opn0 {T:Tk}{ts:List Tk}{c c1 c2 c3:Cr}{j:Nat}{b y:ByteArray}:T.k≠6->T.k≠5->opn T.k=true->Rc C 41 [.int .i64 4] c (.int .i64 0) c1->j<3->F5[j]?=some b->Rc C 41 [.int .i64 3] c1 (.int .i64 j) c2->Loc C s ts c2 y c3->Loc C s (T::ts) c (s.extract T.f.toNat T.t.toNat++b++y) c3
 |opn1 {T:Tk}{ts:List Tk}{c c1 c2 c3:Cr}{u:Int}{b y:ByteArray}:T.k≠6->T.k≠5->opn T.k=true->Rc C 41 [.int .i64 4] c (.int .i64 u) c1->(u==0)=false->b∈Ej->Rc C 44 [] c1 (.string b) c2->Loc C s ts c2 y c3->Loc C s (T::ts) c (s.extract T.f.toNat T.t.toNat++b++y) c3
def LoR(s:ByteArray)(ts:List Tk)(t:ByteArray):Prop:=∃i,LoC s (ts.take i) t/\(ts.length<=i\/∃T,ts[i]?=O T/\T.k=6)
def LoR.cons{s b a:ByteArray}{T:Tk}{ts:List Tk}(h:LoR s ts a)(d:PcT s T b):LoR s (T::ts) (b++a):=by
 obtain⟨e,c,h2⟩:=h;refine⟨e+1,.cons d c,?_⟩;rcases h2 with h2|h2
 .exact .inl (by simpa using h2)
 .exact .inr (by simpa using h2)
def apv(C:Cd)(s:ByteArray):∀(ts:List Tk)(c:Cr)(lo:Int),0<=c.p->c.p<=700000000-3*ts.length->(∀T∈ts,lo<=T.f/\T.f<=T.t/\T.t<=s.size)->ts.Pairwise (λa b=>a.t<=b.f)->0<=lo->lo<=s.size->∃(y:ByteArray) (c':Cr),(c.p<=c'.p/\c'.p<=c.p+3*ts.length/\c'.r=c.r)/\(y.size:Int)<=s.size-lo+10*ts.length/\LoR s ts y/\Loc C s ts c y c':=by
 intro ts
 induction ts with
 |nil=>
  intro c lo F z _ _ L A;simp only[dE]at z⊢;exact⟨⟨#[]⟩,c,by omega,by show(0:Int)<=_;omega,⟨0,.nil,.inl (ag _)⟩,.nil c⟩
 |cons T ts an=>
  intro c lo F z A ad L av;simp only[bc]at z⊢;by_cases j:T.k=6
  .exact⟨⟨#[]⟩,c,by omega,by show(0:Int)<=_;omega,⟨0,.nil,.inr ⟨T,rfl,j⟩⟩,.stop j⟩
  have aK:=A T aI;have⟨J,K⟩:=List.pairwise_cons.1 ad;have rc:∀g:Cr,0<=g.p->g.p<=700000000-3*ts.length->_:=λg ao ap=>an g T.t ao ap (λE G=>⟨J E G,(A E (cG _ G)).2⟩) K (by omega) (by omega);have a1:((s.extract T.f.toNat T.t.toNat).size:Int)<=T.t-T.f:=by rw[qE];omega
  by_cases o:T.k=5
  .obtain⟨l,g,B,u,m⟩:=lm C c 6;obtain⟨l,rfl⟩:=iE B.1;obtain⟨b,d⟩:∃b,II[l]?=O b:=⟨_,aw (show l<6 by omega)⟩;have q:=dj d;have al:b.size<=5:=(show ∀t∈II,t.size<=5 by decide) b q;have⟨y,e,w,n,i,h⟩:=rc g (by omega) (by omega);exact⟨b++y,e,by omega,by rw[au];omega,i.cons ⟨j,.inl ⟨o,q⟩⟩,.sep o (by omega) d m h⟩
  have x:∀{b y:ByteArray}{e:Cr},(b∈Ej\/(opn T.k=B6/\b∈F5))->b.size<=5->(c.p<=e.p/\e.p<=c.p+3*((ts.length+1:Nat):Int)/\e.r=c.r)->(y.size:Int)<=s.size-T.t+10*ts.length->LoR s ts y->Loc C s (T::ts) c (s.extract T.f.toNat T.t.toNat++b++y) e->_:=λ{b y e} d al u a2 ak h=>(⟨_,e,u,by rw[au,au];omega,ak.cons ⟨j,.inr ⟨o,b,d,rfl⟩⟩,h⟩:∃(y:ByteArray) (c':Cr),(c.p<=c'.p/\c'.p<=c.p+3*((ts.length+1:Nat):Int)/\c'.r=c.r)/\(y.size:Int)<=s.size-lo+10*((ts.length+1:Nat):Int)/\LoR s (T::ts) y/\Loc C s (T::ts) c y c');cases ho:opn T.k with
  |false=>
   have⟨b,g,d,u,m⟩:=ad4 C c F (by omega);have⟨y,e,w,n,i,h⟩:=rc g (by omega) (by omega);exact x (.inl d.2) d.1 (by omega) n i (.blank j o ho d.2 m h)
  |true=>
   have⟨ar,g,a0,u,m⟩:=lm C c 4;by_cases H:ar=0
   .subst H;have⟨l,e,B,af,v⟩:=lm C g 3;obtain⟨l,rfl⟩:=iE B.1;obtain⟨b,d⟩:∃b,F5[l]?=O b:=⟨_,aw (show l<3 by omega)⟩;have q:=dj d;have⟨y,I,w,n,i,h⟩:=rc e (by omega) (by omega);exact x (.inr ⟨ho,q⟩) ((show ∀t∈F5,t.size<=5 by decide) b q) (by omega) n i (.opn0 j o ho m (by omega) d v h)
   .obtain⟨b,e,d,af,v⟩:=ad4 C g (by omega) (by omega);have⟨y,I,w,n,i,h⟩:=rc e (by omega) (by omega);exact x (.inl d.2) d.1 (by omega) n i (.opn1 j o ho m (by simpa using H) d.2 v h)
def alK{f c n k g d o n2:Nat}{a e:Ak}{p q:List Ak}(l:w.ownsRow f c n a k p)(m:w.ownsRow g d o e n2 q)(j:c≠d):a.ownBlock=Y\/a.ownBlock≠e.ownBlock:=by
 rcases m.2 with⟨b,_⟩|⟨u,s,t,b,_,i,_⟩
 .rw[b];cases h:a.ownBlock with
  |none=>exact .inl rfl
  |some r=>exact .inr (by simp[A1])
 .right;rw[b];exact gC l i (dB j)
structure Lo (C:Cd) (E:Bs) (W w:A2) (c:Cr) (v:Ak) (t:ByteArray) (tv:Ak) (ts:List Tk):Prop where
 cu:Cu C E w c
 out:w.ownsRow E.base 5 1 v t.size (strCells t)
 tok:w.ownsRow E.base 49 6 tv ts.length (Am ts)
 bel:Ce E.base W w
section
variable {C : Cd} {E : Bs} {W w w' : World} {c c' : Cr} {v tv u : Value} {t : ByteArray} {ts : List Tk} {f : FuncId} {ar : List Value} {Q : Ending → World → Prop}
def Lo.below(h:Lo C E W w c v t tv ts)(a:cg w w'):Lo C E W w' c v t tv ts:=
 ⟨h.cu.below a,dA h.out a,dA h.tok a,h.bel.trans (a.mono h.cu.lo.2)⟩
def Lo.al(h:Lo C E W w c v t tv ts):Lo C E W (w.alloc o) c v t tv ts:=h.below (dC w o)
def Lo.run(a:Lo C E W w c v t tv ts)(k:Rc C f ar c u c')(h:∀w',Lo C E W w' c' v t tv ts->w.grownBy w' (O E.cb)->Q (E1 u) w'):E3 Ax f (cV E::ar).toArray w Q:=by
 refine(k a.cu).mono ?_;rintro e w' ⟨rfl,d,b⟩;exact h w' ⟨d,a.out.kept b (.inr (gC a.out a.cu.cur (by decide))),a.tok.kept b (.inr (gC a.tok a.cu.cur (by decide))),a.bel.trans (yp b a.cu.lo.1 a.cu.lo.2)⟩ b
def Lo.app{j:Array Oper}{l:List Oper}{o:Oper}{a:Act}{Q:Exit->Act->A2->Prop}(h:Lo C E W w c v t tv ts)(s:ByteArray)(q:(t++s).size<=4000000)(m:o.guard=Y)(sl x:Operand)
  (n:o.op= .call {callee:= .builtin .append,args:=#[sl,x],argTypes:=#[22,9]}) (u:a.eval sl=v) (y:a.eval x= A0 s)
  (k:∀f w1,Lo C E W w1 c f (t++s) tv ts->(∀(b:Nat)(cs:Array Ak)(tt:B3)(fr:Nat×Nat),w.heap[b]?=O (Ad cs tt fr)->tt≠5->w1.heap[b]?=O (Ad cs tt fr))->wpList Ax j Q l (a.put o.dst f) w1):wpList Ax j Q (o::l) a w:=by
 have⟨z,A,B,F,G⟩:=fh Tryz.info5;rw[au]at q;refine wpList_append_own_string _ m sl x 22 9 n E.base 5 z underlying22 underlying9 A B F G _ _ _ u h.out s y (by unfold H0;omega) (by omega) h.cu.lo.2 ?_;intro f w5 p e _;have i:Ce E.base w w5:=(ah _ w).grown e h.cu.lo.2 (λk d=>(h.out.lt k d).1);exact k f w5 ⟨⟨⟨h.cu.lo.1,bG h.cu.lo.2 i.size⟩,h.cu.code.below i,(e.block _ h.cu.lt (λg=>gC h.out h.cu.cur (by decide) g.symm)).trans h.cu.cur⟩,by rw[au,Gh];exact p,h.tok.kept e (alK h.tok h.out (by decide)),h.bel.trans i⟩ (λb cs tt fr d r=>(e.block _ (ai d) (λg=>gC h.out d r g.symm)).trans d)
def Lo.conv(h:Lo C E W w c v t tv ts):(convert 22 9 v).run Ax w= .ok (A0 t) w:=by
 rcases bJ h.out with⟨b,rfl⟩|⟨e,d,rfl⟩
 .have a:t=ByteArray.empty:=by
   have:t.data=#[]:=Array.eq_empty_of_size_eq_zero b;cases t;simp_all;first|rfl|done
  rw[a];exact yq w
 .exact afx h.out
def Lo.cells{a:Option Addr}{j:Nat}(h:Lo C E W w c v t (U a n j) ts)(m:ts.length=n){T:Tk}(e:ts[i]?=O T):∃g,a=O ⟨g,0,Y⟩/\w.cell? ⟨g,i*6,Y⟩=O (Z V T.k)/\w.cell? ⟨g,i*6+1,Y⟩=O (Z V T.f)/\w.cell? ⟨g,i*6+2,Y⟩=O (Z V T.t)/\w.cell? ⟨g,i*6+3,Y⟩=O (Z V T.l)/\w.cell? ⟨g,i*6+4,Y⟩=O (Z V T.n)/\w.cell? ⟨g,i*6+5,Y⟩=O (A0 T.x):=by
 subst m;have s:i<ts.length:=(List.getElem?_eq_some_iff.1 e).1;rcases bJ h.tok with⟨r,_⟩|⟨g,p,d⟩
 .omega
 .have q:=d;cases d;have k:=h.tok;refine⟨g,rfl,?_⟩;have c:∀b,b<6->w.cell? ⟨g,i*6+b,Y⟩=(cTk T)[b]?:=λb o=>by rw[k.cellAt (i*6+b) (by omega),Jm ts i b T e o]
  exact⟨c 0 (by omega),c 1 (by omega),c 2 (by omega),c 3 (by omega),c 4 (by omega),c 5 (by omega)⟩
end
def alL{C:Cd}{t:ByteArray}{c a9:Cr}(z:aiK s)(dg:s.size<=65536)(a3:Loc C s (nI s).1 c t a9)(ht:t.size<=1048576):Rcw C 21 [A0 s] c (A0 t) a9:=by
 intro bo a6 bb;replace z:=z a6;have bd:=adK s;have b2:(nI s).1.length<=65537:=by have:=aad s;omega
 unfold TkP at z;generalize (nI s).1=A at z bd b2 a3;generalize (nI s).2=d2 at z;have⟨I,a2⟩:=aC A.length;rw[a2]at z b2;go_in;go_wp2_with fail;refine z.mono ?_;rintro w w1 ⟨bt,bA,rfl,b3,n⟩;have cq:=bb.lo;have br:Lo C bo a6 w1 c (U Y 0 0) ⟨#[]⟩ (U bt I bA) A:=⟨bb.below n,fs _ _ _ _,by rw[a2];exact kH b3 (λcc _ cB cF=>⟨rfl,by omega⟩),n.mono cq.2⟩;have aK:=gF a2 bd;clear z b3 n a2 bd bb;go_wp2;go_loopw [7,20] (λcv iv wr=>∃(a:Nat) (u bn:ByteArray) (a7:Cr),iv= Z V a/\a<=I/\Lo C bo a6 wr a7 cv u (U bt I bA) A/\Loc C s (A.drop a) a7 bn a9/\u++bn=t) (λ_ iv _=>I-(F2 iv).toNat)
 case atStart=>exact⟨0,⟨#[]⟩,t,c,rfl,aD _,br,a3,akp t⟩
 case round=>
  clear br a3;obtain⟨a,u,bn,a7,rfl,df,d,ar,w⟩:=hrel;by_cases dc:a<I
  .have a1:a<A.length:=by have:=aK.1;omega
   obtain⟨b,ak⟩:∃b,A[a]?=O b:=⟨_,aw a1⟩;have b0:A.drop a=b::A.drop (a+1):=by rw[kL a1];rw[aw a1]at ak;rw[aJ ak]
   rw[b0]at ar;have cd:=aK.2.each b (dj ak);obtain⟨cc,rfl,bw,ca,cb,cy,cz,c5⟩:=d.cells aK.1 ak;have dd:(0:Int)<=(a:Int):=by omega
   have ce:(a:Int)<(I:Int):=by omega
   have g:=am w;have⟨f,bf⟩:=iE (show 0<=b.f by omega);have⟨e,bh⟩:=iE (show 0<=b.t by omega);rw[bf]at ca;rw[bh]at cb;have c8:f<=e/\e<=s.size:=by omega
   have cI:(0:Int)<=(f:Int):=by omega
   have c9:(f:Int)<=(e:Int):=by omega
   have da:(e:Int)<=(s.size:Int):=by omega
   have L:=gF bf bh;clear b0 ak w bf bh cd a1;cases ar with
   |stop G=>
    rw[G]at bw;have cr:=λo=>(d.al (o:=o)).conv;have p:=am λo=>d.al (o:=o);have bD:=g.out;rw[ac2]at bD;subst bD;clear d;go_wp2;go_ret;exact⟨rfl,(p _).cu,(p _).bel⟩
   |@sep _ _ _ ad _ H m K F ck n x B=>
    rw[F]at bw;have cl:(0:Int)<=(H:Int):=by omega
    have cn:(H:Int)<6:=by omega
    have r:(u++m).size<=4000000:=by have:=congrArg ByteArray.size g.out;simp only[au]at this⊢;omega
    have p:=kK d x (λct ds:Obj=>(d.al (o:=ct)).cu);clear d x;go_wp2_with fail;refine p.1.al.al.run p.2.1 λd1 bs ba=>?_;have bj:=Dg (p.1.al).cu ba H;rw[fe]at bj;have b5:=Fh (l:=II) bj n;clear bj;have bv:=(ba.block wr.heap.size (by simp;omega) (λw=>by have:=p.1.cu.lt;have:=aJ w;omega)).trans (((dC (wr.alloc _) _).block wr.heap.size (by simp)).trans (aA wr _));have b6:=am bs;clear bs ba n;go_wp2_with (at_builtin;refine b6.out.app m r rfl _ _ rfl rfl rfl ?_;intro bk J j h;have q:=h _ _ _ _ bv (by decide);have ap:=λa=>aj J wr.heap.size a _ _ _ q);clear b5 bv h;refine fC (rv _ _) ?_;go_wp2;go_roundw
    case rel=>exact⟨a+1,_,K,ad,by go_num,by omega,j,B,by rw[de];exact g.out⟩
    case measure=>simp[F2];omega
   |@blank _ _ _ ad _ m K G F an n x B=>
    have bE:(b.k==6)=A9/\(b.k==5)=A9:=by simp[G,F]
    have y:s.extract b.f.toNat b.t.toNat=s.extract f e:=by rw[L.out.1,L.out.2];rfl
    rw[y]at g;have r:(u++s.extract f e++m).size<=4000000:=by have:=congrArg ByteArray.size g.out;simp only[au]at this⊢;omega
    have ao:(u++s.extract f e).size<=4000000:=by simp only[au]at r⊢;omega
    have i:=gF (λo=>d.al (o:=o)) (λaf=>aA wr (Ad af 49));clear d y;go_wp2_with (at_builtin;refine(i.1 _).app (s.extract f e) ao rfl _ _ rfl rfl rfl ?_;intro bk J j h;have q:=h _ _ _ _ (i.2 _) (by decide);have ap:=λa=>aj J wr.heap.size a _ _ _ q);clear h i;refine fC (rv _ _) ?_;rw[an];go_wp2_with fail;refine j.run x λbl v _=>?_;have b7:=am v;clear j v;go_wp2_with (at_builtin;refine b7.out.app m r rfl _ _ rfl rfl rfl ?_;intro d0 w5 E av);go_roundw
    case rel=>exact⟨a+1,_,K,ad,by go_num,by omega,E,B,by rw[<-g.out];simp only[de]⟩
    case measure=>simp[F2];omega
   |@opn0 _ _ _ ad a8 _ H m K G F an x ck n a4 B=>
    have bE:(b.k==6)=A9/\(b.k==5)=A9:=by simp[G,F]
    have cl:(0:Int)<=(H:Int):=by omega
    have cn:(H:Int)<3:=by omega
    have y:s.extract b.f.toNat b.t.toNat=s.extract f e:=by rw[L.out.1,L.out.2];rfl
    rw[y]at g;have r:(u++s.extract f e++m).size<=4000000:=by have:=congrArg ByteArray.size g.out;simp only[au]at this⊢;omega
    have ao:(u++s.extract f e).size<=4000000:=by simp only[au]at r⊢;omega
    have i:=gF (λo=>d.al (o:=o)) (λaf=>aA wr (Ad af 49));clear d y;go_wp2_with (at_builtin;refine(i.1 _).app (s.extract f e) ao rfl _ _ rfl rfl rfl ?_;intro bk J j h;have q:=h _ _ _ _ (i.2 _) (by decide);have ap:=λa=>aj J wr.heap.size a _ _ _ q);clear h i;refine fC (rv _ _) ?_;rw[an];go_wp2_with fail;refine j.run x λbl v a0=>?_;clear a0 ap j;have b4:=v.cu;go_wp2_with fail;refine v.al.run a4 λw5 E b1=>?_;have b5:=Fh (l:=F5) (Dg b4 b1 H) n;have av:=am E;clear v E b1 b4 n;go_wp2_with (at_builtin;refine av.out.app m r rfl _ _ rfl rfl rfl ?_;intro cw cx a5 b8);go_roundw
    case rel=>exact⟨a+1,_,K,a8,by go_num,by omega,a5,B,by rw[<-g.out];simp only[de]⟩
    case measure=>simp[F2];omega
   |@opn1 _ _ _ ad a8 _ dx m K G F an x dn n a4 B=>
    have bE:(b.k==6)=A9/\(b.k==5)=A9:=by simp[G,F]
    have y:s.extract b.f.toNat b.t.toNat=s.extract f e:=by rw[L.out.1,L.out.2];rfl
    rw[y]at g;have r:(u++s.extract f e++m).size<=4000000:=by have:=congrArg ByteArray.size g.out;simp only[au]at this⊢;omega
    have ao:(u++s.extract f e).size<=4000000:=by simp only[au]at r⊢;omega
    have i:=gF (λo=>d.al (o:=o)) (λaf=>aA wr (Ad af 49));clear d y;go_wp2_with (at_builtin;refine(i.1 _).app (s.extract f e) ao rfl _ _ rfl rfl rfl ?_;intro bk J j h;have q:=h _ _ _ _ (i.2 _) (by decide);have ap:=λa=>aj J wr.heap.size a _ _ _ q);clear h i;refine fC (rv _ _) ?_;rw[an];go_wp2_with fail;refine j.run x λbl v a0=>?_;have b9:=(a0.block _ (ai q) (λw=>by have:=j.cu.cur;rw[<-aJ w,q]at this;simp at this)).trans q;have dq:=λa=>aj bl wr.heap.size a _ _ _ b9;clear a0 ap j;go_wp2_with fail;refine v.run a4 λw5 E _=>?_;have av:=am E;clear v E;go_wp2_with (at_builtin;refine av.out.app m r rfl _ _ rfl rfl rfl ?_;intro cw cx a5 b8);go_roundw
    case rel=>exact⟨a+1,_,K,a8,by go_num,by omega,a5,B,by rw[<-g.out];simp only[de]⟩
    case measure=>simp[F2];omega
  .have ce:¬(a:Int)<(I:Int):=by omega
   have cr:=d.conv;rw[List.drop_eq_nil_of_le (by have:=aK.1;omega)]at ar;cases ar;rw[ac2]at w;subst w;have p:=am d;clear d;go_wp2;go_ret;exact⟨rfl,p.out.cu,p.out.bel⟩
end Go.Proofs.YtbkolnpplhbdmaaGreatDoor
namespace Go.Proofs.YtbkolnpplhbdmaaGreatDoor
open Go.RowKit Go.Maps Go.WideMaps
variable{B b base g gb i j mb mg n p tv:Nat}{E:Pe}{I:Nat->Int->World->Prop}{N:Nd}{T s:ByteArray}{W W' w:World}{c k:Int}{fr:Nat×Nat}{l:List Wt}{ns:List Nd}{o:Obj}{out:List Tk}{v vn:Value}{xs:List Value}
def aja(d:Wzd ns)(p:∀i:Nat,i<ns.length->JD (ae ns i)):∀(f i tab:Nat),i<f->i<ns.length->
  (gE (ae ns i).k=B6->Fq ns i (Bp ns f i tab))/\(iK (ae ns i).k=B6->SCl ns i (ul ns f i tab))/\((ae ns i).k=7->∃y,BCl ns i y/\∀w,AB ns f i w tab=w++y)
 |0,i,tab,r,_=>by omega
 |f+1,i,tab,r,l=>by
  have m:=λ(b g:Nat) (e:b<i) (c:b<ns.length)=>aja d p f b g (by omega) c;have n:JzE ns (λk=>Bp ns f k tab) (λk g=>ul ns f k g) i tab:=⟨λb e c a=>(m b tab e c).1 a,λb e c a=>(m b (tab+1) e c).2.1 a,p⟩;have o:(ae ns i).k=7->∃y,BCl ns i y/\∀w,Ea ns (λk=>Bp ns f k tab) (λk g=>ul ns f k g) (λk w=>AB ns f k w tab) (ae ns i) w tab=w++y:=λa=>
   asD n d l a λb e c a=>(m b tab e c).2.2 a
  refine⟨λa=>?_,λa=>?_,λa=>?_⟩
  .rw[Bp];exact ao2 n d l a
  .rw[ul];exact ao3 n d l a λq=>by
    have⟨y,h,j⟩:=o q;exact⟨y,h,j _⟩
  .obtain⟨y,h,j⟩:=o a;exact⟨y,h,λw=>by rw[AB];exact j w⟩
def Ha(l:List Wt)(c:Fo):Prop:=∀(a:Nat->Tk)(n j:Nat),j<n->pu a n 0 l j->(a j).k=6->∃b:Fo,b.bare=c/\P a n .stats 0 b j/\DD a n [100,6] 0 (j+1)
def ajb:Ha [] .nil:=λf e d b c a=>by
 obtain rfl:=c.nils;exact⟨.nil,rfl,.sstop (.inr a) b,DD.exp a (by decide:xE 100 6=([],B6)) b (DD.tok a b ⟨0,.nil⟩)⟩
inductive StL:List Wt->List (List Wt×Fo)->Prop where
 |nil:StL [nlW] []
 |cons {l m:List Wt}{F:Fo}{cs:List (List Wt×Fo)}:Bl l F->StL m cs->StL (nlW::(l++m)) ((l,F)::cs)
inductive Rts:List Wt->List (List Wt×Fo)->Prop where
 |nil:Rts [] []
 |cons {l m:List Wt}{F:Fo}{cs:List (List Wt×Fo)}:Bl l F->StL m cs->Rts (l++m) ((l,F)::cs)
def csF:List (List Wt×Fo)->Fo
 |[]=> .nil
 |x::r=>x.2.app (csF r)
def StL.slc{m:List Wt}{cs:List (List Wt×Fo)}(h:StL m cs):SLc m (csF cs):=by
 induction h with
 |nil=>exact SLc.nil
 |cons a c b=>exact SLc.cons a b
def Rts.root{cs:List (List Wt×Fo)}(h:Rts l cs):Ha l (csF cs):=by
 cases h with
 |nil=>exact ajb
 |cons a b=>exact anK a b.slc
def Hb{S:Int->ByteArray}:∀(ks:List Int),(∀z∈ks,∃y:Nat,z=(y:Int)/\SCl ns y (S y))->∃m cs,jk pL (⟨#[10]⟩++ju (ks.map λk=>S k++⟨#[10]⟩)) m/\StL m cs/\csF cs=qw (Sh ns) ks/\(cst m:Int)<=wK ns ks+11
 |[],_=>⟨[nlW],[],adq,.nil,rfl,by show(11:Int)<=0+11;decide⟩
 |z::r,h=>by
  obtain⟨y,rfl,l,b,c,d,i⟩:=h z aI;obtain⟨m,cs,e,f,g,j⟩:=Hb r λy a=>h y (cG _ a);refine⟨nlW::(l++m),_,?_,.cons d f,by rw[csF,g];rfl,by simp only[cst,ci,wt,sgF,mi,nlW,Int.reduceLT,reduceIte];rw[wK];omega⟩;rw[dw,EJ,de];exact adq.app (c.app e ax B9) (ax b) rfl
def al0(h:(eG ns).1=0)(p:∀i:Nat,i<ns.length->JD (ae ns i)):
  ∃l cs,Rz (mI ns) 0 l (mI ns).size/\Rts l cs/\csF cs=qw (Sh ns) (ae ns ((ns.length:Int)-1)).ks/\(cst l:Int)<=Wp ns ns.length:=by
 have b:=I9 h;have C:=b.len;have n:((ns.length:Int)-1)=((ns.length-1:Nat):Int):=by omega
 have g:=(abB h).2.2;have k:=b.root;unfold mI;rw[n]at g k⊢;rw[<-k,b.at_ (ns.length-1) (by omega)];have G:=xe (ae ns ((ns.length-1:Nat):Int));have q:=(kJ (b.nb (ns.length-1) (by omega))).1;have c:∀d∈(ae ns ((ns.length-1:Nat):Int)).ks,∃a:Nat,d=(a:Int)/\SCl ns a (ul ns ns.length a 0):=λd c=>by
  obtain⟨a,rfl,z,f,s,B,o⟩:=tE b (by omega) c;have j:=Lu _ 0 (zr q g) s (by omega) (by omega);rw[o]at j;exact⟨a,rfl,(aja b p ns.length a 0 f f).2.1 j⟩
 cases er:(ae ns ((ns.length-1:Nat):Int)).ks with
 |nil=>
  exact⟨[],[],.nil,.nil,rfl,by simp only[cst,wK];omega⟩
 |cons d m=>
  rw[er]at c;obtain⟨a,rfl,l,E,t,u,F⟩:=c d aI;obtain⟨v,cs,w,x,y,H⟩:=Hb (S:=λe=>ul ns ns.length e 0) m λa r=>c a (cG _ r);refine⟨l++v,_,?_,.cons u x,by rw[csF,y];rfl,by rw[ci,wK];omega⟩;rw[dw,EJ,de];have:=(t.app w ax B9) (ul ns ns.length a 0++(⟨#[10]⟩++ju (m.map λe=>ul ns ns.length e 0++⟨#[10]⟩))) 0 ⟨by omega,λi A=>by rw[dv]⟩ rfl;rw[dv]at this;exact this
inductive pv:List Wt->List Wt->Prop where
 |nil:pv [] []
 |tok {t:Wt}{l e:List Wt}:t.k≠7->pv l e->pv (t::l) (t::e)
 |sep {t u:Wt}{l e:List Wt}:t.k=7->u.k=7->pv l e->pv (t::l) (u::e)
 |more {t u:Wt}{l e:List Wt}:t.k=7->u.k=7->pv (t::l) e->pv (t::l) (u::e)
def pv.refl:∀(l:List Wt),pv l l
 |[]=> .nil
 |t::l=>by
  by_cases h:t.k=7
  .exact .sep h h (pv.refl l)
  .exact .tok h (pv.refl l)
def pv.seg{e:List Wt}(h:pv l e):∀{tk:Nat->Tk}{n i:Nat},i+e.length<=n->(∀q t,e[q]?=O t->(tk (i+q)).k=Bz t/\(t.k≠7->(tk (i+q)).n=t.n/\(tk (i+q)).x=t.x))->pu tk n i l (i+e.length):=by
 induction h with
 |nil=>intro tk n i _ _;exact .nil
 |@tok t l e b m j=>
  intro tk n i f c;rw[bc]at f⊢;have⟨a,d⟩:=c 0 t rfl;rw[fL]at a d;unfold Bz at a;rw[aa b]at a;have:=j (tk:=tk) (n:=n) (i:=i+1) (by omega) λq t g=>by have:=c (q+1) t g;rw[show i+1+q=i+(q+1) by omega];exact this
  rw[show i+(e.length+1)=i+1+e.length by omega];exact .tok b a (d b).1 (d b).2 (by omega) this
 |@sep t o l e b m p j=>
  intro tk n i f c;rw[bc]at f⊢;have⟨a,d⟩:=c 0 o rfl;rw[fL]at a d;unfold Bz at a;rw[ab m]at a;have:=j (tk:=tk) (n:=n) (i:=i+1) (by omega) λq t g=>by have:=c (q+1) t g;rw[show i+1+q=i+(q+1) by omega];exact this
  rw[show i+(e.length+1)=i+1+e.length by omega];exact .sep b a (by omega) this
 |@more t o l e b m p j=>
  intro tk n i f c;rw[bc]at f⊢;have⟨a,d⟩:=c 0 o rfl;rw[fL]at a d;unfold Bz at a;rw[ab m]at a;have:=j (tk:=tk) (n:=n) (i:=i+1) (by omega) λq t g=>by have:=c (q+1) t g;rw[show i+1+q=i+(q+1) by omega];exact this
  rw[show i+(e.length+1)=i+1+e.length by omega];exact .more b a (by omega) this
def arI{w c:ByteArray}{n:Int}(h:Alo w k n c):1<=k/\k<=78/\k≠6:=by
 have b:=ade w 0 h.ok;have a:=adf w 0 h.ok;unfold ya at a;rw[ab h.ok]at a;rw[h.ki]at b a;exact⟨b.1,b.2,a⟩
def as5{q:Nat}{us:List Tk}(h:uq T p l us q):∀t∈l,1<=Bz t/\Bz t<=78/\Bz t≠6:=by
 induction h with
 |nil=>intro t f;cases f
 |bl b c a=>exact a
 |rem b c d a=>exact a
 |tok b c d g i j _ _ _ k a=>
  intro e hu;rcases List.mem_cons.1 hu with rfl|hu
  .unfold Bz;rw[aa b];exact arI d
  .exact a e hu
 |sep b c _ d a=>
  intro e hu;rcases List.mem_cons.1 hu with rfl|hu
  .decide
  .exact a e hu
def uq.at_{z:Nat}{e:List Wt}{ts:List Tk}(h:uq T p e ts z):ts.length=e.length/\∀(q:Nat) t,e[q]?=O t->∃X:Tk,ts[q]?=O X/\X.k=Bz t/\(t.k≠7->X.n=t.n/\X.x=t.x):=by
 induction h with
 |nil=>exact⟨rfl,λq t h=>by simp at h⟩
 |bl _ _ a=>exact a
 |rem _ _ _ a=>exact a
 |@tok _ _ _ t m X ts d i f r s u j l v _ a=>
  refine⟨by simp[a.1],λq c b=>?_⟩;cases q with
  |zero=>
   obtain rfl:t=c:=by simpa using b
   exact⟨X,rfl,by unfold Bz;rw[aa d];exact j,λ_=>l⟩
  |succ q=>exact a.2 q c (by simpa using b)
 |@sep _ _ m o X ts d i f _ a=>
  refine⟨by simp[a.1],λq c b=>?_⟩;cases q with
  |zero=>
   obtain rfl:nlW=c:=by simpa using b
   exact⟨X,rfl,f,λg=>absurd rfl g⟩
  |succ q=>exact a.2 q c (by simpa using b)
def nG(T:ByteArray)(a:Int):Tk:=⟨6,(T.size:Nat),(T.size:Nat),a,0,⟨#[]⟩⟩
def tL{ts:List Tk}{X E:Tk}{q:Nat}(h:ts[q]?=O X):rj (ts++[E]) q=X:=rC (by rw[gw (List.getElem?_eq_some_iff.1 h).1];exact h)
def zG(ts:List Tk)(E:Tk):rj (ts++[E]) ts.length=E:=rC (by rw[eD (ag _),fx];rfl)
def ajc{e:List Wt}{y:Fo}{us:List Tk}(o:uq T 0 e us T.size)(j:pv l e)(J:Ha l y):∃ts c d,mj T=(ts++[nG T c],d, -1)/\(dm d 6).2=B6/\uq T 0 e ts T.size/\(∀X∈ts,X.k≠6)/\Smp us ts/\ts.length=e.length/\∀q t,e[q]?=O t->(rj (ts++[nG T c]) q).k=Bz t/\(t.k≠7->(rj (ts++[nG T c]) q).n=t.n/\(rj (ts++[nG T c]) q).x=t.x):=by
 have m:=as5 o;obtain⟨f,s⟩:∃f:List Tk,f=e.map λt=>(⟨Bz t,0,0,0,t.n,t.x⟩:Tk):=⟨_,rfl⟩;have ad:f.length=e.length:=by rw[s,bq]
 have p:∀q t,e[q]?=O t->rj (f++[nG T 0]) q=⟨Bz t,0,0,0,t.n,t.x⟩:=λq t b=>tL (by rw[s,cD,b];rfl);have r:rj (f++[nG T 0]) e.length=nG T 0:=by rw[<-ad];exact zG _ _
 have u:=j.seg (tk:=rj (f++[nG T 0])) (n:=e.length+1) (i:=0) (by omega) λq t b=>by rw[dv,p q t b];exact⟨rfl,λ_=>⟨rfl,rfl⟩⟩
 rw[dv]at u;obtain⟨_,_,_,af,A⟩:=J _ _ _ (Nat.lt_succ_self _) u (by rw[r];rfl);obtain⟨ao,h⟩:=amH (e.map Bz++[6]) [100,6] 0 af _ A (by simp) (λx j=>by simp at j;omega) λq k a=>by
  rw[dv];rcases bg q e.length with g|g
  .rw[gw (by rw[bq];exact g),cD,aw g]at a;obtain rfl:Bz e[q]=k:=by simpa using a
   rw[p q e[q] (aw g)];have:=m e[q] (jq g);exact⟨rfl,this.1,this.2.1⟩
  .rw[eD (by rw[bq];exact g),bq]at a;have C:q-e.length=0:=by
    rcases oz (q-e.length) with z|z
    .exact z
    .rw[jC (by simp;omega)]at a;cases a
   rw[C]at a;obtain rfl:(6:Int)=k:=by simpa using a
   rw[show q=e.length by omega,r];exact⟨rfl,by decide,by decide⟩
 rw[ady]at h;cases hf:fdK [100,6] (e.map Bz) with
 |none=>rw[hf]at h;cases h
 |some d=>
  rw[hf]at h;have H:(dm d 6).2=B6:=by
   by_cases g:(dm d 6).2=B6
   .exact g
   .simp[fdK,g]at h
  have⟨ts,c,L,b,K⟩:=alr o hf;have⟨ak,v⟩:=b.at_;refine⟨ts,c,d,L,H,b,λX I=>?_,K,ak,λq t a=>?_⟩
  case refine_2=>
   have⟨X,E,F,G⟩:=v q t a;rw[tL E];exact⟨F,G⟩
  have⟨q,a,B⟩:=iq I;obtain⟨an,w,al,_⟩:=v q e[q] (aw (by omega));rw[aw a,B]at w;obtain rfl:=aJ w;rw[al];exact(m _ (jq _)).2.2
def ajd{e:List Wt}{d:Fo}(c:Rz T 0 e T.size)(g:pv l e)(f:Ha l d):∃ts a b,mj T=(ts++[nG T a],b, -1)/\(dm b 6).2=B6/\uq T 0 e ts T.size/\(∀X∈ts,X.k≠6)/\∃X:Fo,X.bare=d/\P (rj (ts++[nG T a])) (ts.length+1) .stats 0 X ts.length:=by
 have⟨x,c⟩:=c.tks;have⟨ts,a,b,j,m,o,p,_,q,r⟩:=ajc c g f;refine⟨ts,a,b,j,m,o,p,?_⟩;have h:=g.seg (tk:=rj (ts++[nG T a])) (n:=ts.length+1) (i:=0) (by omega) λv w u=>by rw[dv];exact r v w u
 rw[dv,<-q]at h;obtain⟨X,t,s,_⟩:=f _ _ _ (Nat.lt_succ_self _) h (by rw[zG];rfl);exact⟨X,t,s⟩
def Fo.szl:Fo->List Int
 | .nil=>[]
 | .cons _ k r=>k.szl++(((k.sz+1:Nat):Int)::r.szl)
def Fo.dpl:Fo->Int->List Int
 | .nil,_=>[]
 | .cons _ k r,d=>k.dpl (d+1)++(d::r.dpl d)
def Fo.dep:Fo->Nat
 | .nil=>0
 | .cons _ k r=>max (k.dep+1) r.dep
def ua:∀a:Fo,a.szl.length=a.sz
 | .nil=>rfl
 | .cons N k r=>by rw[Fo.szl,aG,bc,ua k,ua r,Fo.sz];omega
def qc:∀(a:Fo)(d:Int),(a.dpl d).length=a.sz
 | .nil,_=>rfl
 | .cons N k r,d=>by rw[Fo.dpl,aG,bc,qc k,qc r,Fo.sz];omega
def Jr:∀(b:Fo),∀z∈b.szl,z≠0
 | .nil=>λz a=>by cases a
 | .cons N k r=>λz a=>by
  rcases List.mem_append.1 a with h|h
  .exact Jr k z h
  .rcases List.mem_cons.1 h with rfl|h
   .omega
   .exact Jr r z h
def ab4:∀(b:Fo)(d:Int),∀z∈b.dpl d,z<d+b.dep
 | .nil,d=>λz a=>by cases a
 | .cons N k r,d=>λz a=>by
  rw[Fo.dep];rcases List.mem_append.1 a with h|h
  .have:=ab4 k (d+1) z h;omega
  .rcases List.mem_cons.1 h with rfl|h
   .omega
   .have:=ab4 r d z h;omega
def aje(S:List Int):∀(x y:List Int)(a:Int),qD S (x++y) a=(qD S x a).bind (qD S y)
 |[],y,a=>rfl
 |k::x,y,a=>by
  rw[dJ,qD,qD];split
  .exact aje S x y _
  .rfl
def A8{α:Type}{S L A B:List α}{x:α}(c:L=A++x::B)(h:∀j,j<L.length->S[b+j]?=L[j]?):(∀j,j<A.length->S[b+j]?=A[j]?)/\S[b+A.length]?=O x/\∀j,j<B.length->S[b+A.length+1+j]?=B[j]?:=by
 subst c;refine⟨λj a=>?_,?_,λj a=>?_⟩
 .rw[h j (by simp;omega),gw a]
 .rw[h A.length (by simp),eD (ag _),fx];rfl
 .rw[show b+A.length+1+j=b+(A.length+1+j) by omega,h _ (by simp;omega),eD (by omega),show A.length+1+j-A.length=j+1 by omega];rfl
def ad5:∀(a:Fo)(S:List Int)(b:Nat),(∀j,j<a.szl.length->S[b+j]?=a.szl[j]?)->qD S (a.tops b).reverse ((b+a.sz:Nat):Int)=O (b:Int)
 | .nil,S,b,h=>by simp[Fo.tops,Fo.sz,qD]
 | .cons N k r,S,b,h=>by
  obtain⟨f,d,e⟩:=A8 (A:=k.szl) (B:=r.szl) rfl h;rw[ua k]at d e;rw[Fo.tops,List.reverse_cons,aje,Fo.sz,show b+(k.sz+1+r.sz)=b+k.sz+1+r.sz by omega,ad5 r S (b+k.sz+1) e];show qD S [((b+k.sz:Nat):Int)] _=_;have c:S.getD ((b+k.sz:Nat):Int).toNat 0=((k.sz+1:Nat):Int):=by rw[iF,aF,d];rfl
  rw[qD,ab ⟨by omega,by rw[c];omega⟩,qD,c]
  congr 1
  omega
def Fi:∀(a:Fo)(S:List Int),(a.flat S.length).foldl (λS N=>S++[ov S S.length N.ks]) S=S++a.szl
 | .nil,S=>by simp[Fo.flat,Fo.szl]
 | .cons N k r,S=>by
  rw[Fo.flat,List.foldl_append,Fi k S,kG];have b:(S++k.szl).length=S.length+k.sz:=by rw[aG,ua]
  have d:ov (S++k.szl) (S++k.szl).length (k.tops S.length)=((k.sz+1:Nat):Int):=by
   unfold ov;rw[b,ad5 k _ S.length λc e=>by rw[eD (by omega),show S.length+c-S.length=c by omega]];simp only;omega
  show List.foldl _ (S++k.szl++[ov (S++k.szl) (S++k.szl).length (k.tops S.length)]) _=_;rw[d];have:=Fi r (S++k.szl++[((k.sz+1:Nat):Int)]);rw[show(S++k.szl++[((k.sz+1:Nat):Int)]).length=S.length+k.sz+1 by rw[aG,b];rfl]at this;rw[this,Fo.szl];simp only[bC,sG]
def ad6(i:Nat):∀(ks D:List Int),(Er i ks D).length=D.length
 |[],D=>rfl
 |k::r,D=>by rw[Er,ad6 i r];simp
def ajf(i:Nat):∀(ks D:List Int)(d:Int),D[i]?=O d->(∀k∈ks,k.toNat≠i/\k.toNat<D.length)->(∀j,(∀k∈ks,k.toNat≠j)->(Er i ks D)[j]?=D[j]?)/\∀k∈ks,(Er i ks D)[k.toNat]?=O (d+1)
 |[],D,d,_,_=>⟨λ_ _=>rfl,λk c=>by cases c⟩
 |k::r,D,d,m,h=>by
  have c:=h k aI;have o:D.getD i 0=d:=by rw[aF,m];rfl
  rw[Er,o];obtain⟨l,p⟩:=ajf i r (D.set k.toNat (d+1)) d (by rw[Hd c.1];exact m) λa hz=>by have:=h a (cG _ hz);exact⟨this.1,by simpa using this.2⟩
  refine⟨λj n=>?_,λa hz=>?_⟩
  .rw[l j λa hz=>n a (cG _ hz),Hd (n k aI)]
  .by_cases g:∃b∈r,b.toNat=a.toNat
   .obtain⟨b,f,e⟩:=g;rw[<-e];exact p b f
   .rw[l a.toNat λb f e=>g ⟨b,f,e⟩];rcases List.mem_cons.1 hz with rfl|hz
    .rw[List.getElem?_set_self c.2]
    .exact absurd ⟨a,hz,rfl⟩ g
def ub:∀(a:Fo)(b:Nat),∀t∈a.tops b,b<=t.toNat/\t.toNat<b+a.sz
 | .nil,b=>λt ht=>by cases ht
 | .cons N k r,b=>λt ht=>by
  rw[Fo.sz];rcases List.mem_cons.1 ht with rfl|ht
  .rw[iF];omega
  .have:=ub r _ t ht;omega
def Df:∀(a:Fo)(ns:List Nd)(b:Nat)(D:List Int)(d:Int),(∀j,j<(a.flat b).length->ns[b+j]?=(a.flat b)[j]?)->b+a.sz<=D.length->(∀t∈a.tops b,D[t.toNat]?=O d)->
  ∃E,dpN ns (b+a.sz) D=dpN ns b E/\E.length=D.length/\(∀j,j<b\/b+a.sz<=j->E[j]?=D[j]?)/\∀j,j<a.sz->E[b+j]?=(a.dpl d)[j]?
 | .nil,ns,b,D,d,_,_,_=>⟨D,rfl,rfl,λ_ _=>rfl,λj hj=>by rw[Fo.sz]at hj;omega⟩
 | .cons N k r,ns,b,D,d,h,y,ht=>by
  obtain⟨x,l,m⟩:=A8 (A:=k.flat b) (B:=r.flat (b+k.sz+1)) rfl h;rw[k.flat_len]at l m;rw[Fo.sz]at y⊢;obtain⟨c,p,z,e,s⟩:=Df r ns (b+k.sz+1) D d m (by omega) λt q=>ht t (cG _ q);have n:c[b+k.sz]?=O d:=by rw[e _ (by omega)];have:=ht _ aI;rwa [iF]at this
  obtain⟨i,w⟩:=ajf (b+k.sz) (k.tops b) c d n λt q=>by have:=ub k b t q;omega
  have F:=ad6 (b+k.sz) (k.tops b) c;have⟨o,u,C,f,v⟩:=Df k ns b (Er (b+k.sz) (k.tops b) c) (d+1) x (by omega) w;have g:∀j,b+k.sz<=j->(Er (b+k.sz) (k.tops b) c)[j]?=c[j]?:=λj hj=>i j λt q=>by have:=ub k b t q;omega
  refine⟨o,?_,by omega,λj hj=>?_,λj hj=>?_⟩
  .rw[show b+(k.sz+1+r.sz)=b+k.sz+1+r.sz by omega,p,dpN,aF,l];exact u
  .rw[f j (by omega)];rcases hj with hj|hj
   .rw[i j λt q=>by have:=ub k b t q;omega,e j (by omega)]
   .rw[g j (by omega),e j (by omega)]
  .rw[Fo.dpl];rcases Nat.lt_trichotomy j k.sz with q|q|q
   .rw[v j q,gw (by rw[qc];exact q)]
   .subst q;rw[f _ (by omega),g _ (ag _),n,eD (by rw[qc];omega),qc,fx];rfl
   .rw[f _ (by omega),g _ (by omega),show b+j=b+k.sz+1+(j-k.sz-1) by omega,s _ (by omega),eD (by rw[qc];omega),qc,show j-k.sz=j-k.sz-1+1 by omega];rfl
def ajg{X:Fo}(t:N.k=1)(u:X.sz+1<=3000)(s:X.dep<=100)(g:∀i,i<X.sz+1->fI ((one N X).flat 0) i=A9):eG ((one N X).flat 0)=(0,0):=by
 obtain⟨a,c⟩:∃a,(one N X).flat 0=a:=⟨_,rfl⟩;have d:a.length=X.sz+1:=by rw[<-c,Fo.flat_len,bz]
 have l:iL a=(one N X).szl:=by
  have:=Fi (one N X) [];rw[dE,c,dI]at this;exact this
 obtain⟨h,e,r,_,j⟩:=Df (one N X) a 0 (List.replicate a.length 0) 0 (λw _=>by rw[c,dv]) (by rw[bz,List.length_replicate];omega) λq p=>by
  have:=ub _ _ q p;rw[bz]at this;rw[yh,ab (by omega)]
 have m:C9 a=h:=by
  unfold C9;rw[bz,dv,<-d]at e;rw[e];rfl
 have v:(one N X).szl.length=X.sz+1:=by rw[ua,bz]
 rw[c]at g⊢;have o:a[X.sz]?=O {N with ks:=X.tops 0}:=by rw[<-c,uD,eD (by rw[Fo.flat_len];omega),Fo.flat_len,fx];rfl
 unfold eG;rw[aa (by
  unfold iu;rw[d,aF,lh,o];simp only[gy,decide_eq_true_eq];omega),zC λk _ f=>g k (by omega),tf2,l,zC λk _ f=>by
   have b:k<(one N X).szl.length:=by omega
   unfold iJ;rw[aF,aw b];exact beq_eq_false_iff_ne.2 (Jr _ _ (jq b)),tf3,aa,m,zC λk _ f=>?_]
 .rfl
 .have b:k<((one N X).dpl 0).length:=by rw[qc,bz];omega
  unfold jh;have:=j k (by rw[bz];omega);rw[dv]at this;rw[aF,this,aw b];have:=ab4 _ _ _ (jq b);have n:(one N X).dep=X.dep+1:=by simp[one,Fo.dep]
  rw[n]at this;simp only[gy];exact az (by omega)
 .rw[d,lh];have:(one N X).szl[X.sz]?=O ((X.sz+1:Nat):Int):=by
   show(X.szl++_)[X.sz]?=_;rw[eD (by rw[ua];omega),ua,fx];rfl
  rw[aF,this];simp
section
variable {E : Pe} {i j k k1 : Nat} {x y R Ex : Fo}
def Sw.lam{o u:A2}{s:Tk}{C:Ak}{H:List ByteArray}{r:Bool}{T:Bxs}{M:List (Ak×List ByteArray)}(h:Sw E W w i s0 [] .nil [] ((b,159,Fe vn r)::T) ((vn,H)::M))(m:Sw E w o j C [v] R [v] [] []){e:Int}(ad:u.heap[b]?=O (Ad #[Z V 36,Z V s.f,Z V e,Z V s.l,Z V 0,C,vn,Fs r] 159 (0,0)))(z:o.grownBy u (O b)):Sw E W u j s0 [] (one (nd 36 s e (opR r) 0 z0 H) R) [G2 157 (A3 (O ⟨b,0,Y⟩))] [] []:=by
 obtain⟨x,ap,y⟩:=h.tb _ (aI ..);have af:=ai y;simp only at x af;have al:=h.lt;have B:∀d,d<o.heap.size->d≠b->u.heap[d]?=o.heap[d]?:=λd p k=>z.block d p (λe=>k (by cases e;rfl));have aK:=m.gr.size;have⟨I,K,an⟩:=m.nb;refine⟨m.pp.other (by omega) (λe=>?_) (by omega) z,(h.gr.trans m.gr).andThen z (λd ak=> .inl (by cases ak;exact x)),al,fs _ _ _ _,⟨_,⟨b,0,vn,C,[v],[],I,[],⟨rfl,rfl⟩,⟨x,by simp[A1],?_,?_⟩,⟨?_,λg _=>by simp[A1]⟩,⟨?_,λg _=>by simp[A1]⟩,?_,rfl,rfl⟩,?_⟩,λao A=>(by cases A),λao A=>(by cases A)⟩
 .obtain⟨ar,av,F,_⟩:=h.pp.tks;rw[<-e,y]at F;simp only[fw,lF]at F;exact absurd F.2.1 (by decide)
 .unfold il;rw[ad];cases r<;>rfl
 .cases r<;>rfl
 .have t:=h.nm _ (aI ..);refine kH (w:=w) t (λg J p k=>⟨?_,p⟩);rw[B g (by omega) (λe=>gC t y (show 159≠9 by decide) (by rw[<-e];exact J))];exact m.gr.block g k (λe=>by cases e;omega)
 .exact kH (w:=o) m.ro (λg J p k=>⟨B g k (by omega),by omega⟩)
 .exact tH.mono (w:=o) (λd p k L=>⟨B d L (by omega),by omega,by simp[A1]⟩) _ _ _ K
 .rw[show mB []=[] from rfl,dk,dk];have t:=h.nm _ (aI ..);have:=nd3 (a:=vn.ownBlock.toList) (b:=I) (c:=[]) (n:=w.heap.size) (by rw[dk];exact Jj _) (by simpa [mB] using an) (λG q=>by rw[dk]at q;exact(t.lt G (by simpa using q)).2) (λG q=>(K.lt _ _ _ G q).1);rw[dk]at this;exact this
def arJ{s:Tk}{q:Int}{B:List ByteArray}{r:Bool}(a4:s.k=q)(b5:(E.tk i).k=40)(b4:i+1<E.n)(b7:Prm E.tk E.n (i+1) B r k)(b9:CN E 120 #[pV E] k x j)(a3:k+1<=j)(cu:j<=E.n):CN E 183 #[pV E,Ck (qh q s)] i (one (nd 36 s (E.tk (j-1)).t (opR r) 0 z0 B) x) j:=by
 intro l ar b6;have bs:=Sw.start ar;have br:=am b7;have cB:=ar.hn;have cs:=alE;simp only[bz]at b6;have⟨w1,b1,bt⟩:=F8 bs a4;simp only[qh]at b1;go_in;go_wp2_with fail;refine dt (lC bt b5 (by omega)) λc bv=>?_;have bk:B7 (Sw E l (c.alloc (Ad (Fe s0 A9) 159)) (i+1) s0 [] .nil [] [(c.heap.size,159,Fe (s0) A9),tkB l.heap.size s] [(s0,[])]):=by
  have F:=bv.boxg (Fe s0 A9) 159 (by decide) (by decide);exact⟨F.pp,F.gr,F.lt,F.ro,⟨[],⟨rfl,rfl⟩,by simp[mB,A1]⟩,F.tb,λbh ak=>by obtain rfl:=List.mem_singleton.1 ak;exact fs _ _ _ _⟩
 go_wp2;go_loopg [13] (E.n-(i+1)) (λgk c1 wr=>∃(a:Nat) (D aK:List ByteArray) (p an:Bool) (g:Option Addr) (n h:Nat),gk=E.n-a/\D.length=n/\n<=a/\a<E.n/\B7 (Prm E.tk E.n a aK an k/\Sw E l wr a s0 [] .nil [] [(c.heap.size,159,Fe (U g n h) p),tkB l.heap.size s] [(U g n h,D)]/\D++aK=B/\(p||an)=r))
 case atStart=>exact⟨i+1,[],B,A9,r,Y,0,0,rfl,rfl,by omega,b4,br,bk,rfl,by simp⟩
 case round=>
  obtain⟨a,D,aK,p,an,g,n,h,rfl,af,cz,cw,bo⟩:=hrel;have⟨F,b0,L,ad⟩:=bo.out;have a0:=am b0;cases F with
  |close w z=>
   rw[dk]at L;rw[Hi]at ad;subst L ad;go_wp2_with fail;refine dt (xg a0 w) λa7 u=>?_;go_wp2_with fail;refine(b9 _ u.pp (by omega)).mono ?_;rintro e w5 ⟨c0,rfl,m⟩;obtain⟨a6,a5,rfl⟩:=De.form m.nn;have a8:=u.step m.gr m.pp;have⟨c2,b2,J⟩:=LL m [G2 a6 a5] #[G2 a6 a5] rfl 1 rfl (by decide);have bw:=sB a8 (dC w5 (Ad #[G2 a6 a5] 55));rw[b2]at bw;obtain⟨c4,c7,c8,c9,da,dc⟩:=F9 (sT (b:=(c.heap.size,159,Fe (U g n h) p)) a8) a4;go_wp2_with fail;refine dt (sx J a4 (by omega) (by omega) 36 _ _ _) λf H=>?_;have bx:=u.step H.gr H.pp;have A:=(bx.tb _ (aI ..)).2.2;have dd:f.cell? ⟨c.heap.size,0,Y⟩=O (Z V 0):=by rw[aj _ _ _ _ _ _ A];rfl
   have dg:f.cell? ⟨c.heap.size,1,Y⟩=O (Z V 0):=by rw[aj _ _ _ _ _ _ A];rfl
   have dn:f.cell? ⟨c.heap.size,2,Y⟩=O (Z V 0):=by rw[aj _ _ _ _ _ _ A];rfl
   have dq:f.cell? ⟨c.heap.size,3,Y⟩=O (Z V 0):=by rw[aj _ _ _ _ _ _ A];rfl
   have ds:f.cell? ⟨c.heap.size,4,Y⟩=O (Z V 0):=by rw[aj _ _ _ _ _ _ A];rfl
   have dx:f.cell? ⟨c.heap.size,5,Y⟩=O (U Y 0 0):=by rw[aj _ _ _ _ _ _ A];rfl
   have d0:∀j,f.frozen? ⟨c.heap.size,j,Y⟩=A9:=λj=>cH _ _ _ _ _ A;have bn:=am A;go_wp2;go_ret;exact⟨_,rfl,u.lam (s:=s) (e:=(E.tk (j-1)).t) H (bp _ _ 5 _ _ _ (bp _ _ 4 _ _ _ (bp _ _ 3 _ _ _ (bp _ _ 2 _ _ _ (bp _ _ 1 _ _ _ (bp _ _ 0 _ _ _ bn)))))) (re (re (re (re (re (re (ux f _) 0 _) 1 _) 2 _) 3 _) 4 _) 5 _)⟩
  |rest w z ba=>
   have y:B7 (D++[]=B/\(B6||false)=r):=⟨L,by rw[<-ad,Bool.or_true];rfl⟩;go_wp2_with fail;refine dt (Ca a0 (by rw[w];decide)) λcn a1=>?_;go_wp2_with fail;refine dt (xg a1 w) λa7 u=>?_;have⟨bb,cf,ck⟩:=sLC u;have m:B7 (Sw E l (a7.setCell ⟨c.heap.size,7,Y⟩ (Fs B6)) (a+1) s0 [] .nil [] [(c.heap.size,159,Fe (U g n h) B6),tkB l.heap.size s] [(U g n h,D)]):=u.setL (by intro bh ak;obtain rfl:=List.mem_singleton.1 ak;show 49≠159;decide);go_wp2_with fail;refine dt (Ca m (by rw[z];decide)) λbj K=>?_;go_wp2;go_roundg (E.n-(a+1))
   case measure=>omega
   case rel=>exact⟨a+1,D,[],B6,A9,g,n,h,rfl,af,by omega,by omega,.close z (by omega),K,y.1,y.2⟩
  |last w z ba=>?_
  |@go _ _ bd _ w z ba bE=>?_
  all_goals
   first
    |have y:B7 ((D++[(E.tk a).x])++[]=B/\(p||false)=r):=⟨by rw[dk];exact L,ad⟩
    |(have y:B7 ((D++[(E.tk a).x])++bd=B/\(p||an)=r):=⟨by rw[bC];exact L,ad⟩
      have bl:=am bE)
   have cy:n<=50000000:=by omega
   go_wp2_with fail;refine dt (Ca a0 (by rw[w];decide)) λcn a1=>?_;go_wp2_with fail;refine dt (Ca a1 (by rw[w];decide)) λa7 u=>?_;go_wp2_with fail;have a9:=sB u (bF (ah _ _));have⟨bb,cf,ck⟩:=sLC a9;refine G0 (S:=λ_=>True) (by kernel_rfl) trivial (λhS=>?_);simp only[iD,bc,dE,Nat.reduceAdd,jn,jA,jB,dI,dJ];refine dL 0 (A3 (O ⟨c.heap.size,0,Y⟩)) rfl rfl hS (λao al=>by go_simp) ?_;simp only[B4];refine dL 1 (A3 (O ⟨c.heap.size,0,Y⟩)) rfl rfl hS (λao al=>by go_simp) ?_;simp only[B4];refine dL 2 (A3 (O ⟨c.heap.size,0,Y⟩)) rfl rfl hS (λao al=>by go_simp) ?_;simp only[B4];refine dL 3 (A3 (O ⟨c.heap.size,6,Y⟩)) rfl rfl hS (λao al=>by go_simp) ?_;simp only[B4];refine dL 5 (A3 (O ⟨E.pb,0,Y⟩)) rfl rfl hS (λao al=>by go_simp) ?_;simp only[B4];refine sa (S:=λbA=>bA.cell? ⟨c.heap.size,6,Y⟩=O (U g n h)) (C:=λj=>!(j==9||j==10||j==11||j==12)) (i:=4) (v:= U g n h) rfl (ye (by kernel_rfl)) (λ_ _ _ ar=>ar) ?hC _ _ _ _ (yg rfl (by kernel_rfl)) (List.contains_iff_mem.1 (by kernel_rfl)) (Or.inl ⟨by rfl,λao al=>by go_simp⟩) hS bb ?_
   case hC=>
    intro j cF a3 o;simp only[Bool.not_eq_false',sI,jD]at o;rcases o with((rfl|rfl)|rfl)|rfl
    .obtain rfl:=aJ a3;exact⟨{on:=4,ground:=Ground.data},by simp,rfl,rfl⟩
    all_goals
     obtain rfl:=aJ a3;exact⟨{on:=4,ground:=Ground.phase},by simp,rfl,rfl⟩
   simp only[Act.put,co,cA,cC];refine fj (i:=6) (by kernel_rfl) rfl (λG d=>?_);go_simp;refine dt (lC a9 w (by omega)) λw5 m=>?_;have c5:=(sLC m).1;refine d _ _ trivial (λ_=>c5) ?_;try simp only[co,cA,cC]
   refine fj (i:=7) (by kernel_rfl) rfl (λG d=>?_);simp only[qh];go_simp;refine d _ _ trivial (λ_=>c5) ?_;try simp only[co,cA,cC]
   refine fj (i:=8) (by kernel_rfl) rfl (λG d=>?_);go_simp;have J:=sB m (dC w5 (Ad #[A0 (E.tk a).x] 9));have bD:=(sLC J).1;have bf:=J.nm _ (aI ..);rw[bq,af]at bf;refine d _ _ trivial (λ_=>bD) ?_;try simp only[co,cA,cC]
   have⟨ca,cb,cc,cd,ce⟩:=fh LK;refine fj (i:=9) (by kernel_rfl) rfl (λG d=>?_);refine step_append_lies _ (by rfl) _ _ 31 (by rfl) l.heap.size 9 ca _ 1 16 underlying31 cb cc cd ce rfl (by decide) (U g n h) n _ (by rfl) bf ⟨w5.heap.size,0,Y⟩ 1 1 [A0 (E.tk a).x] (by rfl) rfl (Br (aA w5 _)) (by intro cI b8;rw[List.mem_singleton.1 b8];rfl) (by decide) (by unfold H0;omega) (by omega) (bG m.gr.size (dC w5 _).size) _ rfl ?_;intro ap I f cl b3 ct cx;have H:B7 (Sw E l f (a+1) s0 [] .nil [] [(c.heap.size,159,Fe (U g n h) p),tkB l.heap.size s] [(U (O ⟨ap,0,Y⟩) (n+1) I,D++[(E.tk a).x])]):=J.putN (by rw[bq,aG,af,eJ];exact cl) b3;have⟨cp,cq,cr⟩:=sLC H;refine d _ _ trivial (λo=>by cases o) ?_;simp only[Act.put,co,cA,cC];refine fj (i:=10) (by kernel_rfl) rfl (λG d=>?_);go_simp;refine d _ _ trivial (λo=>by cases o) ?_;try simp only[co,cA,cC]
   refine fj (i:=11) (by kernel_rfl) rfl (λG d=>?_);go_simp;refine d _ _ trivial (λo=>by cases o) ?_;try simp only[co,cA,cC]
   refine fj (i:=12) (by kernel_rfl) rfl (λG d=>?_);go_simp;have a2:B7 (Sw E l (f.setCell ⟨c.heap.size,6,Y⟩ (U (O ⟨ap,0,Y⟩) (n+1) I)) (a+1) s0 [] .nil [] [(c.heap.size,159,Fe (U (O ⟨ap,0,Y⟩) (n+1) I) p),tkB l.heap.size s] [(U (O ⟨ap,0,Y⟩) (n+1) I,D++[(E.tk a).x])]):=H.setL (by intro bh ak;obtain rfl:=List.mem_singleton.1 ak;show 49≠159;decide);refine d _ _ trivial (λo=>by cases o) ?_;refine uz (by kernel_rfl) ?_ _;generalize f.setCell _ _=c3 at a2⊢;go_wp2_with fail;first
    |(refine dt (Ca a2 (by rw[z];decide)) λbj K=>?_
      go_wp2;go_roundg (E.n-(a+1))
      case measure=>omega
      case rel=>exact⟨a+1,D++[(E.tk a).x],[],p,A9,_,n+1,I,rfl,by rw[aG,af];rfl,by omega,by omega,.close z (by omega),K,y.1,y.2⟩)
    |(refine dt (xg a2 z) λbj K=>?_
      go_wp2;go_roundg (E.n-(a+2))
      case measure=>omega
      case rel=>exact⟨a+2,D++[(E.tk a).x],bd,p,an,_,n+1,I,rfl,by rw[aG,af];rfl,by omega,by omega,bl,K,y.1,y.2⟩)
end
abbrev CxP(E:Pe)(i:Nat)(x:Fo)(j:Nat):Prop:=CN E 118 #[pV E] i x j
abbrev ClP(E:Pe)(i:Nat)(x:Fo)(j:Nat):Prop:=CR E 181 #[pV E,.func (.func 118) #[pV E] #[]] i x j
def PI(E:Pe):uE->Nat->Fo->Nat->Prop
 | .unit,i,R,j=>CN E 220 #[pV E] i R j
 | .expr p,i,R,j=>CXi E p i R j
 | .more p s x,i,R,j=>∃m,Ms E (CXi E) p s m x i R j
 | .base,i,R,j=>CN E 119 #[pV E] i R j
 | .post s x,i,R,j=>∃m,LH E (CxP E) (ClP E) s m x i R j
 | .exprs,i,R,j=>ClP E i R j
 | .moreE,i,R,j=>∃m,Ls E (CN E 118 #[pV E]) m i R j
 | .moreB,i,R,j=>∃m,Ls E (CN E 119 #[pV E]) m i R j
 | .stat,i,R,j=>CN E 63 #[pV E] i R j
 | .stats,i,R,j=>∃m,Ss E (CN E 63 #[pV E]) m i R j
 | .block,i,R,j=>CN E 120 #[pV E] i R j
 | .body s,i,R,j=>CN E 183 #[pV E,Ck (qh s.k s)] i R j
 | .entry,i,R,j=>CN E 261 #[pV E] i R j
 | .entries,i,R,j=>∃m,Es E (CN E 261 #[pV E]) m i R j
 | .branch,i,R,j=>CN E 111 #[pV E] i R j
def al3(h:jE k=B6):k=25\/k=50\/k=62\/k=69:=by
 have:=aB h;omega
def Fj{f:FuncId}{k:Nat}{x:Fo}(b:∀(args:Array Ak) (w:A2),(callFunc f args).run Ax w= .ok (.enter f args) w)(d:CN E f #[pV E] i x k)(h:(E.tk k).k≠46)(c:k<E.n):CR E 181 #[pV E,.func (.func f) #[pV E] #[]] i x k:=by
 have a:=adF b d (Ls.stop h c);rw[Fo.app_nil]at a;exact a
def ajh(y:∀q,(E.tk q).k<=78){t:uE}{R:Fo}(h:P E.tk E.n t i R j):PI E t i R j:=by
 induction h with
 |upre a b d c=>
  have:=d.pos;simp only[bH]at this;rcases al3 a with h|h|h|h
  .rw[h];exact wE (by constructor) h b (je (.pre (by decide) h b c (by omega) (by omega)))
  .rw[h];exact wE (by constructor) h b (je (.pre (by decide) h b c (by omega) (by omega)))
  .rw[h];exact wE (by constructor) h b (je (.pre (by decide) h b c (by omega) (by omega)))
  .rw[h];exact wE (by constructor) h b (je (.pre (by decide) h b c (by omega) (by omega)))
 |uint a b=>exact as1 b a
 |uflt a b=>exact wE (by constructor) a (by omega) (aiL b (by decide) (by decide) a)
 |ustr a b=>exact wE (by constructor) a (by omega) (aiL b (by decide) (by decide) a)
 |unil a b=>exact wE (by constructor) a (by omega) (je (.leaf (by decide) (by decide) a b))
 |utru a b=>exact wE (by constructor) a (by omega) (je (.leaf (by decide) (by decide) a b))
 |ufls a b=>exact wE (by constructor) a (by omega) (je (.leaf (by decide) (by decide) a b))
 |urst a b=>exact wE (by constructor) a (by omega) (je (.leaf (by decide) (by decide) a b))
 |@ufn i j R a b d c=>exact je (.ufn a b (by have q:CN E 183 #[pV E,Ck (qh (E.tk i).k (E.tk i))] (i+1) R j:=c;rw[a]at q;exact q))
 |utab a b d f g c=>obtain⟨o,c⟩:=c;exact wE (by constructor) a b (as2 a b c f g)
 |ubas a b d c=>
  rcases a with h|h
  .exact wE (by constructor) h b c
  .exact wE (by constructor) h b c
 |ex a b d f m p=>obtain⟨o,c⟩:=p;exact apo a b y m c
 |mstop a b=>exact⟨0,.stop a b⟩
 |mgo a b d f g p w=>obtain⟨o,c⟩:=w;have:=f.pos;simp only[bH]at this;exact⟨o+1,.go a b d p (by omega) (by omega) c⟩
 |bname a b d c=>obtain⟨o,c⟩:=c;have:=d.pos;simp only[bH]at this;exact am4 a b (.inl ⟨rfl,aiL (by omega) (by decide) (by decide) a⟩) c
 |bopen a b d f g l m s=>obtain⟨o,c⟩:=s;have:=d.pos;have:=l.pos;simp only[bH]at *;exact am4 a b (.inr ⟨rfl,arA a b (je (.expr m)) f (by omega) (by omega)⟩) c
 |pstop a b=>exact⟨0,.stop a b⟩
 |pdot a b d f c=>obtain⟨o,c⟩:=c;have:=f.pos;exact⟨o+1,.dot a b (by omega) c⟩
 |psq a b d f g l m s=>obtain⟨o,c⟩:=s;have:=l.pos;exact⟨o+1,.sq a b (je (.expr m)) f (by omega) c⟩
 |pcall0 a b d f c=>obtain⟨o,c⟩:=c;have:=f.pos;exact⟨o+1,.call0 a b (by omega) c⟩
 |pcall a b d f g l r p u=>obtain⟨o,c⟩:=u;have:=r.pos;exact⟨o+1,.call a b d p g (by omega) c⟩
 |es a b A B=>obtain⟨o,c⟩:=B;exact adF cfE (je (.expr A)) c
 |estop a b=>exact⟨0,.stop a b⟩
 |ego a b d f m p=>obtain⟨o,c⟩:=p;exact⟨o+1,.go a b (je (.expr m)) c⟩
 |bstop a b=>exact⟨0,.stop a b⟩
 |bgo a b d f m p=>obtain⟨o,c⟩:=p;exact⟨o+1,.go a b m c⟩
 |body a b d f c=>have:=d.pos;have:=f.pos;simp only[bH]at *;exact arJ rfl a (by omega) d c (by omega) (by omega)
 |block a b d f g c=>obtain⟨o,c⟩:=c;exact je (.blk a b (aiB (.inl f) c) f g)
 |sstop a b=>exact⟨0,.stop b⟩
 |ssep a b d c=>obtain⟨o,c⟩:=c;exact⟨o+1,.sep a b c⟩
 |sgo a b d f g l w s=>obtain⟨o,c⟩:=s;exact⟨o+1,.go a b d f w c⟩
 |nstop a b=>exact⟨0,.stop a b⟩
 |ncom a b d f g l m s=>obtain⟨o,c⟩:=s;exact⟨o+1,.com a b m f g c⟩
 |nlast a b d f g l m s=>obtain⟨o,c⟩:=s;exact⟨o+1,.last a b m f g c⟩
 |item a b d f g c=>have:=g.pos;simp only[bH]at this;exact je (.item a b d rfl f (je (.expr c)) (by omega) (by omega))
 |pair a b d f g l r m u=>have:=d.pos;have:=r.pos;simp only[bH]at *;exact je (.pair a b (je (.expr m)) f g l (je (.expr u)) (by omega) (by omega))
 |named a b d f g c=>have:=g.pos;simp only[bH]at this;exact je (.named a b d f (je (.expr c)) (by omega) (by omega))
 |belif a b d f g l r m p u=>have:=d.pos;have:=f.pos;have:=r.pos;simp only[bH]at *;exact je (.if1 a rfl b (je (.expr m)) p l g u (by omega) (by omega))
 |belse a b d f g l r m p u=>have:=d.pos;have:=f.pos;have:=r.pos;simp only[bH]at *;exact je (.if2 a rfl b (je (.expr m)) p l g u (by omega) (by omega))
 |bno a b d f g l r m p=>have:=d.pos;have:=f.pos;simp only[bH]at *;exact je (.if0 a rfl b (je (.expr m)) p (by omega) r g l)
 |tlet0 a b d f g=>have:=f.pos;exact wE (by constructor) a (by omega) (je (.let0 a (by omega) (xI d b f) (by omega) (by omega) g))
 |tlet a b d f g l c=>have:=f.pos;have:=l.pos;simp only[bH]at *;exact wE (by constructor) a (by omega) (je (.let1 a (by omega) (xI d b f) (by omega) g c (by omega) (by omega)))
 |tcon a b d f g c=>have:=g.pos;simp only[bH]at *;exact wE (by constructor) a (by omega) (je (.con a (by omega) (xI b (by omega) (.stop (by rw[d];decide) (by omega))) (by omega) d (je (.expr c)) (by omega) (by omega)))
 |@tfn i j x a b d f g c=>have:=g.pos;simp only[bH]at *;exact wE (by constructor) a (by omega) (je (.fn a (by omega) (xI b (by omega) (.stop (by rw[d];decide) (by omega))) (by omega) d (by have q:CN E 183 #[pV E,Ck (qh (E.tk (i+2)).k (E.tk (i+2)))] (i+2) x j:=c;rw[d]at q;exact q) (by omega) (by omega)))
 |tif a b d c=>exact wE (by constructor) a b c
 |twhile a b d f m p=>have:=d.pos;have:=f.pos;simp only[bH]at *;exact wE (by constructor) a b (je (.whl a b (je (.expr m)) p (by omega) (by omega)))
 |tfor a b d f g l r s u=>have:=f.pos;have:=l.pos;have:=r.pos;simp only[bH]at *;exact wE (by constructor) a (by omega) (je (.for_ (by decide) a (by omega) (xI d b f) (by omega) g s u (by omega) (by omega)))
 |teach a b d f g l r v z s F=>have:=f.pos;have:=l.pos;have:=z.pos;simp only[bH]at *;exact wE (by constructor) a (by omega) (je (.for_ (by decide) a (by omega) (xI d b f) (by omega) g (Fj cfE (je (.expr s)) (by rw[r];decide) v) F (by omega) (by omega)))
 |tbreak a b=>exact wE (by constructor) a (by omega) (je (.leaf (by decide) (by decide) a b))
 |tnext a b=>exact wE (by constructor) a (by omega) (je (.leaf (by decide) (by decide) a b))
 |tret0 a b d=>exact wE (by constructor) a (by omega) (je (.ret0 a b (be d)))
 |tret a b d f c=>have:=f.pos;simp only[bH]at *;exact wE (by constructor) a (by omega) (je (.ret1 a b (az λe=>by rcases e with e|e|e<;>(rw[e]at d;revert d;decide)) c (by omega) (by omega)))
 |ttry a b d f g l r v m C=>have:=d.pos;have:=r.pos;have:=v.pos;simp only[bH]at *;exact wE (by constructor) a b (je (.try_ a b m f (by omega) (xI l g r) C (by omega) (by omega)))
 |tthrow a b d c=>have:=d.pos;simp only[bH]at *;exact wE (by constructor) a b (je (.wthE a b (je (.expr c)) (by omega) (by omega)))
 |tdefer a b d c=>have:=d.pos;simp only[bH]at *;exact wE (by constructor) a b (je (.wthB a b c (by omega) (by omega)))
 |tblock a b d c=>exact wE (by constructor) a b c
 |tdo a b d f g l c=>
  have:=d.pos;simp only[bH]at *;rcases a with h|h
  .exact wE (by constructor) h b (je (.do_ (.inl rfl) h b (Fj cfB c f l) g l (by omega)))
  .exact wE (by constructor) h b (je (.do_ (.inr rfl) h b (Fj cfB c f l) g l (by omega)))
 |tset a b d f g l r m p u=>
  obtain⟨o,p⟩:=p;have:=d.pos;have:=f.pos;have:=r.pos;simp only[bH]at *;rcases a with h|h
  .exact wE (by constructor) h b (setP (.inl rfl) h b (adF cfB m p) g l u (by omega) (by omega))
  .exact wE (by constructor) h b (setP (.inr rfl) h b (adF cfB m p) g l u (by omega) (by omega))
def as6(b c a d e f:Ak)(w:A2):(Instr.field 49 (Ck #[b,c,a,d,e,f]) 2).run Ax w= .ok a w:=by kernel_rfl
def arK{R:Fo}(hS:CR E 31 #[pV E] i R j)(g:j<E.n):CN E 14 #[pV E] i (one ⟨1,0,(E.tk j).t,1,0,0,z0,[],[]⟩ R) j:=by
 intro s f h;have b:=Sw.start f;have m:=as6;simp only[bz]at h;go_in;go_wp21
 refine(adE b hS).mono ?_;rintro e u ⟨k,q,l,r,rfl,a,o⟩;go_wp21
 refine(aiA a.pp g).mono ?_;rintro e v ⟨⟨p,_,rfl⟩,d⟩;have c:=sB a d;go_wp21
 go_ret;exact⟨_,rfl,L8 c ⟨1,0,(E.tk j).t,1,0,0,z0,[],[]⟩ rfl rfl rfl rfl⟩
structure Fm (lo:Nat) (lb:Option Nat) (w w':A2):Prop where
 bl:Ce lo w w'
 at_:∀k cs t fr,w.heap[k]?=O (.cells cs t fr)->lb≠O k->w'.heap[k]?=O (.cells cs t fr)\/∃c u,t=xx c/\w'.heap[k]?=O (.cells (cs.setIfInBounds 4 (.int .i64 u)) t fr)
def as7(cs:Array Ak)(u v:Ak):(cs.setIfInBounds 4 u).setIfInBounds 4 v=cs.setIfInBounds 4 v:=by simp
def Fm.trans{lo:Nat}{lb c:Option Nat}{x m z:A2}(h:Fm lo lb x m)(k:Fm lo c m z)(p:∀g,c=O g->lb=O g\/x.heap.size<=g):Fm lo lb x z:=by
 refine⟨h.bl.trans k.bl,λa n q o f i=>?_⟩;have j:c≠O a:=λe=>by
  rcases p a e with e|e
  .exact i e
  .have:=ai f;omega
 rcases h.at_ a n q o f i with g|⟨d,r,l,g⟩
 .exact k.at_ a _ _ _ g j
 .rcases k.at_ a _ _ _ g j with b|⟨t,s,u,b⟩
  .exact .inr ⟨d,r,l,b⟩
  .rw[as7]at b;exact .inr ⟨d,s,l,b⟩
def Fm.of_below{lo:Nat}{c:A2}(b:cg w c)(d:lo<=w.heap.size)(lb:Option Nat):Fm lo lb w c:=⟨b.mono d,λg e h f a _=> .inl ((b.block _ (ai a)).trans a)⟩
def im{c:Nat}:xx c≠9/\xx c≠55/\xx c≠3/\xx c≠34:=by
 match c with
 |0=>decide
 |1=>decide
 |2=>decide
 |3=>decide
 |4=>decide
 |5=>decide
 |n+6=>exact⟨show 94≠9 by decide,show 94≠55 by decide,show 94≠3 by decide,show 94≠34 by decide⟩
section
variable {lo : Nat} {lb : Option Nat} {w w' : World}
def Fm.blk(h:Fm lo lb w w'){k:Nat}{cs:Array Ak}{t:B3}(d:w.heap[k]?=O (Ad cs t fr))(e:lb≠O k)(ht:∀c,t≠xx c):w'.heap[k]?=O (Ad cs t fr):=by
 rcases h.at_ k cs t fr d e with a|⟨c,f,b,_⟩
 .exact a
 .exact absurd b (ht c)
def Fm.row(h:Fm lo lb w w'){b e size:Nat}(o:w.ownsRow b e size v n xs)(l:∀g,v.ownBlock=O g->lb≠O g)(ht:∀c,e≠xx c):w'.ownsRow b e size v n xs:=by
 obtain⟨i,a⟩:=o;refine⟨i,?_⟩;rcases a with a|⟨g,d,f,rfl,k,j,m⟩
 .exact .inl a
 .exact .inr ⟨g,d,f,rfl,k,h.blk j (l g rfl) ht,m⟩
def Fm.box(h:Fm lo lb w w'){vk:Ak}{d:Int}(c:il w b N vn d vk)(e:lb≠O b):∃f,il w' b N vn f vk:=by
 unfold il at c;rcases h.at_ b _ _ _ c e with a|⟨i,g,_,a⟩
 .exact⟨d,a⟩
 .exact⟨g,a⟩
def Fm.nodes(h:Fm lo lb w w')(l:∀g,lb=O g->∃cs t fr,w.heap[g]?=O (Ad cs t fr)/\t≠9/\t≠55/\∀c,t≠xx c):∀(R:Fo)(j:List Ak)(f:List Nat){d:Nat}{a:Option Nat},tH w d a R j f->tH w' d a R j f
 | .nil,j,f,d,a,q=>q
 | .cons N k r,j,f,d,a,⟨b,ak,vn,vk,kv,vs',bk,br,e,⟨u,v,n,x⟩,G,k1,I,J⟩=>by
  have nb:∀{g:Nat}{cs:Array Ak}{t:B3}{fr:Nat×Nat},w.heap[g]?=O (Ad cs t fr)->(t=9\/t=55\/∃c,t=xx c)->lb≠O g:=λ{g cs t fr} i ht e=>by
   obtain⟨L,al,af,q,A,B,C⟩:=l _ e;rw[i]at q;simp only[fw,lF]at q;obtain⟨_,rfl,_⟩:=q;rcases ht with ht|ht|⟨c,ht⟩
   .exact A ht
   .exact B ht
   .exact C c ht
  have o:∀{t:B3}{p:Ak}{s:List Ak},Rv w d a t p s->(t=9\/t=55)->(∀c,t≠xx c)->Rv w' d a t p s:=λm ht F=>⟨h.row m.1 (λg i=>by
   rcases m.1.2 with⟨rfl,_⟩|⟨z,K,ad,rfl,_,E,_⟩
   .simp[A1]at i
   .obtain rfl:z=g:=by simpa [A1] using i
    exact nb E (by rcases ht with ht|ht;exact .inl ht;exact .inr (.inl ht))) F,m.2⟩
  obtain⟨H,y⟩:=h.box n (nb n (.inr (.inr ⟨_,rfl⟩)));exact⟨b,H,vn,vk,kv,vs',bk,br,e,⟨u,v,y,x⟩,o G (.inl rfl) (λc=>im.1.symm),o k1 (.inr rfl) (λc=>im.2.1.symm),Fm.nodes h l k kv bk I,Fm.nodes h l r vs' br J⟩
def Fm.num{vk:Ak}{g:Int}(a:il w b N vn g vk)(h:lo<=b)(u:Int)(lb:Option Nat):Fm lo lb w (w.setCell ⟨b,4,Y⟩ (Z V u))/\il (w.setCell ⟨b,4,Y⟩ (Z V u)) b N vn u vk:=by
 unfold il at a⊢;have d:(w.setCell ⟨b,4,Y⟩ (Z V u)).heap[b]?=O (Ad (([Z V N.k,Z V N.f,Z V N.t,Z V N.l,Z V g,vk]++exT N vn (fJ N.k)).toArray.setIfInBounds 4 (Z V u)) (xx (fJ N.k)) (0,0)):=bp _ b 4 _ _ _ a;refine⟨⟨(ah _ w).setCell h _,λi j m k c _=>?_⟩,d⟩;by_cases e:i=b
 .subst e;rw[a]at c;cases c;exact .inr ⟨_,u,rfl,d⟩
 .exact .inl ((ay _ _ _ _ e).trans c)
end
def Fr(s:Nat)(v:Ak):Prop:=∀g,v.ownBlock=O g->s<=g
def Fr.le{s t:Nat}(h:Fr s v)(ht:t<=s):Fr t v:=λa b=>bG ht (h a b)
def LP(lo:Nat)(N:Nd)(ks:Fo)(w:A2)(v:Ak)(f:List Nat)(L:List Mb)(d:Ak)(e:Ending)(c:A2):Prop:=∃a M,e= E1 a/\Lw c lo a (L++M)/\M.map Mb.N=(one N ks).flat L.length/\(∀y,(M.flatMap λx=>x.vn.ownBlock.toList).count y<=f.count y)/\((∀x∈M,Fr w.heap.size x.vk)/\(M.flatMap λx=>x.vk.ownBlock.toList).Nodup)/\Fm lo d.ownBlock w c/\(∀g,a.ownBlock=O g->d.ownBlock=O g\/w.heap.size<=g)/\∃b t,v= G2 t (A3 (O ⟨b,0,Y⟩))/\c.cell? ⟨b,4,Y⟩=O (Z V ((L.length+ks.sz:Nat):Int))
def LC(lo:Nat)(N:Nd)(ks:Fo):Prop:=∀(w:A2)(v:Ak)(a:List Nat)(L:List Mb)(lv:Ak),tH w lo Y (one N ks) [v] a->Lw w lo lv L->lo<=w.heap.size->L.length+(one N ks).sz<=50000000->
 E3 Ax 13 #[v,lv] w (LP lo N ks w v a L lv)
def LCs(lo:Nat):Fo->Prop
 | .nil=>True
 | .cons N k r=>LC lo N k/\LCs lo r
def kB(M:List Mb):List Nat:=M.flatMap λx=>x.vk.ownBlock.toList
def nB'(M:List Mb):List Nat:=M.flatMap λx=>x.vn.ownBlock.toList
structure Lj (lo:Nat) (w wr:A2) (N:Nd) (b rb:Nat) (vn vk lv lv1:Ak) (L M:List Mb) (ks D R':Fo) (kv us vs':List Ak) (bk bd br:List Nat) (tp:List Int) (ac:Option Addr) (nc cc:Nat):Prop where
 e1:D.app R'=ks
 e2:us++vs'=kv
 ln:us.length=D.len
 lc:LCs lo R'
 nr:tH wr lo Y R' vs' br
 pb:(bd++br).Perm bk
 lw:Lw wr lo lv1 (L++M)
 mf:M.map Mb.N=D.flat L.length
 mp:∀y,(nB' M).count y<=bd.count y
 mr:∀x∈M,Fr w.heap.size x.vk
 fm:Fm lo lv.ownBlock w wr
 lb:∀g,lv1.ownBlock=O g->lv.ownBlock=O g\/w.heap.size<=g
 rb:w.heap.size<=rb/\lv1.ownBlock≠O rb/\wr.heap[rb]?=O (.cells (wA N (uo vn (fJ N.k)) (.slice ac nc cc)) 34 (0,0))
 kr:wr.ownsRow w.heap.size 3 1 (.slice ac nc cc) nc (tp.map (H4 .i64))
 kd:(kB M++(Bk ac nc cc).ownBlock.toList).Nodup
 bx:∃num,il wr b N vn num vk
 vr:wr.ownsRow lo 55 1 vk kv.length kv
 lq:∀x∈L,∀g,x.vk.ownBlock=O g->g<w.heap.size
 nw:wr.ownsRow lo 9 1 vn (N.nm.map Bn).length (N.nm.map Bn)
section
variable {lo : Nat} {w wr w4 : World} {N N' : Nd} {b rb : Nat} {vn vk lv lv1 lv2 v : Value} {L M M2 : List Mb} {ks D k' r : Fo} {kv us vs' : List Value} {bk bd br : List Nat} {tp : List Int} {ac : Option Addr} {nc cc : Nat}
def apw(M a:List Mb):kB (M++a)=kB M++kB a:=vC
def apx(M a:List Mb):nB' (M++a)=nB' M++nB' a:=vC
def qd{w:A2}{e size:Nat}{v:Ak}(o:w.ownsRow base e size v n xs)(a:v.ownBlock=O g):∃cs fr,w.heap[g]?=O (Ad cs e fr):=by
 rcases o.2 with⟨rfl,_⟩|⟨b,d,f,rfl,_,c,_⟩
 .simp[A1]at a
 .obtain rfl:b=g:=by simpa [A1] using a
  exact⟨_,_,c⟩
def Lj.kid(h:Lj lo w wr N b rb vn vk lv lv1 L M ks D (.cons N' k' r) kv us (v::vs') bk bd br tp ac nc cc)(k:Fm lo lv1.ownBlock wr w4)(af:Lw w4 lo lv2 ((L++M)++M2))(ak:M2.map Mb.N=(one N' k').flat (L++M).length){l:List Nat}(J:∃d,br=l++d/\tH wr lo Y r vs' d)(an:∀y,(nB' M2).count y<=l.count y)(q:∀x∈M2,Fr wr.heap.size x.vk)(F:(kB M2).Nodup)(p:∀g,lv2.ownBlock=O g->lv1.ownBlock=O g\/wr.heap.size<=g):∃d,Lj lo w w4 N b rb vn vk lv lv2 L (M++M2) ks (D.app (one N' k')) r kv (us++[v]) vs' bk (bd++l) d tp ac nc cc:=by
 obtain⟨d,rfl,al⟩:=J;have ad:=h.fm.bl.size;have t:∀g,lv1.ownBlock=O g->∃i j,wr.heap[g]?=O (Ad i 34 j):=λg a=>qd h.lw.row a;have z:∀{g:Nat}{i:Array Ak}{B:B3}{j:Nat×Nat},wr.heap[g]?=O (Ad i B j)->B≠34->lv1.ownBlock≠O g:=λa K e=>by
  obtain⟨ao,ap,c⟩:=t _ e;rw[a]at c;simp only[fw,lF]at c;exact K c.2.1
 have o:∀{u e size n:Nat}{C:Ak}{E:List Ak},wr.ownsRow u e size C n E->e≠34->(∀f,e≠xx f)->w4.ownsRow u e size C n E:=λA G H=>k.row A (λg a=>by obtain⟨i,j,c⟩:=qd A a;exact z c G) H;have I:(L++M).length=L.length+D.sz:=by
  have e:=congrArg List.length h.mf;rw[bq,Fo.flat_len]at e;rw[aG,e]
 have⟨av,s⟩:=h.bx;have ar:=ai h.rb.2.2;refine⟨d,?_,?_,?_,h.lc.2,k.nodes (λg a=>by obtain⟨i,j,c⟩:=t g a;exact⟨i,_,j,c,by decide,by decide,λf=>im.2.2.2.symm⟩) _ _ _ al,?_,by rw[<-bC];exact af,?_,?_,?_,h.fm.trans k h.lb,?_,⟨h.rb.1,?_,k.blk h.rb.2.2 h.rb.2.1 (λf=>im.2.2.2.symm)⟩,o h.kr (by decide) (λf=>im.2.2.1.symm),?_,k.box s (z s im.2.2.2),o h.vr (by decide) (λf=>im.2.1.symm),h.lq,o h.nw (by decide) (λf=>im.1.symm)⟩
 .rw[Fo.app_app];exact h.e1
 .rw[bC];exact h.e2
 .rw[aG,Fo.len_app,h.ln];rfl
 .rw[bC];exact h.pb
 .rw[eJ,h.mf,ak,Fo.flat_app,I]
 .intro y;have aK:=h.mp y;have a0:=an y;rw[apx,Hh,Hh];omega
 .intro x hx;rcases List.mem_append.1 hx with hx|hx
  .exact h.mr x hx
  .exact(q x hx).le ad
 .intro g a;rcases p g a with e|e
  .exact h.lb g e
  .exact .inr (by omega)
 .intro e;rcases p rb e with e|e
  .exact h.rb.2.1 e
  .omega
 .rw[apw];refine nd3 (n:=wr.heap.size) h.kd F (λx hx=>?_) (λx hx=>?_)
  .rcases List.mem_append.1 hx with hx|hx
   .obtain⟨y,m,hx⟩:=List.mem_flatMap.1 hx;exact((h.lw.each y (yi _ m)).2.lt x (by simpa using hx)).2
   .exact(h.kr.lt x (by simpa using hx)).2
  .obtain⟨y,m,hx⟩:=List.mem_flatMap.1 hx;exact q y m x (by simpa using hx)
def Lj.put{ad:Fo}{z:Int}{s:Nat}{m:A2}(h:Lj lo w wr N b rb vn vk lv lv1 L M ks D ad kv us vs' bk bd br tp ac nc cc)(an:m.ownsRow w.heap.size 3 1 (U (O ⟨g,0,Y⟩) (nc+1) s) (nc+1) ((tp++[z]).map (H4 V)))(n:(wr.alloc o).grownBy m (Bk ac nc cc).ownBlock)(ap:(Bk ac nc cc).ownBlock=O g\/g=(wr.alloc o).heap.size)(C:lo<=w.heap.size):Lj lo w (m.setCell ⟨rb,8,Y⟩ (U (O ⟨g,0,Y⟩) (nc+1) s)) N b rb vn vk lv lv1 L M ks D ad kv us vs' bk bd br (tp++[z]) (O ⟨g,0,Y⟩) (nc+1) s:=by
 have al:=h.fm.bl.size;have av:=(dC wr o).size;have H:∀c,(Bk ac nc cc).ownBlock=O c->w.heap.size<=c:=λc a=>(h.kr.lt c a).1;have x:Fm lo (Bk ac nc cc).ownBlock wr m:=⟨((dC wr o).mono (bG C al)).trans ((ah lo (wr.alloc o)).grown n (bG C (bG al av)) (λc a=>bG C (H c a))),λc j t k a F=> .inl ((n.block c (by have:=ai a;omega) (λe=>F e.symm)).trans (((dC wr o).block c (ai a)).trans a))⟩;have E:∀{c:Nat}{j:Array Ak}{t:B3}{k:Nat×Nat},wr.heap[c]?=O (Ad j t k)->t≠3->(Bk ac nc cc).ownBlock≠O c:=λa G e=>gC h.kr a G e;have I:=x.blk h.rb.2.2 (E h.rb.2.2 (by decide)) (λi=>im.2.2.2.symm);have y:Fm lo (O rb) m (m.setCell ⟨rb,8,Y⟩ (U (O ⟨g,0,Y⟩) (nc+1) s)):=⟨(ah lo m).setCell (show lo<=(⟨rb,8,Y⟩:Addr).block from bG C h.rb.1) _,λc j t k a F=> .inl ((ay _ _ _ _ (λe=>F (by rw[e]))).trans a)⟩;have ao:∀{c:Nat}{j:Array Ak}{t:B3}{k:Nat×Nat},m.heap[c]?=O (Ad j t k)->t≠34->O rb≠O c:=λa G e=>by
  cases e;rw[I]at a;simp only[fw,lF]at a;exact G a.2.1.symm
 have J:∀{p e size q:Nat}{l:Ak}{r:List Ak},wr.ownsRow p e size l q r->(∀g,l.ownBlock=O g->(Bk ac nc cc).ownBlock≠O g)->(∀g,l.ownBlock=O g->g≠rb)->(∀i,e≠xx i)->(m.setCell ⟨rb,8,Y⟩ (U (O ⟨g,0,Y⟩) (nc+1) s)).ownsRow p e size l q r:=λf u A B=>y.row (x.row f u B) (λg n e=>A g n (by cases e;rfl)) B;have K:∀{p e size q:Nat}{l:Ak}{r:List Ak},wr.ownsRow p e size l q r->e≠3->e≠34->(∀i,e≠xx i)->(m.setCell ⟨rb,8,Y⟩ (U (O ⟨g,0,Y⟩) (nc+1) s)).ownsRow p e size l q r:=λf u A B=>J f (λg n=>by obtain⟨j,k,d⟩:=qd f n;exact E d u) (λg n e=>by obtain⟨j,k,d⟩:=qd f n;rw[e,h.rb.2.2]at d;simp only[fw,lF]at d;exact A d.2.1.symm) B;have a0:∀{p q:Nat}{l:Ak}{r:List Ak},wr.ownsRow p 3 1 l q r->(∀g,l.ownBlock=O g->(Bk ac nc cc).ownBlock≠O g)->(m.setCell ⟨rb,8,Y⟩ (U (O ⟨g,0,Y⟩) (nc+1) s)).ownsRow p 3 1 l q r:=λf u=>J f u (λg n e=>by obtain⟨j,k,d⟩:=qd f n;rw[e,h.rb.2.2]at d;simp only[fw,lF]at d;exact absurd d.2.1 (by decide)) (λi=>im.2.2.1.symm);have⟨a3,af⟩:=h.bx;have⟨a4,ak⟩:=x.box af (E af im.2.2.1);refine⟨h.e1,h.e2,h.ln,h.lc,y.nodes (λc a=>by cases a;exact⟨_,_,_,I,by decide,by decide,λi=>im.2.2.2.symm⟩) _ _ _ (x.nodes (λc a=>by obtain⟨j,k,d⟩:=qd h.kr a;exact⟨_,_,_,d,by decide,by decide,λi=>im.2.2.1.symm⟩) _ _ _ h.nr),h.pb,⟨J h.lw.row (λc a=>by obtain⟨j,k,d⟩:=qd h.lw.row a;exact E d (by decide)) (λc a e=>h.rb.2.1 (by rw[<-e];exact a)) (λi=>im.2.2.2.symm),λv hx=>⟨K (h.lw.each v hx).1 (by decide) (by decide) (λi=>im.1.symm),a0 (h.lw.each v hx).2 (λc a e=>?_)⟩⟩,h.mf,h.mp,h.mr,(h.fm.trans x (λc a=> .inr (H c a))).trans y (λc a=> .inr (by cases a;exact h.rb.1)),h.lb,⟨h.rb.1,h.rb.2.1,bp _ rb 8 _ _ _ I⟩,?_,?_,y.box ak (ao ak im.2.2.2),K h.vr (by decide) (by decide) (λi=>im.2.1.symm),h.lq,K h.nw (by decide) (by decide) (λi=>im.1.symm)⟩
 .rcases List.mem_append.1 hx with hx|hx
  .have:=h.lq v hx c a;have:=H c e;omega
  .have f:=List.nodup_append.1 h.kd;exact f.2.2 c (List.mem_flatMap.2 ⟨v,hx,by simp[a]⟩) c (by simp[e]) rfl
 .exact y.row an (λc a=>by obtain⟨j,k,d⟩:=qd an a;exact ao d (by decide)) (λi=>im.2.2.1.symm)
 .rcases ap with e|e
  .have f:=h.kd;rw[e]at f;exact f
  .have f:=(List.nodup_append.1 h.kd).1;rw[qH];refine⟨f,Jj _,λv hx a2 aK=>?_⟩;have⟨a1,ar,hx⟩:=List.mem_flatMap.1 hx;have u:=((h.lw.each a1 (yi _ ar)).2.lt v (by simpa using hx)).2;have A:a2=g:=by simpa [A1] using aK
   omega
def as8:∀(c:Nat),oJ N c=N->w.ownsRow lo 9 1 vn (N.nm.map Bn).length (N.nm.map Bn)->w.ownsRow lo 9 1 (uo vn c) N.nm.length (N.nm.map Bn)/\∀y,(uo vn c).ownBlock.toList.count y<=vn.ownBlock.toList.count y
 |0,_,o=>⟨by rw[bq]at o;exact o,λy=>ag _⟩
 |5,_,o=>⟨by rw[bq]at o;exact o,λy=>ag _⟩
 |1,e,_|2,e,_|3,e,_|4,e,_|n+6,e,_=>by
  have h:[]=N.nm:=congrArg Nd.nm e;rw[<-h];exact⟨fs _ _ _ _,λy=>by simp[uo,A1]⟩
def Lj.fin{u:Int}{m:Nat}{e:A2}(h:Lj lo w wr N b rb vn vk lv lv1 L M ks ks .nil kv us [] bk bd [] (ks.tops L.length) ac nc cc)(ad:lo<=b)(K:oJ N (fJ N.k)=N)(al:lo<=w.heap.size)(ao:nc=ks.len)(ar:u=((L.length+ks.sz:Nat):Int))(av:e.ownsRow lo 34 9 (U (O ⟨g,0,Y⟩) ((L++M).length+1) m) ((L++M).length+1) (oE ((L++M)++[⟨{N with ks:=ks.tops L.length},uo vn (fJ N.k),U ac nc cc⟩])))(d:((wr.setCell ⟨b,4,Y⟩ (Z V u)).alloc o).grownBy e lv1.ownBlock)(A:lv1.ownBlock=O g\/g=((wr.setCell ⟨b,4,Y⟩ (Z V u)).alloc o).heap.size)(t:B3):
  ∃M',Lw e lo (U (O ⟨g,0,Y⟩) ((L++M).length+1) m) (L++M')/\M'.map Mb.N=(one N ks).flat L.length/\(∀y,(M'.flatMap λx=>x.vn.ownBlock.toList).count y<=(vn.ownBlock.toList++(bk++[])).count y)/\((∀x∈M',Fr w.heap.size x.vk)/\(M'.flatMap λx=>x.vk.ownBlock.toList).Nodup)/\Fm lo lv.ownBlock w e/\(∀k,(Bk (O ⟨g,0,Y⟩) ((L++M).length+1) m).ownBlock=O k->lv.ownBlock=O k\/w.heap.size<=k)/\∃v a3,Value.iface t (A3 (O ⟨b,0,Y⟩))= G2 a3 (A3 (O ⟨v,0,Y⟩))/\e.cell? ⟨v,4,Y⟩=O (Z V ((L.length+ks.sz:Nat):Int)):=by
 have a6:=h.fm.bl.size;have⟨a8,af⟩:=h.bx;obtain⟨i,j⟩:=Fm.num (lo:=lo) af ad u Y;generalize a7:wr.setCell ⟨b,4,Y⟩ (Z V u)=w5 at i j d A;have a4:=(dC w5 o).size;have a5:=i.bl.size;have H:=i.row h.lw.row (λ_ _=>by simp) (λf=>im.2.2.2.symm);have E:∀{k:Nat}{n:Array Ak}{t:B3}{p:Nat×Nat},w5.heap[k]?=O (Ad n t p)->t≠34->lv1.ownBlock≠O k:=λc ap a=>gC H c ap a;have ak:∀k,lv1.ownBlock=O k->lo<=k:=λk c=>(h.lw.row.lt k c).1;have s:Fm lo lv1.ownBlock w5 e:=⟨((dC w5 o).mono (by omega)).trans ((ah lo (w5.alloc o)).grown d (by omega) ak),λk n t p c an=> .inl ((d.block k (by have:=ai c;omega) (λa=>an a.symm)).trans (((dC w5 o).block k (ai c)).trans c))⟩;have l:∀{B a size C:Nat}{u:Ak}{G:List Ak},wr.ownsRow B a size u C G->a≠34->(∀f,a≠xx f)->e.ownsRow B a size u C G:=λq J z=>by
  have F:=i.row q (λ_ _=>by simp) z;exact s.row F (λg d=>by obtain⟨n,p,aK⟩:=qd F d;exact E aK J) z
 have I:=(d.block b (by have:=ai j;omega) (λa=>E j im.2.2.2 a.symm)).trans (((dC w5 o).block b (ai j)).trans j);have⟨a1,a2⟩:=as8 (fJ N.k) K (l h.nw (by decide) (λf=>im.1.symm));refine⟨M++[⟨{N with ks:=ks.tops L.length},uo vn (fJ N.k),U ac nc cc⟩],⟨?_,λx hx=>?_⟩,?_,λy=>?_,⟨λx hx=>?_,?_⟩,(h.fm.trans (i:Fm lo Y wr w5) (λk c=>by cases c)).trans s h.lb,λk c=>?_,b,t,rfl,?_⟩
 .rw[<-bC];have a:∀(r:List Mb)(x:Mb),(r++[x]).length=r.length+1:=λr x=>by simp
  rw[a (L++M)];exact av
 .rw[<-bC]at hx;rcases List.mem_append.1 hx with hx|hx
  .exact⟨l (h.lw.each x hx).1 (by decide) (λf=>im.1.symm),l (h.lw.each x hx).2 (by decide) (λf=>im.2.2.1.symm)⟩
  .obtain rfl:=List.mem_singleton.1 hx;refine⟨a1,?_⟩;have q:=zL (l h.kr (by decide) (λf=>im.2.2.1.symm)) al;show e.ownsRow lo 3 1 _ (ks.tops L.length).length _;rw[Fo.tops_len,<-ao];exact q
 .rw[eJ,h.mf,uD];rfl
 .have a9:=h.mp y;have a0:=h.pb.count_eq y;have ba:=a2 y;have a:(List.flatMap (λx=>x.vn.ownBlock.toList) (M++[(⟨{N with ks:=ks.tops L.length},uo vn (fJ N.k),U ac nc cc⟩:Mb)]))=nB' M++((uo vn (fJ N.k)).ownBlock.toList++[]):=vC;rw[a];simp only[dk,Hh]at a0⊢;omega
 .rcases List.mem_append.1 hx with hx|hx
  .exact h.mr x hx
  .obtain rfl:=List.mem_singleton.1 hx;exact λg d=>(h.kr.lt g d).1
 .have q:=h.kd;have a:(List.flatMap (λx=>x.vk.ownBlock.toList) (M++[(⟨{N with ks:=ks.tops L.length},uo vn (fJ N.k),U ac nc cc⟩:Mb)]))=kB M++((Bk ac nc cc).ownBlock.toList++[]):=vC;rw[a,dk];exact q
 .obtain rfl:g=k:=by simpa [A1] using c
  rcases A with q|q
  .exact h.lb g q
  .exact .inr (by omega)
 .rw[aj _ _ _ _ _ _ I,ar];rfl
end
def BD{lo:Nat}{ks:Fo}(fd:LCs lo ks):LC lo N ks:=by
 intro m v gt d hy cu K a4 cB;obtain⟨n,ea,hH,hG,a6,F,aK,bt,⟨et,bD⟩,⟨dd,gr,df,dg⟩,d9,d7,ec,gf⟩:=cu;obtain⟨rfl,rfl⟩:=gf;obtain rfl:=(gL et).1;obtain⟨bo,bA,rfl⟩:=di d9.1;obtain⟨bn,bw,rfl⟩:=di K.row;obtain⟨bj,cq,rfl⟩:=di d7.1;have ff:=De.len _ _ ⟨aK,ec⟩;have b6:=λm=>G7 (fJ N.k) n m;have f0:=λm=>gD n m;obtain⟨H,af,J,b7⟩:∃ep c ds,uo (U bo (N.nm.map Bn).length bA) (fJ N.k)= U ep c ds:=by unfold uo;split<;>exact⟨_,_,_,rfl⟩
 have a5:=G9 m n N _ _ ea ⟨_,_,_,rfl⟩ df;rw[dg,b7]at a5;unfold jI at a5;unfold gq at a5⊢;generalize hh:pI (fJ N.k)=gd at a5 b6⊢;have x:=am df;have⟨c,L⟩:=aC a6.length;have⟨E,a3⟩:=aC d.length;have hf:c<=50000000:=by have:=ks.len_le;rw[bz]at cB;omega
 rw[L]at x;rw[a3];go_in;go_wp2_with (go_at_call 299;refine fC (f0 _) ?_);refine a5.mono ?_;rintro e j ⟨rfl,I⟩;have g8:∀o,(j.alloc o).cell? ⟨n,5,Y⟩=O (U bj c cq):=λo=>by
  have a:=((dC j o).block _ (iB (ai x) I.size)).trans ((I.block _ (ai x)).trans x);rw[aj _ _ _ _ _ _ a];rfl
 have e9:=dC j (Ad (wA N (U H af J) (U Y 0 0)) 34);have s:=I.trans (e9.mono I.size);have eg:B7 (Lj lo m (j.alloc (Ad (wA N (U H af J) (U Y 0 0)) 34)) N n j.heap.size (U bo (N.nm.map Bn).length bA) (U bj c cq) (U bn E bw) (U bn E bw) d [] ks .nil ks a6 [] a6 aK [] aK [] Y 0 0):=by
  refine⟨rfl,rfl,rfl,fd,tH.mono (λfF eL e0 e3=>⟨s.block fF e3,eL,e0⟩) _ _ _ ec,List.Perm.refl _,?_,rfl,λhI=>ag _,λbf ad=>(by cases ad),Fm.of_below s a4 _,λg cy=> .inl cy,⟨I.size,λe=>?_,by rw[b7];exact aA j _⟩,fs _ _ _ _,by simp[kB,A1],⟨ea,(s.block _ (ai x)).trans x⟩,by have:=dA d7.1 s;rw[L]at this⊢;exact this,λbf ad g cy=>((K.each bf ad).2.lt g cy).2,dA d9.1 s⟩
  .rw[dk];exact⟨by have:=dA K.row s;rw[a3]at this⊢;exact this,λbf ad=>⟨dA (K.each bf ad).1 s,dA (K.each bf ad).2 s⟩⟩
  .have:=(K.row.lt _ (by rw[a3];exact e)).2;have:=I.size;omega
 go_wp2_with fail;go_loopw [1,18] (λgm da wr=>∃(a:Nat) (D ap:Fo) (a9 F:List Ak) (ce bt:List Nat) (f:List Mb) (cd:Option Addr) (w cf:Nat) (ac:Option Addr) (k:Nat),gm= U cd w cf/\da= Z V a/\a<=c/\a9.length=a/\B7 (Lj lo m wr N n j.heap.size (U bo (N.nm.map Bn).length bA) (U bj c cq) (U bn E bw) (U cd w cf) d f ks D ap a6 a9 F aK ce bt (D.tops E) ac a k)) (λ_ da _=>c-(F2 da).toNat)
 case atStart=>exact⟨0,.nil,ks,[],a6,[],aK,[],bn,E,bw,Y,0,rfl,rfl,aD _,rfl,eg⟩
 case round=>
  obtain⟨a,D,ap,a9,F,ce,bt,f,cd,w,cf,ac,k,rfl,rfl,hl,cF,b⟩:=hrel;by_cases ha:a<c
  .have fk:a9.length+F.length=c:=by rw[<-L,<-b.out.e2,aG]
   obtain⟨v,ao,rfl⟩:∃v ao,F=v::ao:=by
    cases F with
    |nil=>simp at fk;omega
    |cons v ao=>exact⟨v,ao,rfl⟩
   cases ap with
   |nil=>have:=b.nr.1;cases this
   |cons q B b9=>
    obtain⟨r,eb,ba,ee,d8,gn,a0,dq,⟨cs,ew⟩,ey,ez,eA,eB,eF⟩:=b.nr;obtain⟨rfl,rfl⟩:=gL cs;obtain⟨g,rfl⟩:∃g,bj=O ⟨g,0,Y⟩:=by
     have o:=b.vr;rw[L]at o;rcases bJ o with⟨g0,_⟩|⟨g,gz,cI⟩
     .omega
     .exact⟨g,(ace cI).1⟩
    have dx:wr.cell? ⟨g,a,Y⟩=O (gq q.k r):=by
     have:=b.vr.cells (g:=g) rfl a (gq q.k r) (by rw[<-b.out.e2,eD (by omega),cF,fx];rfl);have e8:(⟨g,0,Y⟩:Addr).add a=⟨g,a,Y⟩:=by unfold Addr.add;split<;>simp_all
     rw[e8]at this;exact this
    have e6:B7 (tH wr lo Y (one q B) [gq q.k r] (ba.ownBlock.toList++(a0++[]))):=⟨r,eb,ba,ee,d8,[],a0,[],⟨rfl,rfl⟩,ey,ez,eA,eB,rfl,rfl⟩;have e4:B7 (∃bv,bt=(ba.ownBlock.toList++(a0++[]))++bv/\tH wr lo Y b9 ao bv):=⟨dq,by rw[ew];simp,eF⟩;have fo:=λm=>G7 (fJ q.k) r m;have f3:=λm=>gD r m;have bE:(d++f).length=d.length+D.sz:=by
     have e:=congrArg List.length b.mf;rw[bq,Fo.flat_len]at e;rw[aG,e]
    have hr:D.sz+(B.sz+1+b9.sz)=ks.sz:=by have e:=congrArg Fo.sz b.e1;rw[Fo.sz_app]at e;exact e
    have ei:=am b.lc.1;have fn:=bG a4 b.fm.bl.size;have cv:=e6;unfold gq at dx cv;generalize hi:pI (fJ q.k)=ge at dx cv fo;have ho:(0:Int)<=(a:Int):=by omega
    have hp:(a:Int)<(c:Int):=by omega
    go_wp2_with fail;refine(ei wr _ _ (d++f) _ cv b.lw fn (by rw[bE,bz];rw[bz]at cB;omega)).mono ?_;rintro e p ⟨hz,dc,rfl,c9,f7,gb,⟨d0,es⟩,fb,dn,gs,hB,cI,ft⟩;obtain⟨eq,er,rfl⟩:=di c9.row;cases cI;generalize he:((d++f)++dc).length=f6 at c9 dn⊢;have⟨bv,ek⟩:=b.kid fb c9 f7 e4 gb d0 es dn;have G:=am ek;have a7:p.drew.cell? ⟨j.heap.size,8,Y⟩=O (U ac a k):=by have l:=G.rb.2.2;show p.cell? _=_;rw[aj _ _ _ _ _ _ l];rfl
    have fr:p.drew.cell? ⟨r,4,Y⟩=O (Z V (((d++f).length+B.sz:Nat):Int)):=ft;generalize fB:((((d++f).length+B.sz:Nat)):Int)=z at fr;go_wp2_with fail;refine G0 (S:=λ_=>True) (by kernel_rfl) trivial (λhS=>?_);simp only[iD,bc,dE,Nat.reduceAdd,jn,jA,jB,dI,dJ];refine dL 0 (A3 (O ⟨j.heap.size,8,Y⟩)) rfl rfl hS (λef d6=>by go_simp) ?_;simp only[B4];refine dL 2 (G2 ge (A3 (O ⟨r,0,Y⟩))) rfl rfl hS (λef d6=>by go_simp) ?_;simp only[B4];refine sa (S:=λeo=>eo.cell? ⟨j.heap.size,8,Y⟩=O (U ac a k)) (C:=λA=>!(A==8||A==9||A==10)) (i:=1) (v:= U ac a k) rfl (ye (by kernel_rfl)) (λ_ _ _ cu=>cu) ?hC _ _ _ _ (yg rfl (by kernel_rfl)) (List.contains_iff_mem.1 (by kernel_rfl)) (Or.inl ⟨by rfl,λef d6=>by go_simp⟩) hS a7 ?_
    case hC=>
     intro A hA d3 t;simp only[Bool.not_eq_false',sI,jD]at t;rcases t with(rfl|rfl)|rfl
     .obtain rfl:=aJ d3;exact⟨{on:=1,ground:=Ground.data},by simp,rfl,rfl⟩
     all_goals
      obtain rfl:=aJ d3;exact⟨{on:=1,ground:=Ground.phase},by simp,rfl,rfl⟩
    simp only[Act.put,co,cA,cC];refine fj (i:=3) (by kernel_rfl) rfl (λy h=>?_);go_simp;refine fC (f3 _) ?_;refine h _ _ trivial (λ_=>a7) ?_;try simp only[co,cA,cC]
    refine fj (i:=4) (by kernel_rfl) rfl (λy h=>?_);go_simp;refine h _ _ trivial (λ_=>a7) ?_;try simp only[co,cA,cC]
    refine fj (i:=5) (by kernel_rfl) rfl (λy h=>?_);go_simp;refine h _ _ trivial (λ_=>a7) ?_;try simp only[co,cA,cC]
    refine fj (i:=6) (by kernel_rfl) rfl (λy h=>?_);go_simp;refine h _ _ trivial (λ_=>a7) ?_;try simp only[co,cA,cC]
    refine fj (i:=7) (by kernel_rfl) rfl (λy h=>?_);go_simp;have l:=G.rb.2.2;have f5:∀o,(p.alloc o).cell? ⟨j.heap.size,8,Y⟩=O (U ac a k):=λo=>by rw[aj _ _ _ _ _ _ (((dC p o).block _ (ai l)).trans l)];rfl
    refine h _ _ trivial (λ_=>f5 _) ?_;try simp only[co,cA,cC]
    have⟨c0,c3,c6,c7,c8⟩:=fh aix;have fA:=G.fm.bl.size;refine fj (i:=8) (by kernel_rfl) rfl (λy h=>?_);refine step_append_lies _ (by rfl) _ _ 32 (by rfl) m.heap.size 3 c0 _ 1 8 underlying32 c3 c6 c7 c8 rfl (by decide) (U ac a k) a _ (by rfl) (dA G.kr (bF (dC p (Ad #[Z V z] 3)))) ⟨p.heap.size,0,Y⟩ 1 1 [Z V z] (by rfl) rfl (Br (aA p _)) (by intro gl b8;rw[List.mem_singleton.1 b8];rfl) (by decide) (by unfold H0;omega) (by omega) (bG fA (dC p (Ad #[Z V z] 3)).size) _ rfl ?_;intro ct cp ca a8 u b0 g9;have d2:(p.alloc (Ad #[Z V z] 3)).grownBy ca (Bk ac a k).ownBlock:=⟨u.os,u.tape,u.output,u.size,u.block⟩;have em:=G.put (z:=z) (o:= Ad #[Z V z] 3) (by rw[eJ];exact a8) d2 b0 a4;have ed:=(d2.block _ (by have:=ai l;rw[fe];omega) (λe=>gC G.kr l (by decide) e.symm)).trans (((dC p (Ad #[Z V z] 3)).block _ (ai l)).trans l);have ht:ca.cell? ⟨j.heap.size,8,Y⟩=O (U ac a k):=by rw[aj _ _ _ _ _ _ ed];rfl
    have hw:∀A,ca.frozen? ⟨j.heap.size,A,Y⟩=A9:=λA=>cH _ _ _ _ _ ed;have el:=am em;refine h _ _ trivial (λt=>by cases t) ?_;simp only[Act.put,co,cA,cC];refine fj (i:=9) (by kernel_rfl) rfl (λy h=>?_);go_simp;refine h _ _ trivial (λt=>by cases t) ?_;try simp only[co,cA,cC]
    refine fj (i:=10) (by kernel_rfl) rfl (λy h=>?_);go_simp;refine h _ _ trivial (λt=>by cases t) ?_;refine uz (by kernel_rfl) ?_ _;go_wp2_with fail;refine⟨⟨a+1,D.app (one q B),b9,a9++[gq q.k r],ao,ce++(ba.ownBlock.toList++(a0++[])),bv,f++dc,eq,f6,er,O ⟨ct,0,Y⟩,cp,rfl,by go_num,by omega,by rw[aG,cF];rfl,?_⟩,by simp[F2];omega⟩;have e:(D.app (one q B)).tops E=D.tops E++[z]:=by rw[Fo.tops_app,<-fB,bE,a3];rfl
    rw[e];exact el
  .have fu:c=a:=by omega
   subst fu;have bE:(d++f).length=d.length+D.sz:=by
    have e:=congrArg List.length b.mf;rw[bq,Fo.flat_len]at e;rw[aG,e]
   have fz:F=[]:=by
    have e:=congrArg List.length b.e2;rw[aG,cF,L]at e;exact lD (by omega)
   subst fz;have e7:ap= .nil:=by
    cases ap with
    |nil=>rfl
    |cons q B b9=>obtain⟨r,eb,ba,ee,d8,gn,a0,dq,⟨cs,_⟩,_⟩:=b.nr;cases cs
   subst e7;obtain⟨_,rfl⟩:=b.nr;have e5:D=ks:=by have e:=b.e1;rw[Fo.app_nil]at e;exact e
   subst e5;obtain⟨gp,gu,d5⟩:=di b.lw.row;have cz:B7 (w=(d++f).length):=(ace d5).2.1;clear d5;have fq:B7 (c=D.len):=by show c=_;rw[<-L];exact ff
   subst a3;have eh:=am bD;clear bD;have hd:w<=50000000:=by have:=cz.out;rw[bz]at cB;omega
   obtain⟨f8,b5⟩:=b.bx;have g6:=ai x.out;have l:=b.rb.2.2;have hs:=b.rb.1;rw[b7]at l;have gv:wr.cell? ⟨n,4,Y⟩=O (Z V f8):=by rw[aj _ _ _ _ _ _ b5];rfl
   have d0:wr.frozen? ⟨n,4,Y⟩=A9:=cH _ _ _ _ _ b5;have d1:(wr.setCell ⟨n,4,Y⟩ (Z V (w:Int))).heap[j.heap.size]?=_:=(ay _ _ _ _ (by show j.heap.size≠n;omega)).trans l;obtain⟨av,cw⟩:=aC (wr.setCell ⟨n,4,Y⟩ (Z V (w:Int)));rw[cw]at d1;obtain⟨hJ,hK,h4,h5,h6,h7,h9,ia,ib,ih⟩:=bK d1;have hb:¬(c:Int)<(c:Int):=by omega
   have bh:=(Fm.num (lo:=lo) b5 dd (w:Int) Y).1;rw[cw]at bh;have cb:=bh.row b.lw.row (λ_ _=>by simp) (λds=>im.2.2.2.symm);have fg:lo<=av.heap.size:=bG a4 (bG b.fm.bl.size bh.bl.size);rw[<-cz.out]at cb;have f9:=dA cb (dC av (Ad (wA N (U H af J) (U ac c k)) 34));have fv:=(dC av (Ad (wA N (U H af J) (U ac c k)) 34)).size;obtain⟨c0,c3,c6,c7,c8⟩:=fh za;clear b6 b5 l bh cb;go_wp2_with (at_builtin;refine F1 _ rfl _ _ 24 rfl lo 34 c0 _ 9 112 underlying24 c3 c6 c7 c8 rfl (by decide) _ _ _ rfl f9 ⟨av.heap.size,0,Y⟩ 1 1 (wA N (U H af J) (U ac c k)).toList rfl rfl (Br (aA av _)) (by intro gl b8;simp at b8;rcases b8 with rfl|rfl|rfl|rfl|rfl|rfl|rfl|rfl|rfl<;>rfl) (by unfold H0;omega) (by omega) (bG fg fv) ?_;intro hE ca a8 u _ b0;obtain⟨ct,cp,rfl⟩:=G3 a8);go_ret;have ev:oE (d++f)++(wA N (U H af J) (U ac c k)).toList=oE ((d++f)++[⟨{N with ks:=D.tops d.length},uo (U bo (N.nm.map Bn).length bA) (fJ N.k),U ac c k⟩]):=by rw[uy (d++f),b7];show _=oE (d++f)++(cMb _++[]);rw[dk];rfl
   rw[ev]at a8;have b6:=cz.out;subst b6;rw[<-cw]at u b0;have⟨en,a⟩:=b.fin dd dg a4 fq (by rw[bE]) a8 u (by rcases b0 with e|e;exact .inl e.symm;exact .inr (by simpa [A1] using e)) gd;have bD:=eh.out;subst bD;exact(show LP _ _ _ _ _ _ _ _ _ _ from⟨U (O ⟨ct,0,Y⟩) ((d++f).length+1) cp,en,rfl,a⟩)
attribute [local go_sem] lG
def Js{P:Program}{b:Array Oper}{Q:Exit->Act->A2->Prop}{id:Nat}{S:A2->Prop}{a:Act}(c:P.follows .mixedOrders=B6)(hS:S w.drew)
  (h:S w.drew->wpAnyH P .any b Q S b.size (Array.replicate b.size A9) a w.drew):(Go.Code.region id b B6).wp P Q a w:=
 wp_region_any c (wpAny_of_held _ _ _ _ (h hS))
def arL(h:(db s p).ok=B6):(db s p).d=if(db s p).k=7 then 1 else 0:=by
 unfold db at h⊢;split
 .simp only;unfold C0;cases hf:vK fD (s.extract p (qC s (s.size+1) p)) 22 0 with
  |none=>simp
  |some k=>simp only;rw[aa (by omega)]
 split
 .split
  .simp only;unfold ue;split
   .simp
   .split<;>simp
  .rename_i a b c;rw[aa a,ab b,aa c]at h;cases h
 split
 .split
  .simp
  .rename_i a b c e;rw[aa a,aa b,ab c,aa e]at h;cases h
 split
 .rename_i a b c e;rw[aa a,aa b,aa c,ab e]at h;cases h
 .rfl
section
variable {s : ByteArray} {R : List Tk × List Int × Int} {st stk : List Int} {p : Nat} {l : Int} {out : List Tk} {f : Nat}
end
def okO(o:Obj):Prop:=(∃b c,o= .map b c)\/(∃a t fr,o= Ad a t fr/\t≠79)
def qA(W a:A2):Prop:=∀(k:Nat)(o:Obj),okO o->W.heap[k]?=O o->a.heap[k]?=O o
def qA.cells(h:qA W W'){k:Nat}{cs:Array Ak}{t:B3}(a:W.heap[k]?=O (Ad cs t fr))(ht:t≠79):W'.heap[k]?=O (Ad cs t fr):=h k _ (.inr ⟨_,_,_,rfl,ht⟩) a
def qA.row(h:qA W W'){e size:Nat}(a:W.ownsRow base e size v n xs)(g:e≠79):W'.ownsRow base e size v n xs:=by
 refine⟨a.1,?_⟩;rcases a.2 with f|⟨d,b,c,i,j,k,l⟩
 .exact .inl f
 .exact .inr ⟨d,b,c,i,j,h.cells k g,l⟩
def qA.of_gr(g:W.grownBy W' (O b))(j:ScX b W):qA W W':=by
 intro d q h a;obtain⟨l,o,f⟩:=j;refine(g.block d (aE a) ?_).trans a;intro e;obtain rfl:d=b:=by simpa using e
 rw[f]at a;obtain rfl:=aJ a;rcases h with⟨n,k,c⟩|⟨m,r,p,c,i⟩
 .cases c
 .cases c;exact i rfl
def qA.of_put{l:Nat}{r:Loop}(c:W.heap[l]?=O (.loop r))(e:Obj):qA W (W.putObj l e):=by
 intro k m d a;refine(Bc ?_).trans a;rintro rfl;rw[c]at a;obtain rfl:=aJ a;rcases d with⟨h,f,b⟩|⟨g,n,i,b,j⟩<;>cases b
def qA.of_putD{l:Nat}{q:Option (List Deferred)}(c:W.heap[l]?=O (.deferred q))(e:Obj):qA W (W.putObj l e):=by
 intro k m d a;refine(Bc ?_).trans a;rintro rfl;rw[c]at a;obtain rfl:=aJ a;rcases d with⟨h,f,b⟩|⟨g,n,i,b,j⟩<;>cases b
def qA.of_below(h:cg W W'):qA W W':=λb c _ a=>(h.block b (aE a)).trans a
def GQ.kept{st:List Int}(h:GQ W base gb mg st)(a:qA W W'):GQ W' base gb mg st:=by
 have⟨e,c,d⟩:=h.g.ex;exact⟨⟨⟨e,a.cells c (by decide),a.row d (by decide)⟩,h.g.lo⟩,h.r.same (λi f b=>a _ _ (.inl ⟨_,_,rfl⟩) b) (λk g j b=>a.cells b (by decide)),h.ok,h.len⟩
def GQ.same{st:List Int}(h:GQ W base gb mg st)(b:∀(k:Nat) (o:Obj),W.heap[k]?=O o->(∀cs fr,o≠ Ad cs 49 fr)->(∀cs fr,o≠ Ad cs 46 fr)->W'.heap[k]?=O o):GQ W' base gb mg st:=by
 have⟨p,i,d⟩:=h.g.ex;refine⟨⟨⟨p,b _ _ i (by intro cs fr a;cases a) (by intro cs fr a;cases a),d.1,?_⟩,h.g.lo⟩,h.r.same (λs q a=>b _ _ a (by intro cs fr a;cases a) (by intro cs fr a;cases a)) (λc cs fr a=>b _ _ a (by intro cs fr a;cases a) (by intro cs fr a;cases a)),h.ok,h.len⟩;rcases d.2 with g|⟨c,e,f,j,l,m,n⟩
 .exact .inl g
 .exact .inr ⟨c,e,f,j,l,b _ _ m (by intro cs fr a;cases a) (by intro cs fr a;cases a),n⟩
structure wG (w:A2) (base gb mg tv:Nat) (s:ByteArray) (st:List Int) (out:List Tk) (W:A2):Prop where
 q:GQ W base gb mg st
 bl:Ce base w W
 b0:W.heap[w.heap.size]?=O (.cells #[.pointer (O ⟨gb,0,Y⟩)] 44 (0,0))
 b1:W.heap[w.heap.size+1]?=O (.cells #[.string s] 9 (0,0))
 tk:∃v,W.heap[tv]?=O (.cells #[v] 46 (0,0))/\W.ownsRow w.heap.size 49 6 v out.length (Am out)
def wG.kept{st:List Int}(h:wG w base gb mg tv s st out W)(a:qA W W')(b:Ce base W W'):wG w base gb mg tv s st out W':=by
 have⟨e,c,d⟩:=h.tk;exact⟨h.q.kept a,h.bl.trans b,a.cells h.b0 (by decide),a.cells h.b1 (by decide),⟨e,a.cells c (by decide),a.row d (by decide)⟩⟩
def wG.below{st:List Int}(h:wG w base gb mg tv s st out W)(a:cg W W')(b:base<=W.heap.size):wG w base gb mg tv s st out W':=h.kept (.of_below a) (a.mono b)
def wG.turn{st c:List Int}(h:wG w base gb mg tv s st out W)(l:GQ W' base gb mg c)(a:Gp gb W W')(j:Ce base W W')(t:gb<w.heap.size)(u:w.heap.size<tv):wG w base gb mg tv s c out W':=by
 have⟨r,p,d⟩:=h.tk;have⟨v,k,_⟩:=h.q.g.ex;refine⟨l,h.bl.trans j,lA a h.b0 (by omega),lA a h.b1 (by omega),⟨r,lA a p (by omega),d.1,?_⟩⟩;rcases d.2 with i|⟨g,e,f,m,n,b,o⟩
 .exact .inl i
 .refine .inr ⟨g,e,f,m,n,lA a b ?_,o⟩;rintro rfl;rw[k]at b;cases b
def wG.setTok{d:Nat}{st:List Int}{cs:Array Ak}(h:wG w base gb mg tv s st out W)(n:W.heap[d]?=O (Ad cs 49 fr))(l:∀v,W.heap[tv]?=O (Ad #[v] 46 (0,0))->v.ownBlock≠O d)(j:base<=d)(u:Ak):wG w base gb mg tv s st out (W.setCell ⟨d,0,Y⟩ u):=by
 have a:∀(e:Nat)(c:Obj),W.heap[e]?=O c->(∀cs fr,c≠ Ad cs 49 fr)->(W.setCell ⟨d,0,Y⟩ u).heap[e]?=O c:=λe c a m=>(ay _ _ _ _ (by rintro rfl;rw[n]at a;exact m _ _ (aJ a).symm)).trans a;have⟨v,f,o⟩:=h.tk;refine⟨h.q.same (λe c g i _=>a e c g i),h.bl.setCell j _,a _ _ h.b0 (by intro cs fr b;cases b),a _ _ h.b1 (by intro cs fr b;cases b),⟨v,a _ _ f (by intro cs fr b;cases b),?_⟩⟩;exact Co o (row:=O d) ⟨rfl,rfl,rfl,by simp[B2],λq p k=>ay _ _ _ _ (λb=>k (by rw[b]))⟩ (.inr (l v f))
def Iw.turn{q j:Nat}{l i g:Int}{cs:Array Ak}(h:Iw b mb B s I W q i p l)(c:W.heap[gb]?=O (Ad cs 73 fr))(d:Gp gb W W')(r:Ce base W W')(w:12<=base)(u:I j g W'):Iw b mb B s I W' q i j g:=by
 have⟨o,f⟩:=h.sc;have t:b≠gb:=by rintro rfl;rw[show W.heap[b]?=_ from f]at c;cases c
 refine⟨⟨o,lA d f t⟩,?_,h.ly.blocks (λv x=>r.block v (by omega)),u,bG h.sz d.size⟩;have⟨n,k,a,m⟩:=h.mp;exact⟨n,k,(d.block _ (aE a) (by rintro rfl;rw[a]at c;cases c) (λcs fr e=>by rw[a]at e;cases e)).trans a,m⟩
def Iw.below{q i:Nat}{l g f:Int}(h:Iw b mb B s I W q g p l)(a:cg W W')(m:12<=B)(k:I i f W'):Iw b mb B s I W' q g i f:=by
 have⟨j,e⟩:=h.sc;have n:=h.sz;exact⟨⟨j,(a.block _ (aE e)).trans e⟩,h.mp.kept (row:=Y) ⟨a.os,a.tape,a.output,a.size,λc d _=>a.block c d⟩ (by simp),h.ly.blocks (λc d=>a.block c (by omega)),k,bG h.sz a.size⟩
def Iw.put{L:Nat}{q:Nat}{l e:Int}{r:Loop}(h:Iw b mb B s I W q e p l)(c:W.heap[L]?=O (.loop r))(o:Obj)(n:12<=L)(m:I p l (W.putObj L o)):Iw b mb B s I (W.putObj L o) q e p l:=by
 have⟨j,d⟩:=h.sc;have k:b≠L:=by rintro rfl;rw[show W.heap[b]?=_ from d]at c;cases c
 have⟨i,f,a,g⟩:=h.mp;exact⟨⟨j,(Bc k).trans d⟩,⟨i,f,(Bc (by rintro rfl;rw[c]at a;cases a)).trans a,g⟩,h.ly.blocks (λu t=>Bc (by omega)),m,by simpa using h.sz⟩
def al4(p:Addr)(w:A2):
  CallsD Ax 9 #[A3 (O p)] .returning w λe d w'=>e= E1 (H2 #[])/\d= .returning/\w'=w.alloc (Ad #[Z V 0] 42):=by
 have b:=λw=>ank w;refine callsD_of_wpS func9 rfl λa f c=>?_;apply wpS_seq;apply wpS_region;simp[wpOpsS,go_sem,recoverD,c,ntmps9,Exit.thenS,b];apply wpS_seq;apply wpS_region;simp[wpOpsS,go_sem,Exit.thenS,jn];refine wpS_cond (t:=A9) (by simp[Act.eval]) ?_;simp only[Cn,if_false];refine wpS_of_wp (wp_skip ?_);cases a
 simp_all [bodyPostS,results,results9]
def xK(lo:Nat):∀(ks:Fo),LCs lo ks
 | .nil=>trivial
 | .cons N k r=>⟨BD (xK lo k),xK lo r⟩
structure PL (w:A2):Prop where
 lay:Lay w
 gn:12<=w.heap.size
 pow:∃tt fr,w.heap[1]?=O (.cells KA tt fr)
 asc:F0 Ax w "strings.asciiSpace" .u8 B0
def PL.below{d:A2}(h:PL w)(a:Ce B w d)(b:w.heap.size<=B):PL d:=by
 have⟨f,e,c⟩:=h.pow;exact⟨h.lay.below a b,bG h.gn a.size,⟨f,e,(a.block _ (iB (ai c) b)).trans c⟩,Aw h.asc a b⟩
def apy{cs:Array Ak}(h:Gp gb W W')(k:W.heap[gb]?=O (Ad cs 73 (0,0))){e size:Nat}(o:W.ownsRow base e size v n xs)(g:e≠73)(i:e≠75):W'.ownsRow base e size v n xs:=by
 obtain⟨m,b⟩:=o;refine⟨m,?_⟩;rcases b with b|⟨f,c,d,l,j,a,p⟩
 .exact .inl b
 .exact .inr ⟨f,c,d,l,j,lA h a (λe=>by rw[e,k]at a;cases a;exact g rfl) i,p⟩
structure aji (w0:A2) (lb mb:Nat) (vs:Ak) (L:List Im) (W:A2):Prop where
 bl:cg w0 W
 lk:Lk W lb mb vs
 ns:nF W w0.heap.size vs L
def nJ.keep{n:Int}(h:nJ b W c n)(a:Ce B W W')(d:b<B):nJ b W' c n:=(a.block _ d).trans h
def apz(c:Nat):xx c≠58:=by
 unfold xx;split<;>decide
def nF.setFt{g:Ak}{L:List Im}(h:nF W base g L){n:Int}(i:nJ b W c n)(f:b<base)(j:Nat)(v:Ak):nF (W.setCell ⟨b,j,Y⟩ v) base g L:=
 ⟨sE h.row f _,λe a d=>(ay W ⟨b,j,Y⟩ a.b v (rG (h.box e a d) (show W.heap[b]?=O (Ad #[Z V c,Z V n] 58 (0,0)) from i) (apz _))).trans (h.box e a d),λe a d=>sE (h.kid e a d) f _,h.far,h.rng⟩
def nF.putFt{f:Ak}{L:List Im}(h:nF W base f L){n:Int}(e:nJ b W c n)(d:b<base)(a n2:Int):nF ((W.setCell ⟨b,0,Y⟩ (Z V a)).setCell ⟨b,1,Y⟩ (Z V n2)) base f L:=
 (h.setFt e d 0 _).setFt (c:=a) (n:=n) (bp _ b 0 _ _ _ e) d 1 _
structure as9 (w:A2) (v:Ak) (w0:A2):Prop where
 tb:w0.heap[w.heap.size]?=O (.cells #[v] 26 (0,0))
 fb:nJ (w.heap.size+1) w0 0 0
 bl:cg w w0
 sz:w0.heap.size=w.heap.size+1+1
def ab5{b:Func}{p q:Tmp}{u:B3}(h:b.results=#[.tmp p,.cell q u])(tmps:Array Ak)(P:Program)(w:A2)(a:Addr)(v c:Ak)(e:tmps.getD p A5=v)(g:tmps.getD q A5= A3 (O a))
  (d:(loadVar u a).run P w= .ok c w):(results b tmps).run P w= .ok (H2 #[v,c]) w:=by
 have f:tmps[p]?.getD A5=v:=by simpa using e
 have i:tmps[q]?.getD A5= A3 (O a):=by simpa using g
 simp only[results,h];simp[Result.andThen,f,i,asAddr,d]
def al5(w:A2)(b:Nat)(c n:Int)(h:nJ b w c n):(loadVar 58 ⟨b,0,Y⟩).run Ax w= .ok (Ck #[Z V c,Z V n]) w:=
 Hj w b 58 58 _ _ _ h underlying58 rfl (by kernel_rfl)
def ab6(b:Ak->Prop)(w:A2)(ns:List Nd)(e:Ending)(a:A2):Prop:=
 cg w a/\∃base c L x,e= E1 (H2 #[nV x,Ck #[Z V 0,Z V 0]])/\L[ns.length-1]?=O x/\L.map Im.N=ns/\nF a base c L/\∀x∈L,dz w x.vn x.N.nm/\b x.vn
structure ar0 (ns:List Nd):Prop where
 h:iu ns=A9
 n:∀(i:Nat) N,ns[i]?=O N->jK ns i N=B6
 s:∀i,i<ns.length->(iL ns).getD i 0≠0
 l:(iL ns).getD (ns.length-1) 0=(ns.length:Int)
 d:jH (jh (C9 ns)) ns.length 0=Y
def apA(h:eG ns=(0,0)):ar0 ns:=by
 unfold eG at h;split at h
 .simp at h
 .rename_i e;cases h1:jH (fI ns) ns.length 0 with
  |some a=>rw[h1]at h;simp[tf2]at h
  |none=>
   rw[h1,tf2]at h;cases h2:jH (iJ (iL ns)) ns.length 0 with
   |some a=>rw[h2]at h;simp[tf3]at h
   |none=>
    rw[h2,tf3]at h;split at h
    .simp at h
    .rename_i d;refine⟨by simpa using e,λa f b=>?_,λa g c=>?_,by simpa using d,Lt (congrArg Prod.fst h)⟩
     .have:=lB h1 a (aD _) (by have:=(List.getElem?_eq_some_iff.1 b).1;omega);unfold fI at this;rw[aF,b,gy]at this;simpa using this
     .have:=lB h2 a (aD _) (by omega);unfold iJ at this;rw[c]at this;simp at this
def ab7(y:Ak->Prop)(w:A2)(v:Ak)(ns:List Nd)(dq:∀(a9:Addr) (n c i:Nat) (N:Nd) (vn:Ak),v= U (O a9) n c->ns[i]?=O N->w.cell? ⟨(a9.add (i*9)).block,(a9.add (i*9)).off+7,Y⟩=O vn->y vn)(h:gg w v ns)(et:∀N∈ns,lL N)(ef:pf w)(tt:B3)(fr:Nat×Nat)(dn:w.heap[0]?=O (Ad fD tt fr))
  (eo:∀W,cg w W->F0 Ax W "strings.asciiSpace" .u8 B0) (ht:eG ns=(0,0)):
  E3 Ax 33 #[Ck #[v]] w (ab6 y w ns):=by
 have G:=gF (apA ht) (su (congrArg Prod.fst ht));have eb:=G.out.1.h;have cp:=am dq;obtain⟨eA,c,rfl⟩:=h.form;have bd:=mA eb;have a6:=gF h et;have al:=kK ef dn eo;have dd:¬ns.length=0:=λB=>bd (.inl B);have df:¬3000<ns.length:=λB=>bd (.inr (.inl B));have bD:(ns.getD (ns.length-1) Gk).k=1:=by
  by_cases t:(ns.getD (ns.length-1) Gk).k=1
  .exact t
  .exact absurd (.inr (.inr t)) bd
 obtain⟨N,b0⟩:∃N,ns[ns.length-1]?=O N:=⟨_,aw (by omega)⟩;rw[aF,b0,gy]at bD;obtain⟨a8,rfl,vn,gm,ed⟩:=h.get b0;have ar:=ed.c0;rw[bD]at ar;have ec:∀E F,cg w ((w.alloc E).alloc F):=λE F=>((ah _ w).alloc (ag _) E).alloc (by simp) F;have⟨n,b9⟩:=aC ns.length;have z:B7 (ns.length=n):=b9;rw[b9]at a6 ar dd df⊢;obtain⟨a,ei⟩:∃a:Nat,n=a+1:=⟨n-1,by omega⟩;have ek:n-1=a:=by omega
 rw[ek]at ar;have f8:a<3000:=by omega
 have fn:((a+1:Nat):Int)-1=(a:Int):=by omega
 have gf:(0:Int)<=(a:Int):=by omega
 have fg:decide ((a:Int)<0)=A9:=az (by omega);have fk:decide ((3000:Int)<=(a:Int))=A9:=az (by omega);have gl:(a:Int)<(a:Int)+1:=by omega
 have f2:∀E F,((w.alloc E).alloc F).cell? (a8.add (a*9))=O (Z V 1):=λE F=>cell_kept (ec E F) ar;subst ei;go_in;go_wp2_with fail;generalize d9:(w.alloc _).alloc _=k;have⟨cy,cl,ce,s0⟩:=CD d9;have m:B7 (as9 w (U (O a8) (a+1) c) k):=⟨cy,cl,ce,by omega⟩;have bh:=ai al.2.1;have ao:B7 (pf k/\k.heap[0]?=O (Ad fD tt fr)/\(∀W,cg k W->F0 Ax W "strings.asciiSpace" .u8 B0)):=
  ⟨al.1.below m.bl (ag _),(m.bl.block _ bh).trans al.2.1,λW dx=>al.2.2 W (m.bl.trans (dx.mono m.bl.size))⟩
 refine(rz (H:=Unit) k fr tt ao.2.1).mono ?_;rintro B p ⟨rfl,b7,bf⟩;have⟨r,b8⟩:=aC k.heap.size;have f9:=m.sz;have eL:p.cell? ⟨w.heap.size,0,Y⟩=O (U (O a8) (a+1) c):=fp ((bf.block _ (by omega)).trans m.tb);have gb:=bf.size;have gd:w.heap.size<p.heap.size:=by omega
 have ge:w.heap.size≠p.heap.size:=by omega
 rw[b8]at b7⊢;have K:=kK b7 bf b8;go_wp2_with fail;have cf:=aA p (Ad #[.map (O r),U Y 0 0] 162);have b1:cg p (p.alloc (Ad #[.map (O r),U Y 0 0] 162)):=(ah _ p).alloc (ag _) _;have bk:aji k p.heap.size r (U Y 0 0) [] (p.alloc (Ad #[.map (O r),U Y 0 0] 162)):=by
  have bv:=K.2.1.trans (b1.mono K.2.1.size);have el:r<p.heap.size:=by
   have⟨fA,fd,eg,_⟩:=K.1;exact ai eg
  exact⟨bv,⟨cf,tK K.1 (b1.block _ el),ao.1.below bv (ag _)⟩,⟨fs _ _ _ _,λi f o=>by simp at o,λi f o=>by simp at o,λf o=>by simp at o,λi f gr o=>by simp at o⟩⟩
 have b5:k.heap.size<=p.heap.size:=K.2.1.size;generalize p.alloc (Ad #[.map (O r),U Y 0 0] 162)=cz at bk⊢;have⟨C,eh⟩:=aC p.heap.size;rw[eh]at bk b5⊢;have cs:B7 (k.heap.size<=C):=b5;have cu:B7 (aji k C r (U Y 0 0) [] cz):=bk;go_loopw [37] (λbn wr=>∃(j:Nat) (g:List Im) (a4:Ak),j<=a+1/\bn= Z V j/\B7 (aji k C r a4 g wr/\g.length=j/\g.map Im.N=ns.take j/\∀f∈g,dz w f.vn f.N.nm/\y f.vn)) (λbn _=>a+1-(F2 bn).toNat)
 case atStart=>exact⟨0,[],_,aD _,rfl,cu,rfl,rfl,λf o=>by simp at o⟩
 case round=>
  obtain⟨j,g,a4,f4,rfl,e⟩:=hrel;by_cases bh:j<a+1
  .obtain⟨q,I⟩:=cJ z.out bh;have f7:(j:Int)<(a:Int)+1:=by omega
   have f5:(0:Int)<=(j:Int):=by omega
   have⟨eB,ea,gp,gn,ee⟩:=a6.1.get I;obtain rfl:=aJ ea;have u:cg w wr:=m.bl.trans (e.1.bl.mono m.bl.size);obtain⟨cF,cI,c1,c2,c4,c6,c7,bw,c8,bj,b3⟩:=ee;obtain⟨ap,aK,rfl⟩:=bj.form;obtain⟨eF,e9,rfl⟩:=b3.form;have fm:=cell_kept u cF;have fo:=cell_kept u cI;have fq:=cell_kept u c1;have ft:=cell_kept u c2;have fu:=cell_kept u c4;have fv:=cell_kept u c6;have fz:=cell_kept u c7;have c9:=cell_kept u bw;have da:=cell_kept u c8;have bb:∀x,cg wr (wr.alloc x):=λx=>(ah _ wr).alloc (ag _) x;have a3:=λx=>ai2 k (wr.alloc x) ao.1 (e.1.bl.trans ((bb x).mono e.1.bl.size)) C r cs a4 g (e.1.lk.below (bb x)) (e.1.ns.below (bb x)) q _ _ (bj.below m.bl) (b3.below m.bl) (a6.2 q (dj I)) (by rw[e.out.2.1];omega) ns (by rw[e.out.2.1];exact e.2.2.1) (by rw[e.out.2.1];exact I) ao.2.2;unfold jI at a3;have bs:B7 (Jn ns g.length q=B6):=by show _=_;rw[alI,e.out.2.1];exact G.out.1.n j q I
   have cq:B7 (ns[j]?=O q):=I;have⟨bt,bE⟩:=aC q.nm.length;have⟨ez,ds⟩:=aC q.ks.length;have a7:B7 (dz w (U ap q.nm.length aK) q.nm/\y (U ap q.nm.length aK)):=⟨bj,cp.out _ _ _ j q _ rfl I bw⟩;rw[bE]at a3 c9;replace a7:B7 (dz w (U ap bt aK) q.nm/\y (U ap bt aK)):=by rw[<-bE];exact a7
   rw[ds]at a3 da;go_wp2_with fail;refine(a3 _).mono ?_;rintro B w5 ⟨rfl,L,en⟩;rw[bs.out];have⟨ev,f,cb,a1,eq,er⟩:=en bs.out;have cv:B7 (aji k C r ev (g++[f]) w5/\(g++[f]).length=j+1/\(g++[f]).map Im.N=ns.take (j+1)/\∀af∈g++[f],dz w af.vn af.N.nm/\y af.vn):=
    ⟨⟨L,eq,er⟩,by rw[aG,e.out.2.1];rfl,by rw[eJ,e.out.2.2.1,iC,cq.out];simp[cb],λaf hy=>by
     rcases List.mem_append.1 hy with hy|hy
     .exact e.2.2.2 af hy
     .obtain rfl:=List.mem_singleton.1 hy;rw[cb,a1];exact a7⟩
   go_wp2;exact⟨⟨j+1,_,_,by omega,by go_num,cv⟩,by simp[F2];omega⟩
  .obtain rfl:j=a+1:=by omega
   have a0:g.map Im.N=ns:=by rw[e.out.2.2.1];exact dl (by rw[z.out];exact ag _)
   have b4:∀f∈g,f.N.ks.length<=200:=λf o=>G.out.2.kn _ (a0 ▸ List.mem_map_of_mem o);obtain⟨t,av,rfl⟩:∃t c,a4= U (O ⟨t,0,Y⟩) (a+1) c:=by
    rcases bJ e.1.ns.row with⟨h,_⟩|h
    .rw[e.out.2.1]at h;omega
    .rw[e.out.2.1]at h;exact h
   have ex:wr.cell? ⟨C,1,Y⟩=O (U (O ⟨t,0,Y⟩) (a+1) av):=by rw[aj _ _ _ _ _ _ e.out.1.lk.b];rfl
   have cc:=Gg wr k.heap.size _ g e.1.ns ns a0 (a+1) e.2.1 (by omega) (by omega) b4 (z.out ▸ G.out.1.s) (by have:=G.out.1.l;rw[z.out]at this;exact this);have cr:B7 (∀W,cg wr W->E3 Ax 66 #[U (O ⟨t,0,Y⟩) (a+1) av] W (jf W (H2 #[Z V 0,Fs A9]))):=λW dg=>by
    have j:=Ge W k.heap.size _ g (e.1.ns.below dg) ns a0 (a+1) e.2.1 (by omega) (by omega) b4;rw[<-z.out,G.out.1.d,z.out]at j;exact j
   have f3:=m.sz;have bx:=m.fb.keep e.1.bl (by rw[m.out.sz];omega);have A:B7 (aji k C r (U (O ⟨t,0,Y⟩) (a+1) av) g wr/\nJ (w.heap.size+1) wr 0 0/\g.map Im.N=ns/\g.length=a+1/\cg w wr):=⟨e.1,bx,a0,e.2.1,m.bl.trans (e.1.bl.mono m.bl.size)⟩;have ct:B7 (∀f∈g,dz w f.vn f.N.nm/\y f.vn):=e.2.2.2;have dc:((a+1:Nat):Int)-1=(a:Int):=by omega
   rw[dc]at cc;go_wp2_with fail;refine cc.mono ?_;rintro B w5 ⟨rfl,L⟩;have ep:=cr.out w5 L;have ey:=cell_kept L ex;have br:B7 (cg wr w5):=L;go_wp2_with fail;refine ep.mono ?_;rintro B a5 ⟨rfl,b2⟩;have ba:=br.out.trans (b2.mono br.size);have gs:=cell_kept b2 ey;have bA:=A.2.1.below ba;have cd:=A.1.ns.below ba;have⟨f,o⟩:=cJ A.2.2.2.1 (show a<a+1 by omega);have cB:a5.cell? ⟨t,a,Y⟩=O (nV f):=by have ca:=cd.row;rw[A.out.2.2.2.1]at ca;rw[ca.cellAt a (by omega),cD,o];rfl
   have⟨bx,fB,fF⟩:=oH bA;have J:B7 (nJ (w.heap.size+1) a5 0 0/\cg w a5/\nF a5 k.heap.size (U (O ⟨t,0,Y⟩) (a+1) av) g/\g[a]?=O f):=⟨bA,A.2.2.2.2.trans (ba.mono A.2.2.2.2.size),cd,o⟩;have⟨ew,a1⟩:=aC (nV f);rw[a1]at cB;have cw:B7 (nV f=ew):=a1;go_wp2;exact aL (ab5 rfl _ _ _ ⟨w.heap.size+1,0,Y⟩ _ _ rfl rfl (al5 _ _ 0 0 (xG J.1 0 0))) rfl ⟨(J.2.1.setCell (by simp) _).setCell (by simp) _,k.heap.size,_,g,f,by rw[cw.out];rfl,by rw[z.out,lh];exact J.2.2.2,A.2.2.1,J.2.2.1.putFt J.1 (by rw[m.out.sz];omega) 0 0,ct⟩
def afy(w:A2)(v:Ak)(ns:List Nd)(h:gg w v ns)(d:∀N∈ns,lL N)(b:pf w)(tt:B3)(fr:Nat×Nat)(a:w.heap[0]?=O (Ad fD tt fr))
  (c:∀W,cg w W->F0 Ax W "strings.asciiSpace" .u8 B0) (ht:eG ns=(0,0)):E3 Ax 33 #[Ck #[v]] w (ab6 (λ_=>True) w ns):=
 ab7 _ w v ns (λ_ _ _ _ _ _ _ _ _=>trivial) h d b tt fr a c ht
def ab8(w:A2)(v:Ak)(ns:List Nd)(h:gg w v ns)(A:∀N∈ns,lL N)(x:pf w)(tt:B3)(fr:Nat×Nat)(p:w.heap[0]?=O (Ad fD tt fr))
  (z:∀W,cg w W->F0 Ax W "strings.asciiSpace" .u8 B0) (ht:eG ns=(0,0)):
  E3 Ax 15 #[Ck #[v]] w (jf w (Ck #[Z V 0,Z V 0])):=by
 have t:∀j k,cg w ((w.alloc j).alloc k):=λj k=>((ah _ w).alloc (ag _) j).alloc (by simp) k;have n:B7 (∀W,cg w W->E3 Ax 33 #[Ck #[v]] W (ab6 (λ_=>True) W ns)):=λW a=>
  afy W v ns (h.below a) A (x.below a (ag _)) tt fr ((a.block _ (ai p)).trans p) (λg s=>z g (a.trans (s.mono a.size))) ht
 obtain⟨d,e,rfl⟩:=h.form;have⟨f,y⟩:=aC ns.length;rw[y]at n⊢;go_in;go_wp2_with fail;have l:nJ (w.heap.size+1) ((w.alloc (Ad #[U d f e] 26)).alloc (Ad #[Z V 0,Z V 0] 58)) 0 0:=by
  have:=aA (w.alloc (Ad #[U d f e] 26)) (Ad #[Z V 0,Z V 0] 58);rw[fe]at this;exact this
 have c:=t (Ad #[U d f e] 26) (Ad #[Z V 0,Z V 0] 58);generalize (w.alloc (Ad #[U d f e] 26)).alloc (Ad #[Z V 0,Z V 0] 58)=g at l c⊢;refine(n g c).mono ?_;rintro B b ⟨q,_,_,_,I,rfl,_⟩;have i:=l.below q;have⟨C,E,F⟩:=oH i;have G:w.heap.size+1<b.heap.size:=ai i;have H:w.heap.size+1≠b.heap.size:=by omega
 have u:cg w b:=c.trans (q.mono c.size);have m:=gF u i;go_wp2_with fail;have r:=(xG m.2 0 0).below ((ah _ ((b.setCell ⟨w.heap.size+1,0,Y⟩ (Z V 0)).setCell ⟨w.heap.size+1,1,Y⟩ (Z V 0))).alloc (ag _) (Ad #[Z V 0,Z V 0] 58));have o:cg w ((b.setCell ⟨w.heap.size+1,0,Y⟩ (Z V 0)).setCell ⟨w.heap.size+1,1,Y⟩ (Z V 0)):=(m.1.setCell (by simp) _).setCell (by simp) _;exact aL (io rfl _ _ (w.heap.size+1) _ _ _ _ rfl r underlying58 rfl (by kernel_rfl)) rfl ⟨rfl,o.alloc o.size _⟩
attribute [local go_sem] lG
structure WkV (s:ByteArray) (R:List Tk×List Int×Int) (st stk:List Int) (p:Nat) (l:Int) (out:List Tk) (f:Nat):Prop where
 sim:Sim st stk
 wk:asA s f stk (blk s (s.size+1) p) l out R
 fu:s.size<blk s (s.size+1) p+f
 len:st.length<=45*p+2
 l0:0<=l
 l1:l<=(p:Int)+1
 le:p<=s.size
 ol:out.length<=p
section
variable {s : ByteArray} {R : List Tk × List Int × Int} {st stk : List Int} {p : Nat} {l : Int} {out : List Tk} {f : Nat}
def WkV.move{q:Nat}(h:WkV s R st stk p l out f)(a:blk s (s.size+1) p=blk s (s.size+1) q)(c:p<=q)(b:q<=s.size):WkV s R st stk q l out f:=
 ⟨h.sim,by rw[<-a];exact h.wk,by rw[<-a];exact h.fu,by have:=h.len;omega,h.l0,by have:=h.l1;omega,b,by have:=h.ol;omega⟩
def WkV.next(h:WkV s R st stk p l out f)(ht:El s p)(j:(db s p).ok=B6){c e:List Int}{b:List Tk}(x:s.size<p+1+g)(k:Sim c e)(y:c.length<=st.length+45)(z:b.length<=out.length+1)
  (m:sD s g e (blk s (s.size+1) (db s p).a) (l+(db s p).d) b=R):WkV s R c e (db s p).a (l+(db s p).d) b g:=by
 have⟨n,i,o,q⟩:=nC s p ht.lt j;have w:=ou s (s.size+1) (db s p).a i;have r:=h.len;have t:=h.l0;have u:=h.l1;have v:=h.ol;exact⟨k,⟨m⟩,by omega,by omega,by omega,by omega,i,by omega⟩
def WkV.go(h:WkV s R st stk p l out f)(A:R.2.2= -1)(ht:El s p):(db s p).ok=B6/\((db s p).k=7/\uj st 5=A9/\(∃g,WkV s R st stk (db s p).a (l+(db s p).d) out g)\/
  ∃b,((db s p).k=7/\b=5\/((db s p).k==7)=A9/\b=(db s p).k)/\(1<=b/\b<=78)/\uj st b=B6/\∃o z g,passOk (st.length+45) z st b o/\WkV s R o (dm stk b).1 (db s p).a (l+(db s p).d) (out++[⟨b,(p:Nat),((db s p).a:Nat),l,(db s p).n,(db s p).x⟩]) g):=by
 have B:=Iz s p ht.nb ht.nd;have C:=h.fu;have v:=h.wk.out;rw[B]at C v;have E:=ht.lt;obtain⟨g,rfl⟩:∃g,f=g+1:=⟨f-1,by omega⟩;have⟨j,c⟩:=abE v A E;refine⟨j,?_⟩;have i:=arL j;rcases c with⟨e,m,c⟩|⟨b,G,e,q,r,m,c⟩
 .rw[ab e]at i;exact .inl ⟨e,(h.sim.may (by decide) (by decide)).trans m,g,h.next ht j (by omega) h.sim (by omega) (by omega) (by rw[i];exact c)⟩
 .have t:=(h.sim.may q r).trans m;have⟨o,u,F⟩:=h.sim.passOk q r t;have y:G=l+(db s p).d:=by
   rcases e with⟨a,_,w⟩|⟨a,_,w⟩
   .rw[ab a]at i;omega
   .rw[aa (by simpa using a)]at i;omega
  rw[y]at c;exact .inr ⟨b,e.imp (λx=>⟨x.1,x.2.1⟩) (λx=>⟨x.1,x.2.1⟩),⟨q,r⟩,t,o,_,g,u,h.next ht j (by omega) F (tA u) (by simp) c⟩
def WkV.fin(h:WkV s R st stk s.size l out f):R=(out++[⟨6,(s.size:Nat),(s.size:Nat),l,0,⟨#[]⟩⟩],stk, -1):=by
 have c:=ac1 s s.size (ag _);have d:=h.fu;have a:=h.wk.out;rw[c]at d a;obtain⟨b,rfl⟩:∃b,f=b+1:=⟨f-1,by omega⟩;rw[sD,ab (ag _)]at a;exact a.symm
end
def WkV.begin(s:ByteArray):WkV s (mj s) [100,6] [100,6] 0 1 [] (s.size+1):=
 ⟨aeG,⟨rfl⟩,by omega,by simp,by omega,by omega,aD _,by simp⟩
def aak{st b:List Int}{tf tt tl tn:Int}{tx:ByteArray}{f:Nat}(h:GQ w base gb mb st)(o:1<=k)(p:k<=78)(x:uj st k=B6)(y:passOk (st.length+45) f st k b)(z:b.length<=99999000)(A:∀a∈b,0<=a/\a<=133):
  E3 Ax 12 #[A3 (O ⟨gb,0,Y⟩),Ck #[Z V k,Z V tf,Z V tt,Z V tl,Z V tn,A0 tx],A0 s] w λe w'=>e= E1 (H2 #[])/\GQ w' base gb mb b/\Gp gb w w'/\Ce base w w':=by
 have l:=dC w (Ad #[Z V k,Z V tf,Z V tt,Z V tl,Z V tn,A0 tx] 49);have u:=aA w (Ad #[Z V k,Z V tf,Z V tt,Z V tl,Z V tn,A0 tx] 49);have m:=h.below l;have I:gb<w.heap.size:=by obtain⟨K,v,_⟩:=h.g.ex;exact aE v
 have B:=m.may o p x;have J:=h.g.lo;have d:=gF u m;go_in;go_wp2_with fail;refine B.mono ?_;rintro e j ⟨rfl,i⟩;have n:cg w j:=l.trans (i.mono (by simp));have G:j.cell? ⟨w.heap.size,0,Y⟩=O (Z V k):=by rw[aj _ _ _ _ _ _ ((i.block _ (aE d.1)).trans d.1)];rfl
 have c:=d.2.below i;have C:=ahe j base gb mb st k (st.length+45) f b c.g c.r c.ok (by omega) (by have:=c.len;omega) o p y;have H:IntKind.u8.wrap k=k:=by rw[aci];omega
 go_wp2_with (go_at_call 29;refine C.mono ?_;rintro e L ⟨rfl,t,F,E,q⟩);go_end0
 exact⟨rfl,⟨t,F,A,z⟩,(Gp.of_below n).trans E,(n.mono (by omega)).trans q⟩
attribute [local go_sem] lG
def apB(W:A2)(b:Nat)(a c d e f g:Ak):W.grownBy (six W b a c d e f g) (O b):=by
 unfold six;refine oq ?_ (pJ _ b 5 _);refine oq ?_ (pJ _ b 4 _);refine oq ?_ (pJ _ b 3 _);refine oq ?_ (pJ _ b 2 _);refine oq ?_ (pJ _ b 1 _);exact pJ _ b 0 _
def ad7:(Tryz.prog.info? 49).map (λi=>(i.zero,i.size,i.bytes))=O (O (Ck #[Z V 0,Z V 0,Z V 0,Z V 0,Z V 0,A0 ⟨#[]⟩]),6,56):=by kernel_rfl
structure Ad1 (w:A2) (gb:Nat) (s:ByteArray) (b mb:Nat) (W:A2):Prop where
 bl:cg w W
 b0:W.heap[w.heap.size]?=O (.cells #[.pointer (O ⟨gb,0,Y⟩)] 44 (0,0))
 b1:W.heap[w.heap.size+1]?=O (.cells #[.string s] 9 (0,0))
 sc:iH b W s (.map (O mb)) 0 0 1 A9
 mp:W.ownsMap Ax 9 (plainElem (H:=Unit) Ax 3) mb 22 (zI 22)
 lo:w.heap.size+2<=b
 ne:mb≠b
def amA(w:A2)(a b mb:Nat)(s:ByteArray)(l m c d e f g h i j k:Ak):Act:={tmps:=#[A3 (O ⟨a,0,Y⟩),A0 s,A3 (O ⟨w.heap.size,0,Y⟩),A3 (O ⟨w.heap.size+1,0,Y⟩),U Y 0 0,A3 (O ⟨b,0,Y⟩),l,m,A0 s,.map (O mb),Ck #[A0 s,.map (O mb),Z V 0,Z V 0,Z V 1,Fs A9],c,d,e,f,g,h,i,j,k,A5,A5,A5,A5,A5,A5,A5,A5,A5,A5,A5,A5,A5,A5,A5,A5,A5,A5,A5,A5,A5,A5,A5,A5],defers:=[]}
def al6{α:Type}(Q:α->A2->Prop)(pre:List α)(W:A2):Prop:=∀x,pre.getLast?=O x->Q x W
def al6.mk{α:Type}{Q:α->A2->Prop}{pre:List α}{x:α}(h:Q x W):al6 Q (pre++[x]) W:=λb a=>by rw[List.getLast?_concat]at a;cases a;exact h
def AmP(w:A2)(base c mb:Nat)(s:ByteArray)(e:Ending)(b:A2):Prop:=∃st stk a l v,mj s=(a++[⟨6,(s.size:Nat),(s.size:Nat),l,0,⟨#[]⟩⟩],stk, -1)/\Sim st stk/\e= E1 v/\b.ownsRow w.heap.size 49 6 v a.length (Am a)/\GQ b base c mb st/\st.length<=45*s.size+2/\a.length<=s.size/\Ce base w b
def aal(w:A2)(base C bn:Nat)(s:ByteArray)(h:GQ w base C bn [100,6])(eA:Lay w)(kr:s.size<=65536)(gt:12<=base)(ds:(mj s).2.2= -1):
  E3 Ax 11 #[A3 (O ⟨C,0,Y⟩),A0 s] w (AmP w base C bn s):=by
 have⟨tt,fr,ck⟩:=eA.tabs.word;have g9:C<w.heap.size:=by obtain⟨G,u,_⟩:=h.g.ex;exact aE u
 have kq:=h.g.lo;refine mD (n:=5).1 ?_;refine callsIn_of_wp_marks func11 rfl trivial ?_ rfl;simp only[ntmps11,iD,bc,dE,Nat.reduceAdd,Nat.reduceSub,jn,jA,jB,pz,dI,dJ];refine wpIn_seq_k (λi6 kk=>wpIn_wide.2 ?_);go_wp2_with fail;generalize g1:(w.alloc _).alloc _=ap;have⟨e7,b5,dd,ft⟩:=CD g1;refine wpIn_seq_k (λel gu=>?_);have dq:∀(i o:Nat)(ao:A2),Ad1 w C s i o ao->el (amA w C i o s A5 A5 A5 A5 A5 A5 A5 A5 A5 A5 A5) ao:=by
  intro i o ao x;refine gu _ _ ?_;unfold amA;have⟨b,fu⟩:=aC ao.heap.size;have eL:=aE x.sc;have kn:=x.lo;refine wpIn_seq_k (λi7 dq=>wpIn_wide.2 ?_);go_wp2_with fail;refine wpIn_seq_k (λa9 K=>?_);refine wpIn_seq_k (λi8 kl=>wpIn_wide.2 ?_);go_wp2_with fail;refine wpIn_block ?_;have dg:=dC ao (Ad #[U Y 0 0] 46);have dn:=x.bl.alloc x.bl.size (Ad #[U Y 0 0] 46);have fq:C1 i _ s (.map (O o)) 0 1 A9:=⟨0,(dg.block _ eL).trans x.sc⟩;have fk:=x.mp.alloc (Ad #[U Y 0 0] 46);have e6:wG w base C bn b s [100,6] [] (ao.alloc (Ad #[U Y 0 0] 46)):=
   ⟨h.below dn,dn.mono (by omega),(dg.block _ (aE x.b0)).trans x.b0,(dg.block _ (aE x.b1)).trans x.b1,⟨U Y 0 0,by rw[<-fu];exact aA ao _,fs _ _ _ _⟩⟩
  have eB:=eA.below dn (ag _);have ak:(ao.alloc (Ad #[U Y 0 0] 46)).heap.size=b+1:=by simp;omega
  rw[fu]at eL;generalize ao.alloc (Ad #[U Y 0 0] 46)=f9 at fq fk e6 eB ak⊢;have cr:=x.ne;have⟨f8,eF⟩:=aC (mj s);have fb:=WkV.begin s;have f7:=am eF;rw[eF]at fb ds;obtain⟨I,J⟩:∃I:Nat->Int->A2->Prop,I=λp l a=>∃v y r A,WkV s f8 v y p l r A/\wG w base C bn b s v r a:=⟨_,rfl⟩;have ey:Iw i o (b+1) s I f9 0 1 0 1:=⟨fq,fk,eB,by rw[J];exact⟨_,_,_,_,fb,e6⟩,by omega⟩;have g0:∀p l a ar,I p l a->ScX i a->a.grownBy ar (O i)->I p l ar:=by
   intro p l a ar h b9 u;rw[J]at h⊢;obtain⟨v,y,r,A,j,m⟩:=h;exact⟨v,y,r,A,j,m.kept (.of_gr u b9) ⟨u.os,u.tape,u.output,by have:=m.bl.size;have:=u.size;have:=aE m.b0;omega,λcz d8=>u.block cz (by have:=aE m.b0;omega) (by simp;omega)⟩⟩
  have gz:∀p e l a,blk s (s.size+1) p=blk s (s.size+1) e->p<=e->e<=s.size->I p l a->I e l a:=by
   intro p e l a g5 hp k h;rw[J]at h⊢;obtain⟨v,y,r,A,j,m⟩:=h;exact⟨v,y,r,A,j.move g5 hp k,m⟩
  have gv:∀p l a,I p l a->0<=l/\l<=(p:Int)+1/\p<=s.size:=by
   intro p l a h;rw[J]at h;obtain⟨v,y,r,A,j,m⟩:=h;exact⟨j.l0,j.l1,j.le⟩
  have ea:∀{a:A2}{e p:Nat}{eg l:Int}{ca:Loop}(q:Obj),Iw i o (b+1) s I a e eg p l->a.heap[b+1+1]?=O (.loop ca)->Iw i o (b+1) s I (a.putObj (b+1+1) q) e eg p l:=by
   intro a e p eg l ca q h ad;refine h.put ad q (by omega) ?_;have F:=h.ii;rw[J]at F⊢;obtain⟨v,y,r,A,j,m⟩:=F;refine⟨v,y,r,A,j,m.kept (.of_put ad q) ?_⟩;exact(ah base a).grown (H1 a (b+1+1) q) (by have:=h.sz;omega) (λia d=>by cases d;omega)
  refine aaL (P:=Ax) (α:=Nat×Int) (n:=5) (gf:=26) (bd:=#[A3 (O ⟨i,0,Y⟩)]) rfl (enters_of func26 (by kernel_rfl) rfl) (λc=>#[vTk ⟨(db s c.1).k,(c.1:Int),((db s c.1).a:Int),c.2,(db s c.1).n,(db s c.1).x⟩]) (λ_=>rfl)
   (λ_ c a=>El s c.1/\Iw i o (b+1) s I a (db s c.1).a (c.2+(db s c.1).d) c.1 c.2)
   (al6 λc a=>Iw i o (b+1) s I a (db s c.1).a (c.2+(db s c.1).d) (db s c.1).a (c.2+(db s c.1).d))
   (λ_ c cI a=>(El s c.1/\Iw i o (b+1) s I a (db s c.1).a (c.2+(db s c.1).d) c.1 c.2)/\∃B,b+1<=B/\(∀G,a.heap[b]?=O (Ad #[G] 46 (0,0))->G.ownBlock≠O B)/\fa B a (db s c.1).k (c.1:Int) ((db s c.1).a:Int) c.2 (db s c.1).n (db s c.1).x/\
    cI=amA w C i o s (A3 (O ⟨b,0,Y⟩)) (A3 (O ⟨B,0,Y⟩)) (.func (.func 26) #[A3 (O ⟨i,0,Y⟩)] #[]) (vTk ⟨(db s c.1).k,(c.1:Int),((db s c.1).a:Int),c.2,(db s c.1).n,(db s c.1).x⟩) A5 A5 A5 A5 A5 A5 A5)
   (λa=>∃l,Iw i o (b+1) s I a s.size l s.size l)
   ?pZ ?pAx ?pD (λ_ _ _ c b9=>by cases b9) ?assign ?body ?seq ?done
  case pZ=>
   rintro pre a ca q h ad c b9;rw[ak]at ad⊢;exact ea q (h c b9) ad
  case pAx=>
   rintro pre c cI a ca q ⟨⟨j,bb⟩,B,dc,d7,er,gs⟩ ad;rw[ak]at ad⊢;exact⟨⟨j,ea q bb ad⟩,B,dc,λG bk=>d7 G ((Bc (by omega)).symm.trans bk),(Bc (by rintro rfl;have:=(show a.heap[b+1+1]?=_ from er).symm.trans ad;cases this)).trans er,gs⟩
  case pD=>
   rintro a ca q ⟨l,h⟩ ad;rw[ak]at ad⊢;exact⟨l,ea q h ad⟩
  case assign=>
   rintro l pre ⟨p,g⟩ a a4 ⟨j,bb⟩ b3;unfold vTk amA at b3;unfold vTk;simp only at j bb b3⊢;have f:=gF j bb
   gi_wp2
   have ew:=dC a (Ad #[Z V (db s p).k,Z V (p:Int),Z V ((db s p).a:Int),Z V g,Z V (db s p).n,A0 (db s p).x] 49);have F:=f.2.ii;have hE:=f.2.sz;rw[J]at F;obtain⟨v,y,r,A,j,m⟩:=F;refine b3 _ _ ⟨⟨f.1,Iw.below f.2 ew (by omega) (by rw[J];exact⟨v,y,r,A,j,m.below ew (by omega)⟩)⟩,a.heap.size,hE,λG bk=>?_,aA a _,rfl⟩ ((KeepsOthers.alloc a _).from _);have⟨ky,cb,cc⟩:=m.tk;rw[eI a _ b (by omega),cb]at bk;cases bk;intro d;have:=(cc.lt _ d).2;omega
  case body=>
   rintro l pre ⟨p,g⟩ cI a ⟨⟨b7,af⟩,B,kt,d7,a3,rfl⟩;rw[ak];refine wpIn_mono (Q:=ago (b+1) a λen=>Iw i o (b+1) s I en (db s p).a (g+(db s p).d) (db s p).a (g+(db s p).d)) ?_ λd bD ao h=>by cases d<;>first|exact⟨h.1,al6.mk h.2⟩|exact h.elim
   unfold vTk amA;simp only at b7 af a3⊢;have F:=af.ii;rw[J]at F;obtain⟨v,y,r,A,ee,bh⟩:=F;have⟨hj,bj⟩:=ee.go ds b7;have⟨eh,ei,ek,iy⟩:=nC s p b7.lt hj;have kv:=af.sz;have kp:=ee.len;have hn:=ee.ol;generalize (db s p).k=cz at a3 bj⊢;generalize (db s p).a=z at a3 eh ei af bj⊢;generalize (db s p).d=ba at ek iy af bj⊢;generalize (db s p).n=av at a3 bj⊢;generalize (db s p).x=aK at a3 bj⊢;have⟨i2,cb,cc,i3,i4,i5,tf⟩:=bm a3;have eo:=eH bh.b0;rcases bj with⟨rfl,hf,gr,u⟩|⟨a4,b3,⟨ib,ih⟩,fg,i1,kd,gr,fo,u⟩
   .have ef:=CallsIn.inRound l (mD (n:=2).2 (bh.q.may (t:=5) (by decide) (by decide) hf));have f:=kK bh af u;refine wpIn_block ?_;refine wpIn_seq_k (λem ez=>?_)
    gi_wp2_with (refine⟨trivial,?_⟩;gi_at_call 27;fail)
    refine⟨trivial,ef.mono ?_⟩;rintro d w5 ⟨rfl,L⟩;have an:B7 (H3 (b+1) a w5/\Iw i o (b+1) s I w5 z (g+ba) z (g+ba)):=⟨zk L,Iw.below f.2.1 L (by omega) (by rw[J];exact⟨_,_,_,_,f.2.2,f.1.below L (by omega)⟩)⟩
    gi_wp2
    exact an
   .refine wpIn_block ?_;refine wpIn_seq_k (λem ez=>?_);have fF:∀(ar:A2)(bo br bs bt bv bw bx:Ak),H3 (b+1) a ar->Iw i o (b+1) s (λ_ _ _=>True) ar z (g+ba) p g->wG w base C bn b s v r ar->fa B ar a4 (p:Int) (z:Int) g av aK->
      em (amA w C i o s (A3 (O ⟨b,0,Y⟩)) (A3 (O ⟨B,0,Y⟩)) (.func (.func 26) #[A3 (O ⟨i,0,Y⟩)] #[]) (Ck #[Z V cz,Z V (p:Int),Z V (z:Int),Z V g,Z V av,A0 aK]) bo br bs bt bv bw bx) ar:=by
     intro ar bo br bs bt bv bw bx g4 cn b4 e9;refine ez _ _ ?_;unfold amA;have eo:=eH b4.b0;have j3:=eH b4.b1;have⟨i2,cb,cc,i3,i4,i5,tf⟩:=bm e9;have ko:=tA fo;have ip:=CallsIn.inRound l (mD (n:=2).2 (aak (tf:=(p:Int)) (tt:=(z:Int)) (tl:=g) (tn:=av) (tx:=aK) (s:=s) b4.q ib ih fg fo (by omega) λbD bf=>by have:=aB (u.sim.o1 bD bf);omega))
     gi_wp2_with (refine⟨trivial,?_⟩;gi_at_call 12;fail)
     refine⟨trivial,ip.mono ?_⟩;rintro d w5 ⟨rfl,hw,cu,L⟩;have⟨kz,ff,_⟩:=b4.q.g.ex;have cp:=b4.turn hw cu L g9 (by omega);have a6:fa B w5 a4 (p:Int) (z:Int) g av aK:=lA cu e9 (by omega);have a7:Iw i o (b+1) s (λ_ _ _=>True) w5 z (g+ba) p g:=Iw.turn (I:=λ_ _ _=>True) (p:=p) (l:=g) ⟨cn.sc,cn.mp,cn.ly,trivial,cn.sz⟩ ff cu L gt trivial;have he:H3 (b+1) a w5:=g4.trans (amq ff cu);have⟨G,cw,b8⟩:=cp.tk;obtain⟨f1,f5,rfl⟩:=di b8;have gn:=eH cw;have kh:w5.frozen? ⟨b,0,Y⟩=A9:=cH _ _ _ _ _ cw;have⟨kA,kE,k2,k3,k4,k5,k6⟩:=bm a6;have⟨h8,hc,hH,hJ,h0⟩:=fh ad7;have⟨on,fm⟩:=aC r.length;rw[fm]at cw b8 gn hn;have ku:b+1<=w5.heap.size:=a7.sz;have ed:∀e,(Bk f1 on f5).ownBlock=O e->w.heap.size<=e/\∃cs fr,w5.heap[e]?=O (Ad cs 49 fr):=λe k=>by
      refine⟨(b8.lt e k).1,?_⟩;rcases b8.2 with⟨a0,_⟩|⟨eq,gl,gm,a0,_,bE,_⟩
      .rw[a0]at k;cases k
      .rw[a0]at k;obtain rfl:eq=e:=by simpa [A1] using k
       exact⟨_,_,bE⟩
     have f:=ajy u cp a7 he cw fm
     gi_wp2_with (gi_at_builtin;refine wpListIn_append_own _ rfl _ _ 46 rfl w.heap.size 49 h8 _ 6 56 underlying46 hc hH hJ h0 rfl (by decide) _ _ _ rfl (b8.alloc _) ⟨w5.heap.size,0,Y⟩ 1 1 [Z V a4,Z V (p:Int),Z V (z:Int),Z V g,Z V av,A0 aK] rfl rfl (Br (cs:=#[Z V a4,Z V (p:Int),Z V (z:Int),Z V g,Z V av,A0 aK]) (fr:=(0,0)) (aA w5 _)) (by intro kw fz;simp at fz;rcases fz with rfl|rfl|rfl|rfl|rfl|rfl<;>rfl) (by unfold H0;omega) (by omega) (by simp;omega) ?_;intro kx bA d9 cq _;obtain⟨cd,c6,rfl⟩:=G3 d9;have cy:bA.heap[b]?=O (Ad #[U f1 on f5] 46 (0,0)):=(cq.block b (by simp;omega) (λd=>by obtain⟨_,cs,fr,a1⟩:=ed b d.symm;rw[f.out.2.2.2.2.1]at a1;cases a1)).trans ((eI _ _ _ (by omega)).trans f.2.2.2.2.1);have j2:=eH cy;have ki:bA.frozen? ⟨b,0,Y⟩=A9:=cH _ _ _ _ _ cy)
     have a2:∀(e:Nat)(q:Obj),w5.heap[e]?=O q->(∀cs fr,q≠ Ad cs 49 fr)->e≠b->(bA.setCell ⟨b,0,Y⟩ (U (O ⟨cd,0,Y⟩) (on+1) c6)).heap[e]?=O q:=λe q k b6 cr=>by
      refine(ay _ _ _ _ cr).trans ((cq.block e (by simp;have:=aE k;omega) (λd=>?_)).trans ((eI _ _ _ (aE k)).trans k));have⟨_,cs,fr,a1⟩:=ed e d.symm;rw[k]at a1;exact b6 cs fr (aJ a1)
     have ks:w5.heap.size<=bA.heap.size:=by have:=cq.size;simp at this;omega
     have e8:Ce base w5 (bA.setCell ⟨b,0,Y⟩ (U (O ⟨cd,0,Y⟩) (on+1) c6)):=by
      have gd:Ce base w5 (w5.alloc (Ad #[Z V a4,Z V (p:Int),Z V (z:Int),Z V g,Z V av,A0 aK] 49)):=(ah _ w5).alloc (by omega) _;exact(gd.grown cq (by simp;omega) (λe k=>by have:=(ed e k).1;omega)).setCell (by show base<=b;omega) _
     have g7:wG w base C bn b s i1 (r++[⟨a4,(p:Nat),(z:Nat),g,av,aK⟩]) (bA.setCell ⟨b,0,Y⟩ (U (O ⟨cd,0,Y⟩) (on+1) c6)):=by
      have bf:=f.2.1;refine⟨bf.q.same (λe q k j m=>a2 e q k j (by rintro rfl;rw[f.out.2.2.2.2.1]at k;exact m _ _ (aJ k).symm)),bf.bl.trans e8,a2 _ _ bf.b0 (by intro cs fr d;cases d) (by omega),a2 _ _ bf.b1 (by intro cs fr d;cases d) (by omega),⟨_,bp _ _ 0 _ _ _ cy,?_⟩⟩;rw[aG,f.out.2.2.2.2.2,yI];refine Co d9 (row:=O b) ⟨rfl,rfl,rfl,by simp[B2],λe k cr=>ay _ _ _ _ (λd=>cr (by rw[d]))⟩ (.inr ?_);intro d;have a1:cd=b:=by simpa [A1] using d
      subst a1;rcases d9.2 with⟨a0,_⟩|⟨eq,gl,gm,a0,_,bE,_⟩
      .cases a0
      .cases a0;rw[cy]at bE;cases bE
     refine⟨f.2.2.2.1.trans ?_,?_⟩
     .exact⟨by simp[B2];omega,λe q _ k b6=>a2 e q k (λcs fr d=>by rw[d]at b6;cases b6) (by rintro rfl;rw[f.out.2.2.2.2.1]at k;obtain rfl:=aJ k;cases b6)⟩
     .obtain⟨da,eb⟩:=f.2.2.1.sc;have⟨c9,c7,a5,c8⟩:=f.2.2.1.mp;refine⟨⟨da,a2 _ _ eb (by intro cs fr d;cases d) (by omega)⟩,⟨c9,c7,a2 _ _ a5 (by intro cs fr d;cases d) (by rintro rfl;rw[f.out.2.2.2.2.1]at a5;cases a5),c8⟩,f.2.2.1.ly.blocks (λe k=>e8.block e (by omega)),?_,by simp[B2];omega⟩;rw[J];exact⟨_,_,_,_,f.1,g7⟩
    rcases b3 with⟨rfl,rfl⟩|⟨kj,rfl⟩
    .have ef:=CallsIn.inRound l (mD (n:=2).2 (bh.q.may (t:=5) (by decide) (by decide) fg));have f:=kK bh af a3
     gi_wp2_with (refine⟨trivial,?_⟩;gi_at_call 27;fail)
     refine⟨trivial,ef.mono ?_⟩;rintro d w5 ⟨rfl,L⟩;have cp:=f.1.below L (by omega);have a6:fa B w5 7 (p:Int) (z:Int) g av aK:=(L.block _ (aE f.2.2)).trans f.2.2;have z0:=(bm a6).1;have k7:=(bm a6).2.2.2.2.2.2 0;have g8:∀G,w5.heap[b]?=O (Ad #[G] 46 (0,0))->G.ownBlock≠O B:=λG bk=>d7 G ((L.block _ (by omega)).symm.trans bk);have a7:Iw i o (b+1) s (λ_ _ _=>True) w5 z (g+ba) p g:=Iw.below (I:=λ_ _ _=>True) (p:=p) (l:=g) ⟨f.2.1.sc,f.2.1.mp,f.2.1.ly,trivial,f.2.1.sz⟩ L (by omega) trivial;have hd:Iw i o (b+1) s (λ_ _ _=>True) (w5.setCell ⟨B,0,Y⟩ (Z V 5)) z (g+ba) p g:=by
      have⟨da,eb⟩:=a7.sc;have⟨c9,c7,a5,c8⟩:=a7.mp;exact⟨⟨da,(ay _ _ _ _ (by show i≠B;omega)).trans eb⟩,⟨c9,c7,(ay _ _ _ _ (by rintro rfl;rw[show w5.heap[_]?=_ from a6]at a5;cases a5)).trans a5,c8⟩,a7.ly.blocks (λe k=>ay _ _ _ _ (by show e≠B;omega)),trivial,by simp[B2];exact a7.sz⟩
     have cF:=am λbo br bs bt bv bw bx=>fF _ bo br bs bt bv bw bx ((zk L).trans ((KeepsOthers.setCell _ _ _).from _)) hd (cp.setTok a6 g8 (by omega) _) (bp _ _ 0 _ _ _ a6)
     gi_wp2
     exact cF.out _ _ _ _ _ _ _
    .have cF:=am λbo br bs bt bv bw bx=>fF a bo br bs bt bv bw bx (KeepsFrom.refl _ _) ⟨af.sc,af.mp,af.ly,trivial,af.sz⟩ bh a3
     gi_wp2
     exact cF.out _ _ _ _ _ _ _
  case seq=>
   rintro l f6 ev g3 a _ a2 dx;unfold cg at *;rw[ak]at ev dx;refine afm 4 l i o (b+1) s (by omega) (by omega) (by omega) (by omega) I g0 gz gv (λp g a b7 h=>?_) f6 ev (λp g a j _ bb dc=>?_) a 0 1 ?_ a2
   .rw[J]at h;obtain⟨v,y,r,A,j,m⟩:=h;exact(j.go ds b7).1
   .obtain⟨gp,t,bD,ge,hC,hB⟩:=g3 [] (p,g) a ⟨j,bb⟩ dc;exact⟨gp,t,bD,ge,hC,hB.mono λd en ⟨eh,ei,ek⟩=>⟨eh,ei _ rfl,ek⟩⟩
   .refine Iw.below ey (by unfold cg at *;rw[ak];exact dx) (by omega) ?_;have F:=ey.ii;rw[J]at F⊢;obtain⟨v,y,r,A,j,m⟩:=F;exact⟨v,y,r,A,j,m.below (by unfold cg at *;rw[ak];exact dx) (by omega)⟩
  case done=>
   rintro a ⟨l,h⟩ cf;rw[ak]at cf⊢;refine K _ _ (wpIn_wide.2 ?_);have F:=h.ii;rw[J]at F;obtain⟨v,y,r,A,j,m⟩:=F;have⟨G,cb,cc⟩:=m.tk;have⟨eo,ep,i9,ji,j0,ke,kf,kg⟩:=C1.cells h.sc;have j1:=eH cb;have an:=kK j m cc;go_wp2_with fail;refine⟨by simp,.inl ⟨_,_,rfl,run_takeDeferred cf,?_⟩⟩;have d8:=qA.of_putD cf (.deferred Y);refine⟨_,results_tmp rfl _ _ _,show AmP _ _ _ _ _ _ _ from⟨v,y,r,l,G,f7.out.trans an.1.fin,an.1.sim,rfl,d8.row an.2.2 (by decide),an.2.1.q.kept d8,an.1.len,an.1.ol,?_⟩⟩;exact an.2.1.bl.grown (H1 a (b+1) (.deferred Y)) (by have:=an.2.1.bl.size;have:=aE cf;omega) (λia d=>by cases d;omega)
 refine wpIn_wide.2 (Code.wp_mono (Q:=Exit.then el (λ_ _ _=>False)) (λd bD w h=>by cases d<;>first|exact h|exact h.elim) ?_);have ep:ap.drew.cell? ⟨w.heap.size+1,0,Y⟩=O (A0 s):=eH b5;refine Js (S:=λcB=>cB.cell? ⟨w.heap.size+1,0,Y⟩=O (A0 s)) (by kernel_rfl) ep (λhS=>?_);refine dL 0 (A0 s) rfl rfl hS (λcB fA=>by go_simp) ?_;simp only[B4];refine E2 (rs:=[1,3]) (by kernel_rfl) (by simp) (B1 rfl (λa9 K=>?_) (B1 rfl (λa9 K=>?_) C2))
 .go_simp;have df:cg w ap.drew:=dd.drew;refine(rz (H:=Unit) ap.drew fr tt ((df.block _ (aE ck)).trans ck)).mono ?_;rintro d al ⟨rfl,a8,E⟩;have fd:ap.drew.heap.size=w.heap.size+2:=ft;unfold cg at *;rw[fd]at a8 E;have b2:cg w al:=df.trans (E.mono (by omega));have ak:w.heap.size+2<=al.heap.size:=by have:=E.size;omega
  have hh:=a8.lt;refine K _ _ (eH ((E.block _ (by omega)).trans b5)) (λhS=>?_);try simp only[Act.put,co,cA,cC]
  simp only[fd];refine dL 2 (Ck #[A0 s,.map (O (w.heap.size+2)),Z V 0,Z V 0,Z V 1,Fs A9]) rfl rfl hS (λcB fA=>by go_simp) ?_;simp only[B4];refine E2 (rs:=[3]) (by kernel_rfl) (by simp) (B1 rfl (λa9 K=>?_) C2);go_simp;refine K _ _ ((cell_kept ((ah al.heap.size al).alloc (ag _) _) hS)) (λhS=>?_);refine E2 (rs:=[4]) (by kernel_rfl) (by simp) (B1 rfl (λa9 K=>?_) C2);go_simp;have x:Ad1 w C s al.heap.size (w.heap.size+2) (al.alloc (Ad #[A0 s,.map (O (w.heap.size+2)),Z V 0,Z V 0,Z V 1,Fs A9] 79)):=
   ⟨b2.alloc b2.size _,(eI _ _ _ (by omega)).trans ((E.block _ (by omega)).trans e7),(eI _ _ _ (by omega)).trans ((E.block _ (by omega)).trans b5),aA al _,a8.alloc _,by omega,by omega⟩
  refine K _ _ (eH x.b1) (λhS=>?_);refine wpAnyH_done (by kernel_rfl) ?_ _;exact dq _ _ _ x
 .go_simp;have df:cg w ap.drew:=dd.drew;obtain⟨WA,cl⟩:=aC ((ap.alloc (Ad #[A0 ⟨#[]⟩,.map Y,Z V 0,Z V 0,Z V 0,Fs A9] 79)).drew);have ce:Ce (w.heap.size+2) ap WA:=by rw[<-cl];exact((ah _ ap).alloc (by omega) _).drew
  have fB:WA.heap.size=w.heap.size+3:=by rw[<-cl];show(ap.alloc _).heap.size=_;simp;omega
  have g6:WA.heap[w.heap.size+2]?=O (Ad #[A0 ⟨#[]⟩,.map Y,Z V 0,Z V 0,Z V 0,Fs A9] 79 (0,0)):=by rw[<-cl,<-ft];exact aA ap _
  rw[cl];refine K _ _ (cell_kept (ce.mono (by omega)) (eH b5)) (λhS=>?_);refine E2 (rs:=[1]) (by kernel_rfl) (by simp) (B1 rfl (λa9 K=>?_) C2);go_simp;have et:cg w WA:=dd.trans (ce.mono (by omega));refine(rz (H:=Unit) WA fr tt ((et.block _ (aE ck)).trans ck)).mono ?_;rintro d al ⟨rfl,a8,E⟩;unfold cg at *;rw[fB]at a8 E;have b2:cg w al:=et.trans (E.mono (by omega));have hh:=a8.lt;refine K _ _ (cell_kept (E.mono (by omega)) hS) (λhS=>?_);try simp only[Act.put,co,cA,cC]
  simp only[fB];refine dL 2 (Ck #[A0 s,.map (O (w.heap.size+3)),Z V 0,Z V 0,Z V 1,Fs A9]) rfl rfl hS (λcB fA=>by go_simp) ?_;simp only[B4];have d6:=(E.block _ (by omega)).trans g6;refine E2 (rs:=[4]) (by kernel_rfl) (by simp) (B1 rfl (λa9 K=>?_) C2);have⟨j4,j5,j6,j7,j8,j9⟩:=iw d6;have⟨ka,a0,a1,bE,kb,kc⟩:=qk d6;go_simp;have u:=apB al (w.heap.size+2) (A0 s) (.map (O (w.heap.size+3))) (Z V 0) (Z V 0) (Z V 1) (Fs A9);have x:Ad1 w C s (w.heap.size+2) (w.heap.size+3) (six al (w.heap.size+2) (A0 s) (.map (O (w.heap.size+3))) (Z V 0) (Z V 0) (Z V 1) (Fs A9)):=by
   have ak:=E.size;refine⟨b2.grown u b2.size (λcz d=>by cases d;omega),?_,?_,Hu d6 _ _ _ _ _ _,a8.kept u (by simp),by omega,by omega⟩
   .exact(u.block _ (by omega) (by simp)).trans ((E.block _ (by omega)).trans ((ce.block _ (by omega)).trans e7))
   .exact(u.block _ (by omega) (by simp)).trans ((E.block _ (by omega)).trans ((ce.block _ (by omega)).trans b5))
  refine K _ _ (eH x.b1) (λhS=>?_);refine wpAnyH_done (by kernel_rfl) ?_ _;exact dq _ _ _ x
def Jt(bj:PL w)(em:A6 s ns):E3 Ax 5 #[A0 s] w (PsP w 0 0 ns):=by
 obtain⟨ts,A,x,ho,e0,ck,cy,j,dc,rfl⟩:=em;have gs:∀(ce:Fn)(first a9:Array Ak)(w:A2),(Instr.makeFunc ce first a9).run Ax w= .ok (.func ce first a9) w:=λ_ _ _ _=>rfl;have hm:∀w:A2,(zeroValue 28).run Ax w= .ok (Ck #[Z V 0,Z V 0,U Y 0 0]) w:=λw=>by kernel_rfl
 have cn:=dC w (Ad #[Z V 0,Z V 0,U Y 0 0] 28);have eB:=aA w (Ad #[Z V 0,Z V 0,U Y 0 0] 28);have e6:(w.alloc (Ad #[Z V 0,Z V 0,U Y 0 0] 28)).heap.size=w.heap.size+1:=fe _ _;have gp:¬(65536:Int)<(s.size:Int):=by omega
 have l:=Ft ck cy j dc;obtain⟨tt,ba,m⟩:=bj.pow;have ds:=ID (w.alloc (Ad #[Z V 0,Z V 0,U Y 0 0] 28)) tt ba ((cn.block _ (ai m)).trans m);have J:=am bj;clear ck cy j dc bj m;go_enter_defers func5,ntmps5
 go_wp2_with fail;refine ds.mono ?_;rintro a a2 ⟨eg,rfl,bb,ca,a6⟩;unfold cg at *;rw[e6]at bb ca a6;have cq:cg w a2:=cn.trans (a6.mono (by omega));have dn:=aal a2 (w.heap.size+1) eg (w.heap.size+1) s ⟨bb,ca,by decide,by decide⟩ (J.lay.below cq (ag _)) e0 (by have:=J.gn;omega) l.1.1;have c6:=(a6.block w.heap.size (by omega)).trans eB;clear ds bb ca;go_wp2_with fail;refine dn.mono ?_;rintro a a3 ⟨hp,fg,u,a0,hB,bo,aK,rfl,ar,bn,g8,e1,a7⟩;have ao:(dm fg 6).2=B6:=by have:=l.out.1.2;rwa [bo]at this
 obtain rfl:ts=u++[⟨6,(s.size:Nat),(s.size:Nat),a0,0,⟨#[]⟩⟩]:=by have a:=l.out.2.1;unfold nI at a;rw[bo,aa (by simp),ab ao]at a;cases a;rfl
 have cr:cg w a3:=cq.trans (a7.mono (by omega));have c7:=(a7.block w.heap.size (by omega)).trans c6;have e2:=ai c7;obtain⟨tn,b1⟩:=aC u.length;rw[b1]at ar e1;obtain⟨eb,ee,rfl⟩:=di ar;obtain⟨hr,bx,da⟩:=aK.passOk (by decide) (by decide) ((aK.may (by decide) (by decide)).trans ao);have dq:=λff=>aak (k:=6) (tf:=(s.size:Nat)) (tt:=(s.size:Nat)) (tl:=0) (tn:=0) (tx:=⟨#[]⟩) (s:=s) (bn.below (dC a3 ff)) (by decide) (by decide) ((aK.may (by decide) (by decide)).trans ao) bx (by have:=tA bx;omega) λea en=>by have:=aB (da.o1 ea en);omega
 obtain⟨f8,bv,_⟩:=bn.g.ex;have es:=ai bv;have K:=kK ar b1 bv;have hd:=ai c6;have he:=a7.size;clear dn bo aK ao bx da ar b1 bn bv;go_wp2_with fail;refine(dq _).mono ?_;generalize cF:a3.alloc _=f2;obtain⟨d5,a1,g3⟩:=al1 cF;have d3:=dA K.1 a1;have cf:=(a1.block _ es).trans K.2.2;clear cF;rintro a w5 ⟨rfl,eA,bA,a8⟩;have eF:=(a8.block w.heap.size (by omega)).trans ((a1.block _ e2).trans c7);have cs:cg w w5:=(cr.trans (a1.mono cr.size)).trans (a8.mono (by omega));have d4:=apy bA cf d3 (by decide) (by decide);have d6:fa a3.heap.size w5 6 (s.size:Nat) (s.size:Nat) 0 0 ⟨#[]⟩:=lA bA d5 (by omega);obtain⟨fq,ft,fu,fv,fz,fA,fB⟩:=bm d6;obtain⟨fb,et,e5,e7,e8⟩:=fh ad7;have g5:=a8.size;have c4:tn=A:=by have:=l.out.2.2.1.len;rw[aG,K.out.2.1]at this;simpa using this
 have cb:=am c4;have b6:=dA d4 (dC w5 (Ad #[Z V 6,Z V (s.size:Nat),Z V (s.size:Nat),Z V 0,Z V 0,A0 ⟨#[]⟩] 49));have g7:=(dC w5 (Ad #[Z V 6,Z V (s.size:Nat),Z V (s.size:Nat),Z V 0,Z V 0,A0 ⟨#[]⟩] 49)).size;have d7:=aA w5 (Ad #[Z V 6,Z V (s.size:Nat),Z V (s.size:Nat),Z V 0,Z V 0,A0 ⟨#[]⟩] 49);clear dq eA bA d5 d3 cf d6 c4 d4;go_wp2_with (at_builtin;refine F1 _ rfl _ _ 46 rfl a2.heap.size 49 fb _ 6 56 underlying46 et e5 e7 e8 rfl (by decide) _ _ _ rfl b6 ⟨w5.heap.size,0,Y⟩ 1 1 [Z V 6,Z V (s.size:Nat),Z V (s.size:Nat),Z V 0,Z V 0,A0 ⟨#[]⟩] rfl rfl (Br d7) (by intro hw dd;simp at dd;rcases dd with rfl|rfl|rfl|rfl|rfl|rfl<;>rfl) (by unfold H0;omega) (by omega) (by omega) ?_;intro hC e b7 ap _ eo;obtain⟨o,y,rfl⟩:=G3 b7);have hh:=ap.size;have df:∀k,(Bk eb tn ee).ownBlock=O k->a2.heap.size<=k:=λk i=>(b6.lt k i).1;have an:cg w e:=(cs.trans ((dC w5 _).mono cs.size)).grown ap (by omega) (λk i=>by have:=df k i;omega);have b0:=(ap.block w.heap.size (by omega) (λa=>by have:=df _ a.symm;omega)).trans (((dC w5 _).block _ (by omega)).trans eF);obtain⟨tt,ba,m⟩:=J.pow;have bh:=(an.block _ (ai m)).trans m;have gf:=ai m;obtain⟨ad,F,cz⟩:∃ad,e.heap[o]?=O (Ad ad 49 (0,0))/\TkR ad (rj (u++[⟨6,(s.size:Nat),(s.size:Nat),a0,0,⟨#[]⟩⟩])) (tn+1):=by
  rcases b7.2 with⟨b4,_⟩|⟨f7,a9,ed,b4,gm,eq,ak,gd,ge,ei⟩
  .cases b4
  .cases b4;refine⟨ed,eq,aiI (ts:=u++[⟨6,(s.size:Nat),(s.size:Nat),0,0,⟨#[]⟩⟩]) (by rw[yI];exact ei) (by rw[aG,K.out.2.1];rfl) (λb8 T G=>?_)⟩;rcases bg b8 u.length with h|h
   .rw[gw h]at G;rw[rC (T:=T) (by rw[gw h];exact G)];exact⟨rfl,λ_=>rfl⟩
   .have a:b8=u.length:=by have:=(List.getElem?_eq_some_iff.1 G).1;simp at this;omega
    subst a;rw[eD (ag _),fx]at G;cases G;rw[rC (T:=⟨6,(s.size:Nat),(s.size:Nat),a0,0,⟨#[]⟩⟩) (by rw[eD (ag _),fx];rfl)];exact⟨rfl,λh=>absurd rfl h⟩
 obtain⟨v,q⟩:∃v:Pe,(⟨0,e.heap.size,o,y,tn+1,rj (u++[⟨6,(s.size:Nat),(s.size:Nat),a0,0,⟨#[]⟩⟩])⟩:Pe)=v:=⟨_,rfl⟩;have j:=l.2.2.1;have cd:Pp v (e.alloc (Ad #[U (O ⟨o,0,Y⟩) (tn+1) y,Z V 0] 52)) 0:=by
  rw[<-q];exact⟨by show tn+1<=_;omega,⟨ad,(0,0),((dC e _).block _ (ai F)).trans F,cz⟩,aA e _,by have:=an.size;show _<e.heap.size;omega,tt,ba,((dC e _).block _ (ai bh)).trans bh⟩
 obtain⟨b8,hS⟩:PI v .stats 0 x A:=ajh (by rw[<-q];exact j.k78) (by rw[<-q];show P _ (tn+1) _ _ _ _;rw[cb.out];exact j.p);have H:=arK (aiB (.inr (by rw[<-q];show(rj _ A).k=6;rw[j.end_])) hS) (by rw[<-q];show A<tn+1;have:=cb.out;omega) _ cd (by have:=j.sz;rw[bz];omega);have cx:(v.tk A).t=(s.size:Nat):=by rw[<-q];show(rj _ A).t=_;rw[j.end_]
 have bf:v.pb=e.heap.size:=by rw[<-q]
 unfold pV at H;rw[cx,bf]at H;have e9:(e.alloc (Ad #[U (O ⟨o,0,Y⟩) (tn+1) y,Z V 0] 52)).heap.size=e.heap.size+1:=fe _ _;have bt:=dC e (Ad #[U (O ⟨o,0,Y⟩) (tn+1) y,Z V 0] 52);have cu:cg w (e.alloc (Ad #[U (O ⟨o,0,Y⟩) (tn+1) y,Z V 0] 52)):=an.trans (bt.mono an.size);have c8:=(bt.block _ (ai b0)).trans b0;have hj:=ai b0;clear hS cd j F cz m bh b7 ap eo b6 d7 fq ft fu fv fz fA fB;generalize e.alloc (Ad #[U (O ⟨o,0,Y⟩) (tn+1) y,Z V 0] 52)=a5 at H e9 bt cu c8⊢;refine H.mono ?_;rintro a d9 ⟨fo,rfl,C⟩;obtain⟨ec,d1,ez⟩:=C.nb;have e3:=C.gr.size;have eL:=(C.gr.block w.heap.size (by omega) (λa=>by rw[bf]at a;have:=aJ a;omega)).trans c8;have el:cg w d9:=cu.grown C.gr (by omega) (λk i=>by rw[bf]at i;have:=aJ i;omega);have dx:=BD (xK a5.heap.size x) (N:=⟨1,0,(s.size:Nat),1,0,0,z0,[],[]⟩) d9 fo ec [] (U Y 0 0) d1 ⟨fs _ _ _ _,λhH e4=>(by cases e4)⟩ e3 (by have:=l.2.2.1.sz;rw[bz];simp;omega);clear H d1 ez C cx;go_wp2_with fail;refine dx.mono ?_;rintro a g ⟨hn,B,rfl,z,bk,F,⟨er,ew⟩,af,ey,_⟩;rw[dI]at z;obtain⟨b,c,rfl⟩:=di z.row;have cw:cg w g:=el.trans (af.bl.mono (by omega));have c9:=(af.bl.block w.heap.size (by omega)).trans eL;have hl:=af.bl.size;obtain⟨d,bw⟩:=aC B.length;rw[bw]at z;have d2:gg g (U b d c) (rm s x):=by
  have:=z.nds;rw[bk]at this;exact this
 have cc:B7 (Lw g a5.heap.size (U b d c) B/\B.map Mb.N=rm s x):=⟨z,bk⟩;rw[bw];have I:=dC g (Ad #[U b d c] 26);have cp:cg w (g.alloc (Ad #[U b d c] 26)):=cw.trans (I.mono cw.size);have L:=J.below cp (ag _);obtain⟨fk,ef,cB⟩:=L.lay.tabs.word;have d0:=ab8 (g.alloc (Ad #[U b d c] 26)) (U b d c) (rm s x) (d2.below I) l.2.2.1.sm L.lay.errs fk ef cB (λfF ep=>Aw L.asc ep (ag _)) l.2.2.2;have br:=aA g (Ad #[U b d c] 26);have bD:=(I.block _ (ai c9)).trans c9;have gz:(g.alloc (Ad #[U b d c] 26)).heap.size=g.heap.size+1:=fe _ _;have gl:∀(d8 fm:Ak)(w:A2),(Instr.field 58 (Ck #[d8,fm]) 0).run Ax w= .ok d8 w:=λ_ _ _=>by kernel_rfl
 clear dx z bk F er ew af ey d2 cB L bw;go_wp2_with fail;refine d0.mono ?_;rintro a n ⟨rfl,E⟩;have cI:=(E.block _ (ai br)).trans br;have bE:=(E.block _ (ai bD)).trans bD;have ek:cg w n:=cp.trans (E.mono (by omega));have g0:=E.size;have ev:∀k,k<g.heap.size->n.heap[k]?=g.heap[k]?:=λk i=>(E.block k (by omega)).trans (I.block k i);obtain⟨f3,f4,f5,f6⟩:=row3 bE;have ht:n.cell? ⟨g.heap.size,0,Y⟩=O (U b d c):=by rw[aj _ _ _ _ _ _ cI];rfl
 have gt:w.heap.size≠g.heap.size:=by omega
 have gu:=ai bE;clear d0 br bD I cI;go_wp2_with fail;refine leaves_cons (f:=9) (args:=#[A3 (O ⟨w.heap.size,0,Y⟩)]) (by simp) (by simp[go_sem]) ?_;refine(al4 ⟨w.heap.size,0,Y⟩ _).mono ?_;rintro a hy hD ⟨rfl,rfl,rfl⟩;have ak:=set3 bE (Z V 0) (Z V 0) (U b d c);have bd:=aiJ ek (Z V 0) (Z V 0) (U b d c);have c3:∀k,k≠w.heap.size->_:=λk i=>am2 (w:=n) (r:=w.heap.size) (k:=k) i (Z V 0) (Z V 0) (U b d c);have dg:n.heap.size<=(((n.setCell ⟨w.heap.size,0,Y⟩ (Z V 0)).setCell ⟨w.heap.size,1,Y⟩ (Z V 0)).setCell ⟨w.heap.size,2,Y⟩ (U b d c)).heap.size:=by simp[B2]
 generalize ((n.setCell ⟨w.heap.size,0,Y⟩ (Z V 0)).setCell ⟨w.heap.size,1,Y⟩ (Z V 0)).setCell ⟨w.heap.size,2,Y⟩ (U b d c)=a4 at ak bd c3 dg⊢;have b9:=dC a4 (Ad #[Z V 0] 42);have g9:=bd.size;have g1:n.heap.size<=a4.heap.size:=dg;have fd:Lw (a4.alloc (Ad #[Z V 0] 42)) a5.heap.size (U b d c) B:=cc.1.mono λk f9 eh=>(b9.block k (by omega)).trans ((c3 k (by omega)).trans (ev k eh));refine⟨_,io rfl _ _ w.heap.size _ _ _ _ rfl ((b9.block _ (ai ak)).trans ak) underlying28 rfl (by kernel_rfl),show PsP w 0 0 (rm s x) _ _ from⟨_,rfl,⟨B,_,cc.2,fd⟩,bd.trans (b9.mono (by omega))⟩⟩
