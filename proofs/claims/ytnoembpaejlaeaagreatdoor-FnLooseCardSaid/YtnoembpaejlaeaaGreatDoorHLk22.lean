import Derived.Test.YtnoembpaejlaeaaGreatDoorHLk20
import Derived.Test.YtnoembpaejlaeaaGreatDoorHLk19
import Derived.Test.YtnoembpaejlaeaaGreatDoorHLk21
set_option linter.all false
set_option maxRecDepth 100000
set_option maxHeartbeats 12800000
open Go.Proofs.Tryz renaming prog->M
open Option renaming none->O,some->U
open Go.RowKit renaming Below->V,Hid->B2,intOf->Ck
open Go.Value renaming slice->Y,int->A3,string->B0,agg->B6,tuple->Ce,nilIface->C2,pointer->Ex,slice->E1,bool->E2
open Go renaming World->Z,Value->Ax,Calls->Br,TypeId->B7,undef->Fs
open Go.Ending renaming returned->A0
open Go.Obj renaming cells->A2
open Go.IntKind renaming i64->A5
open Go.Lib renaming asciiSpaceTab->A9,TabIs->B5
open Bool renaming false->B1,true->B3
open List renaming replicate->B4
namespace Go.Proofs.YtnoembpaejlaeaaGreatDoor
open Go.Lib (strCells strCells_length wpList_append_own_string)
open Go.RowKit Go.Maps Go.WideMaps
variable{C:Cd}{R:Fo}{T s:ByteArray}{W w:World}{b i j n:Nat}{c k:Int}{l:List Wt}{ns:List Nd}{ts:List Tk}
def Rcw(C:Cd)(f:FuncId)(a:List Ax)(c:Cr)(v:Ax)(b:Cr):Prop:=
 ∀ ⦃E:Bs⦄ ⦃w:Z⦄,Cu C E w c->Br M f (cV E::a).toArray w λe w'=>e= A0 v/\Cu C E w' b/\V E.base w w'
def Ff(a b:ByteArray):strCells (a++b)=strCells a++strCells b:=by
 unfold strCells;rw[kC,Gq,dK]
def aeF{base g a:Nat}(b:w.ownsRow base 5 1 (Y (U ⟨g,0,O⟩) n a) n (strCells T)):
  (convert 22 9 (Y (U ⟨g,0,O⟩) n a)).run M w= .ok (B0 T) w:=by
 have c:strCells T=B8 (xj T.data.toList):=by
  unfold strCells B8 xj;rw[List.map_map];rfl
 rw[c]at b;rw[oh b,zC]
def qH(k:Int)(w:Z):Br M 38 #[A3 A5 k] w λe w'=>e= A0 (E2 (opn k))/\w'=w:=by
 by_cases a:k=46\/k=47\/k=40\/k=44\/k=10\/k=25
 .rcases a with rfl|rfl|rfl|rfl|rfl|rfl;all_goals
   go_in;go_wp2;go_ret;exact⟨rfl,rfl⟩
 .have e:((k==46)=B1/\(k==47)=B1/\(k==40)=B1)/\(k==44)=B1/\(k==10)=B1/\(k==25)=B1:=by simp only[dv];omega
  have c:opn k=decide (60<k):=by unfold opn;exact decide_eq_decide.2 (by omega)
  rw[c];clear a c;by_cases b:60<k
  .rw[bp b];go_in;go_wp2;go_ret;exact⟨rfl,rfl⟩
  .rw[aD b];go_in;go_wp2;go_ret;exact⟨rfl,rfl⟩
def blV:List ByteArray:=[⟨#[32]⟩,⟨#[32]⟩,⟨#[32]⟩,⟨#[32,32]⟩,⟨#[9]⟩,⟨#[13]⟩,⟨#[32,9,32]⟩]
def aqp:∀t∈blV,t.size<=5/\t∈Em:=λt a=>by
 simp only[blV,ij,mo,mu]at a;rcases a with rfl|rfl|rfl|rfl|rfl|rfl|rfl<;>exact⟨by decide,by simp[Em]⟩
def Eu{l:List ByteArray}{t:ByteArray}(h:w.cell? ⟨b,j,O⟩=(l.map Value.string).toArray[j]?)(ht:l[j]?=U t):w.cell? ⟨b,j,O⟩=U (B0 t):=by
 rw[h];simp[ht]
def adj(C:Cd)(c:Cr)(s:0<=c.p)(u:c.p<=800000000):∃(t:ByteArray) (c':Cr),(t.size<=5/\t∈Em)/\(c'.p=c.p+1/\c'.r=c.r)/\Rc C 39 [] c (B0 t) c':=by
 obtain⟨a,k,d,m,j⟩:=kL C c 7;obtain⟨a,rfl⟩:=iw d.1;obtain⟨t,e⟩:∃t,blV[a]?=U t:=⟨_,aA (show a<7 by omega)⟩;refine⟨t,k,(aqp t (dz e)),m,λn v b=>?_⟩;have g:=b.cw;have q:=d.2;have o:=d.1;go_in;go_wp2_with fail;refine g.al.run j λw1 h i=>?_;have r:=Eu (l:=blV) (Cp b i a) e;have f:=aq h;clear g h i b e;go_wp2_with fail;go_ret;exact⟨rfl,f.out.cu,f.out.gr⟩
inductive Loc (C:Cd) (s:ByteArray):List Tk->Cr->ByteArray->Cr->Prop
 |nil (c:Cr):Loc C s [] c ⟨#[]⟩ c
 |stop {T:Tk}{ts:List Tk}{c:Cr}:T.k=6->Loc C s (T::ts) c ⟨#[]⟩ c
 |sep {T:Tk}{ts:List Tk}{c c1 c2:Cr}{j:Nat}{b y:ByteArray}:T.k=5->j<6->IC[j]?=some b->Rc C 37 [.int .i64 6] c (.int .i64 j) c1->Loc C s ts c1 y c2->Loc C s (T::ts) c (b++y) c2
 |blank {T:Tk}{ts:List Tk}{c c1 c2:Cr}{b y:ByteArray}:T.k≠6->T.k≠5->opn T.k=false->b∈Em->Rc C 39 [] c (.string b) c1->Loc C s ts c1 y c2->Loc C s (T::ts) c (s.extract T.f.toNat T.t.toNat++b++y) c2
 |opn0 {T:Tk}{ts:List Tk}{c c1 c2 c3:Cr}{j:Nat}{b y:ByteArray}:T.k≠6->T.k≠5->opn T.k=true->Rc C 37 [.int .i64 4] c (.int .i64 0) c1->j<3->Fc[j]?=some b->Rc C 37 [.int .i64 3] c1 (.int .i64 j) c2->Loc C s ts c2 y c3->Loc C s (T::ts) c (s.extract T.f.toNat T.t.toNat++b++y) c3
 |opn1 {T:Tk}{ts:List Tk}{c c1 c2 c3:Cr}{u:Int}{b y:ByteArray}:T.k≠6->T.k≠5->opn T.k=true->Rc C 37 [.int .i64 4] c (.int .i64 u) c1->(u==0)=false->b∈Em->Rc C 39 [] c1 (.string b) c2->Loc C s ts c2 y c3->Loc C s (T::ts) c (s.extract T.f.toNat T.t.toNat++b++y) c3
def LoR(s:ByteArray)(ts:List Tk)(t:ByteArray):Prop:=∃i,LoC s (ts.take i) t/\(ts.length<=i\/∃T,ts[i]?=U T/\T.k=6)
def LoR.cons{s b a:ByteArray}{T:Tk}{ts:List Tk}(h:LoR s ts a)(d:PcT s T b):LoR s (T::ts) (b++a):=by
 obtain⟨e,c,h2⟩:=h;refine⟨e+1,.cons d c,?_⟩;rcases h2 with h2|h2
 .exact .inl (by simpa using h2)
 .exact .inr (by simpa using h2)
def ail(C:Cd)(s:ByteArray):∀(ts:List Tk)(c:Cr)(lo:Int),0<=c.p->c.p<=700000000-3*ts.length->(∀T∈ts,lo<=T.f/\T.f<=T.t/\T.t<=s.size)->ts.Pairwise (λa b=>a.t<=b.f)->0<=lo->lo<=s.size->∃(y:ByteArray) (c':Cr),(c.p<=c'.p/\c'.p<=c.p+3*ts.length/\c'.r=c.r)/\(y.size:Int)<=s.size-lo+10*ts.length/\LoR s ts y/\Loc C s ts c y c':=by
 intro ts
 induction ts with
 |nil=>
  intro c lo F z _ _ L A;simp only[ej]at z⊢;exact⟨⟨#[]⟩,c,by omega,by show(0:Int)<=_;omega,⟨0,.nil,.inl (ag _)⟩,.nil c⟩
 |cons T ts an=>
  intro c lo F z A ad L au;simp only[bm]at z⊢;by_cases j:T.k=6
  .exact⟨⟨#[]⟩,c,by omega,by show(0:Int)<=_;omega,⟨0,.nil,.inr ⟨T,rfl,j⟩⟩,.stop j⟩
  have av:=A T bg;obtain⟨J,K⟩:=List.pairwise_cons.1 ad;have rc:∀g:Cr,0<=g.p->g.p<=700000000-3*ts.length->_:=λg ao ap=>an g T.t ao ap (λE G=>⟨J E G,(A E (dm _ G)).2⟩) K (by omega) (by omega);have a0:((s.extract T.f.toNat T.t.toNat).size:Int)<=T.t-T.f:=by rw[qu];omega
  by_cases o:T.k=5
  .obtain⟨l,g,B,u,m⟩:=kL C c 6;obtain⟨l,rfl⟩:=iw B.1;obtain⟨b,d⟩:∃b,IC[l]?=U b:=⟨_,aA (show l<6 by omega)⟩;have q:=dz d;have al:b.size<=5:=(show ∀t∈IC,t.size<=5 by decide) b q;obtain⟨y,e,w,n,i,h⟩:=rc g (by omega) (by omega);exact⟨b++y,e,by omega,by rw[ay];omega,i.cons ⟨j,.inl ⟨o,q⟩⟩,.sep o (by omega) d m h⟩
  have x:∀{b y:ByteArray}{e:Cr},(b∈Em\/(opn T.k=B3/\b∈Fc))->b.size<=5->(c.p<=e.p/\e.p<=c.p+3*((ts.length+1:Nat):Int)/\e.r=c.r)->(y.size:Int)<=s.size-T.t+10*ts.length->LoR s ts y->Loc C s (T::ts) c (s.extract T.f.toNat T.t.toNat++b++y) e->_:=λ{b y e} d al u a1 ak h=>(⟨_,e,u,by rw[ay,ay];omega,ak.cons ⟨j,.inr ⟨o,b,d,rfl⟩⟩,h⟩:∃(y:ByteArray) (c':Cr),(c.p<=c'.p/\c'.p<=c.p+3*((ts.length+1:Nat):Int)/\c'.r=c.r)/\(y.size:Int)<=s.size-lo+10*((ts.length+1:Nat):Int)/\LoR s (T::ts) y/\Loc C s (T::ts) c y c');cases ho:opn T.k with
  |false=>
   obtain⟨b,g,d,u,m⟩:=adj C c F (by omega);obtain⟨y,e,w,n,i,h⟩:=rc g (by omega) (by omega);exact x (.inl d.2) d.1 (by omega) n i (.blank j o ho d.2 m h)
  |true=>
   obtain⟨ar,g,ax,u,m⟩:=kL C c 4;by_cases H:ar=0
   .subst H;obtain⟨l,e,B,af,v⟩:=kL C g 3;obtain⟨l,rfl⟩:=iw B.1;obtain⟨b,d⟩:∃b,Fc[l]?=U b:=⟨_,aA (show l<3 by omega)⟩;have q:=dz d;obtain⟨y,I,w,n,i,h⟩:=rc e (by omega) (by omega);exact x (.inr ⟨ho,q⟩) ((show ∀t∈Fc,t.size<=5 by decide) b q) (by omega) n i (.opn0 j o ho m (by omega) d v h)
   .obtain⟨b,e,d,af,v⟩:=adj C g (by omega) (by omega);obtain⟨y,I,w,n,i,h⟩:=rc e (by omega) (by omega);exact x (.inl d.2) d.1 (by omega) n i (.opn1 j o ho m (by simpa using H) d.2 v h)
def akF{f c n k g d o n2:Nat}{a e:Ax}{p q:List Ax}(l:w.ownsRow f c n a k p)(m:w.ownsRow g d o e n2 q)(j:c≠d):a.ownBlock=O\/a.ownBlock≠e.ownBlock:=by
 rcases m.2 with⟨b,_⟩|⟨u,s,t,b,_,i,_⟩
 .rw[b];cases h:a.ownBlock with
  |none=>exact .inl rfl
  |some r=>exact .inr (by simp[Value.ownBlock])
 .right;rw[b];exact gq l i (dA j)
structure Lo (C:Cd) (E:Bs) (W w:Z) (c:Cr) (v:Ax) (t:ByteArray) (tv:Ax) (ts:List Tk):Prop where
 cu:Cu C E w c
 out:w.ownsRow E.base 5 1 v t.size (strCells t)
 tok:w.ownsRow E.base 46 6 tv ts.length (zm ts)
 bel:V E.base W w
section
variable {C : Cd} {E : Bs} {W w w' : World} {c c' : Cr} {v tv u : Value} {t : ByteArray} {ts : List Tk} {f : FuncId} {ar : List Value} {Q : Ending → World → Prop}
def Lo.below(h:Lo C E W w c v t tv ts)(a:V w.heap.size w w'):Lo C E W w' c v t tv ts:=
 ⟨h.cu.below a,cJ h.out a,cJ h.tok a,h.bel.trans (a.mono h.cu.lo.2)⟩
def Lo.al{o:Obj}(h:Lo C E W w c v t tv ts):Lo C E W (w.alloc o) c v t tv ts:=h.below (dE w o)
def Lo.run(a:Lo C E W w c v t tv ts)(k:Rc C f ar c u c')(h:∀w',Lo C E W w' c' v t tv ts->w.grownBy w' (U E.cb)->Q (A0 u) w'):Br M f (cV E::ar).toArray w Q:=by
 refine(k a.cu).mono ?_;rintro e w' ⟨rfl,d,b⟩;exact h w' ⟨d,a.out.kept b (.inr (gq a.out a.cu.cur (by decide))),a.tok.kept b (.inr (gq a.tok a.cu.cur (by decide))),a.bel.trans (xJ b a.cu.lo.1 a.cu.lo.2)⟩ b
def Lo.app{j:Array Oper}{l:List Oper}{o:Oper}{a:Act}{Q:Exit->Act->Z->Prop}(h:Lo C E W w c v t tv ts)(s:ByteArray)(q:(t++s).size<=4000000)(m:o.guard=O)(sl x:Operand)
  (n:o.op= .call {callee:= .builtin .append,args:=#[sl,x],argTypes:=#[22,9]}) (u:a.eval sl=v) (y:a.eval x= .string s)
  (k:∀f w1,Lo C E W w1 c f (t++s) tv ts->(∀(b:Nat)(cs:Array Ax)(tt:B7)(fr:Nat×Nat),w.heap[b]?=U (.cells cs tt fr)->tt≠5->w1.heap[b]?=U (.cells cs tt fr))->wpList M j Q l (a.put o.dst f) w1):wpList M j Q (o::l) a w:=by
 obtain⟨z,A,B,F,G⟩:=eD Tryz.info5;rw[ay]at q;refine wpList_append_own_string _ m sl x 22 9 n E.base 5 z Tryz.underlying22 Tryz.underlying9 A B F G _ _ _ u h.out s y (by unfold maxLen;omega) (by omega) h.cu.lo.2 ?_;intro f w5 p e _;have i:V E.base w w5:=(ai _ w).grown e h.cu.lo.2 (λk d=>(h.out.lt k d).1);exact k f w5 ⟨⟨⟨h.cu.lo.1,bG h.cu.lo.2 i.size⟩,h.cu.code.below i,(e.block _ h.cu.lt (λg=>gq h.out h.cu.cur (by decide) g.symm)).trans h.cu.cur⟩,by rw[ay,Ff];exact p,h.tok.kept e (akF h.tok h.out (by decide)),h.bel.trans i⟩ (λb cs tt fr d r=>(e.block _ (aj d) (λg=>gq h.out d r g.symm)).trans d)
def Lo.conv(h:Lo C E W w c v t tv ts):(convert 22 9 v).run M w= .ok (B0 t) w:=by
 rcases bB h.out with⟨b,rfl⟩|⟨e,d,rfl⟩
 .have a:t=ByteArray.empty:=by
   have:t.data=#[]:=Array.eq_empty_of_size_eq_zero b;cases t;simp_all;first|rfl|done
  rw[a];exact xK w
 .exact aeF h.out
def Lo.cells{a:Option Addr}{j:Nat}(h:Lo C E W w c v t (Y a n j) ts)(m:ts.length=n){T:Tk}(e:ts[i]?=U T):∃g,a=U ⟨g,0,O⟩/\w.cell? ⟨g,i*6,O⟩=U (A3 A5 T.k)/\w.cell? ⟨g,i*6+1,O⟩=U (A3 A5 T.f)/\w.cell? ⟨g,i*6+2,O⟩=U (A3 A5 T.t)/\w.cell? ⟨g,i*6+3,O⟩=U (A3 A5 T.l)/\w.cell? ⟨g,i*6+4,O⟩=U (A3 A5 T.n)/\w.cell? ⟨g,i*6+5,O⟩=U (B0 T.x):=by
 subst m;have s:i<ts.length:=(List.getElem?_eq_some_iff.1 e).1;rcases bB h.tok with⟨r,_⟩|⟨g,p,d⟩
 .omega
 .have q:=d;cases d;have k:=h.tok;refine⟨g,rfl,?_⟩;have c:∀b,b<6->w.cell? ⟨g,i*6+b,O⟩=(cTk T)[b]?:=λb o=>by rw[k.cellAt (i*6+b) (by omega),If ts i b T e o]
  exact⟨c 0 (by omega),c 1 (by omega),c 2 (by omega),c 3 (by omega),c 4 (by omega),c 5 (by omega)⟩
end
def adk{t:ByteArray}{c a8:Cr}(z:agE s)(df:s.size<=65536)(a2:Loc C s (na s).1 c t a8)(ht:t.size<=1048576):Rcw C 18 [B0 s] c (B0 t) a8:=by
 intro bn a5 ba;replace z:=z a5;have bb:=Kv s;have b1:(na s).1.length<=65537:=by have:=DK s;omega
 unfold TkP at z;generalize (na s).1=A at z bb b1 a2;generalize (na s).2=d1 at z;obtain⟨I,a1⟩:=aF A.length;rw[a1]at z b1;go_in;go_wp2_with fail;refine z.mono ?_;rintro w w1 ⟨bs,bw,rfl,b2,n⟩;have cn:=ba.lo;have bo:Lo C bn a5 w1 c (Y O 0 0) ⟨#[]⟩ (Y bs I bw) A:=⟨ba.below n,eI _ _ _ _,by rw[a1];exact jG b2 (λcb _ cz cB=>⟨rfl,by omega⟩),n.mono cn.2⟩;have av:=gE a1 bb;clear z b2 n a1 bb ba;go_wp2_with fail;go_loopw [7,20] (λct iv wr=>∃(a:Nat) (u bl:ByteArray) (a6:Cr),iv= A3 A5 a/\a<=I/\Lo C bn a5 wr a6 ct u (Y bs I bw) A/\Loc C s (A.drop a) a6 bl a8/\u++bl=t) (λ_ iv _=>I-(Ck iv).toNat)
 case atStart=>exact⟨0,⟨#[]⟩,t,c,rfl,aI _,bo,a2,ajn t⟩
 case round=>
  clear bo a2;obtain⟨a,u,bl,a6,rfl,dd,d,ar,w⟩:=hrel;by_cases da:a<I
  .have a0:a<A.length:=by have:=av.1;omega
   obtain⟨b,ak⟩:∃b,A[a]?=U b:=⟨_,aA a0⟩;have bE:A.drop a=b::A.drop (a+1):=by rw[lp a0];rw[aA a0]at ak;rw[bc ak]
   rw[bE]at ar;have cc:=av.2.each b (dz ak);obtain⟨cb,rfl,bv,b9,ca,cx,cy,c5⟩:=d.cells av.1 ak;have dc:(0:Int)<=(a:Int):=by omega
   have cd:(a:Int)<(I:Int):=by omega
   have g:=aq w;obtain⟨f,bd⟩:=iw (show 0<=b.f by omega);obtain⟨e,bf⟩:=iw (show 0<=b.t by omega);rw[bd]at b9;rw[bf]at ca;have cI:f<=e/\e<=s.size:=by omega
   have cF:(0:Int)<=(f:Int):=by omega
   have c8:(f:Int)<=(e:Int):=by omega
   have c9:(e:Int)<=(s.size:Int):=by omega
   have L:=gE bd bf;clear bE ak w bd bf cc a0;cases ar with
   |stop G=>
    rw[G]at bv;have cq:=λo=>(d.al (o:=o)).conv;have p:=aq λo=>d.al (o:=o);have bA:=g.out;rw[ach]at bA;subst bA;clear d;go_wp2_with fail;go_ret;exact⟨rfl,(p _).cu,(p _).bel⟩
   |@sep _ _ _ ad _ H m K F ce n x B=>
    rw[F]at bv;have ck:(0:Int)<=(H:Int):=by omega
    have cl:(H:Int)<6:=by omega
    have r:(u++m).size<=4000000:=by have:=congrArg ByteArray.size g.out;simp only[ay]at this⊢;omega
    have p:=kJ d x (λcr dq:Obj=>(d.al (o:=cr)).cu);clear d x;go_wp2_with fail;refine p.1.al.al.run p.2.1 λd0 br a9=>?_;have bh:=Cp (p.1.al).cu a9 H;rw[de]at bh;have b4:=Eu (l:=IC) bh n;clear bh;have bt:=(a9.block wr.heap.size (by simp;omega) (λw=>by have:=p.1.cu.lt;have:=bc w;omega)).trans (((dE (wr.alloc _) _).block wr.heap.size (by simp)).trans (aB wr _));have b5:=aq br;clear br a9 n;go_wp2_with (at_builtin;refine b5.out.app m r rfl _ _ rfl rfl rfl ?_;intro bj J j h;have q:=h _ _ _ _ bt (by decide);have ap:=λa=>am J wr.heap.size a _ _ _ q);clear b4 bt h;refine ft (qH _ _) ?_;go_wp2_with fail;go_roundw
    case rel=>exact⟨a+1,_,K,ad,by go_num,by omega,j,B,by rw[dh];exact g.out⟩
    case measure=>simp[Ck];omega
   |@blank _ _ _ ad _ m K G F an n x B=>
    have bD:(b.k==6)=B1/\(b.k==5)=B1:=by simp[G,F]
    have y:s.extract b.f.toNat b.t.toNat=s.extract f e:=by rw[L.out.1,L.out.2];rfl
    rw[y]at g;have r:(u++s.extract f e++m).size<=4000000:=by have:=congrArg ByteArray.size g.out;simp only[ay]at this⊢;omega
    have ao:(u++s.extract f e).size<=4000000:=by simp only[ay]at r⊢;omega
    have i:=gE (λo=>d.al (o:=o)) (λaf=>aB wr (A2 af 46));clear d y;go_wp2_with (at_builtin;refine(i.1 _).app (s.extract f e) ao rfl _ _ rfl rfl rfl ?_;intro bj J j h;have q:=h _ _ _ _ (i.2 _) (by decide);have ap:=λa=>am J wr.heap.size a _ _ _ q);clear h i;refine ft (qH _ _) ?_;rw[an];go_wp2_with fail;refine j.run x λbk v _=>?_;have b6:=aq v;clear j v;go_wp2_with (at_builtin;refine b6.out.app m r rfl _ _ rfl rfl rfl ?_;intro dx w5 E au);go_roundw
    case rel=>exact⟨a+1,_,K,ad,by go_num,by omega,E,B,by rw[<-g.out];simp only[dh]⟩
    case measure=>simp[Ck];omega
   |@opn0 _ _ _ ad a7 _ H m K G F an x ce n a3 B=>
    have bD:(b.k==6)=B1/\(b.k==5)=B1:=by simp[G,F]
    have ck:(0:Int)<=(H:Int):=by omega
    have cl:(H:Int)<3:=by omega
    have y:s.extract b.f.toNat b.t.toNat=s.extract f e:=by rw[L.out.1,L.out.2];rfl
    rw[y]at g;have r:(u++s.extract f e++m).size<=4000000:=by have:=congrArg ByteArray.size g.out;simp only[ay]at this⊢;omega
    have ao:(u++s.extract f e).size<=4000000:=by simp only[ay]at r⊢;omega
    have i:=gE (λo=>d.al (o:=o)) (λaf=>aB wr (A2 af 46));clear d y;go_wp2_with (at_builtin;refine(i.1 _).app (s.extract f e) ao rfl _ _ rfl rfl rfl ?_;intro bj J j h;have q:=h _ _ _ _ (i.2 _) (by decide);have ap:=λa=>am J wr.heap.size a _ _ _ q);clear h i;refine ft (qH _ _) ?_;rw[an];go_wp2_with fail;refine j.run x λbk v ax=>?_;clear ax ap j;have b3:=v.cu;go_wp2_with fail;refine v.al.run a3 λw5 E b0=>?_;have b4:=Eu (l:=Fc) (Cp b3 b0 H) n;have au:=aq E;clear v E b0 b3 n;go_wp2_with (at_builtin;refine au.out.app m r rfl _ _ rfl rfl rfl ?_;intro cv cw a4 b7);go_roundw
    case rel=>exact⟨a+1,_,K,a7,by go_num,by omega,a4,B,by rw[<-g.out];simp only[dh]⟩
    case measure=>simp[Ck];omega
   |@opn1 _ _ _ ad a7 _ ds m K G F an x dg n a3 B=>
    have bD:(b.k==6)=B1/\(b.k==5)=B1:=by simp[G,F]
    have y:s.extract b.f.toNat b.t.toNat=s.extract f e:=by rw[L.out.1,L.out.2];rfl
    rw[y]at g;have r:(u++s.extract f e++m).size<=4000000:=by have:=congrArg ByteArray.size g.out;simp only[ay]at this⊢;omega
    have ao:(u++s.extract f e).size<=4000000:=by simp only[ay]at r⊢;omega
    have i:=gE (λo=>d.al (o:=o)) (λaf=>aB wr (A2 af 46));clear d y;go_wp2_with (at_builtin;refine(i.1 _).app (s.extract f e) ao rfl _ _ rfl rfl rfl ?_;intro bj J j h;have q:=h _ _ _ _ (i.2 _) (by decide);have ap:=λa=>am J wr.heap.size a _ _ _ q);clear h i;refine ft (qH _ _) ?_;rw[an];go_wp2_with fail;refine j.run x λbk v ax=>?_;have b8:=(ax.block _ (aj q) (λw=>by have:=j.cu.cur;rw[<-bc w,q]at this;simp at this)).trans q;have dn:=λa=>am bk wr.heap.size a _ _ _ b8;clear ax ap j;go_wp2_with fail;refine v.run a3 λw5 E _=>?_;have au:=aq E;clear v E;go_wp2_with (at_builtin;refine au.out.app m r rfl _ _ rfl rfl rfl ?_;intro cv cw a4 b7);go_roundw
    case rel=>exact⟨a+1,_,K,a7,by go_num,by omega,a4,B,by rw[<-g.out];simp only[dh]⟩
    case measure=>simp[Ck];omega
  .have cd:¬(a:Int)<(I:Int):=by omega
   have cq:=d.conv;rw[List.drop_eq_nil_of_le (by have:=av.1;omega)]at ar;cases ar;rw[ach]at w;subst w;have p:=aq d;clear d;go_wp2_with fail;go_ret;exact⟨rfl,p.out.cu,p.out.bel⟩
end Go.Proofs.YtnoembpaejlaeaaGreatDoor
namespace Go.Proofs.YtnoembpaejlaeaaGreatDoor
open Go.RowKit Go.Maps Go.WideMaps
variable{C:Cd}{R:Fo}{T s:ByteArray}{W w:World}{b i j n:Nat}{c k:Int}{l:List Wt}{ns:List Nd}{ts:List Tk}
def Lw.kcap{lo g c:Nat}{L:List Mb}(h:Lw w lo (Y (U ⟨g,0,O⟩) n c) L)(m:L.length=n):Do w ⟨g,0,O⟩ (L.map Mb.N):=λa N q r d b=>by
 subst m;rw[cH]at d;obtain⟨p,e,rfl⟩:=Option.map_eq_some_iff.1 d;obtain⟨_,_,_,_,_,_,_,_,k⟩:=rB h.row e;have l:(⟨((⟨g,0,O⟩:Addr).add (a*9)).block,((⟨g,0,O⟩:Addr).add (a*9)).off+8,O⟩:Addr)=⟨g,a*9+8,O⟩:=by
  unfold Addr.add;split<;>simp_all
 rw[l,k]at b;have o:=bc b;have f:=(h.each p (dz e)).2;rw[o]at f;rcases f.2 with⟨i,j⟩|⟨u,s,t,i,_,_,j,_⟩
 .omega
 .cases i;exact j
def I0.small{N:Nd}(h:I0 N):kH N:=⟨by have:=h.nm;omega,by have:=h.ks;omega,by have:=h.x.size;omega,λb a=>by have:=(h.s b a).sz;omega⟩
def AL(ns:List Nd):(jk ns).size<=65536:=by
 unfold jk;split
 .unfold Hn;split
  .decide
  .omega
 .decide
def GdX(t:ByteArray):Prop:=∃a:List Nd,(∀b∈a,I0 b)/\a.length<=265/\bigs a<=3/\LoR (jk a) (na (jk a)).1 t
def TkA:Prop:=∀a:List Nd,(∀b∈a,I0 b)->a.length<=265->bigs a<=3->agE (jk a)
structure Cy (C:Cd) (E:Bs) (W w:Z) (c:Cr):Prop where
 cu:Cu C E w c
 bel:V E.base W w
section
variable {C : Cd} {E : Bs} {w w' W : World} {c c' : Cr} {v : Value} {ar : List Value} {f : FuncId} {Q : Ending → World → Prop}
def Cy.below(a:Cy C E W w c)(b:V w.heap.size w w'):Cy C E W w' c:=⟨a.cu.below b,a.bel.trans (b.mono a.cu.lo.2)⟩
def Cy.al{o:Obj}(a:Cy C E W w c):Cy C E W (w.alloc o) c:=a.below (dE w o)
def Cy.run(a:Cy C E W w c)(k:Rcw C f ar c v c')(h:∀w',Cy C E W w' c'->Q (A0 v) w'):Br M f (cV E::ar).toArray w Q:=
 (k a.cu).mono λd w' b=>b.1 ▸ h w' ⟨b.2.1,a.bel.trans b.2.2⟩
end
def aoj(a4:TkA)(C:Cd)(c:Cr)(ak:0<=c.p/\c.p<=100)(a6:c.r=0):∃(t:ByteArray) (c':Cr),(t.size<=721000/\GdX t)/\(0<=c'.p/\c'.p<=20300000/\0<=c'.r/\c'.r<=3)/\Rcw C 10 [] c (B0 t) c':=by
 obtain⟨a,B,b,v⟩:=an8 C c ak (by omega);have L:=AL a;have a5:=DK (jk a);have j:=Kv (jk a);have I:=b.p;have a2:=b.r;obtain⟨t,ax,a0,a1,G,u⟩:=ail C (jk a) (na (jk a)).1 B 0 I.1 (by omega) (λau d=>by have:=j.each au d;omega) j.next (by decide) (by omega)
 refine⟨t,ax,⟨by omega,a,b.nd,b.n.2,by omega,G⟩,by omega,λap av h=>?_⟩;have w:=adk (a4 a b.nd b.n.2 (by omega)) L u (by omega);have m:=b.nd;have af:=b.n.2;clear a0 a1 G u j a5 I a2 ak a6 b;have an:=v h;have a8:=h.lo;clear h v;go_in;go_wp2_with fail;refine an.mono ?_;rintro F w1 ⟨H,E,ar,rfl,i,d,J,ad⟩;obtain⟨n,f⟩:=aF a.length;rw[f]at d af⊢;have K:ar.length=n:=by rw[<-f,<-i,bi]
 have k:∀e,Br M 25 #[B6 #[Y (U ⟨H,0,O⟩) n E]] (w1.alloc e) λF a7=>F= A0 (B0 (jk a))/\V (w1.alloc e).heap.size (w1.alloc e) a7:=λe=>by
  have z:=dE w1 e;have nd:=d.lw.nds;have ao:=d.lw.kcap K;rw[i]at nd ao;exact Fa (w1.alloc e) ⟨H,0,O⟩ n E a (nd.below z) (ao.below nd z) f (by omega) (λg l=>(m g l).small) (λg l=>(m g l).int)
 have x:Cy C ap av w1 B:=⟨J,ad⟩;generalize jk a=P at k w L;have o:=aq x;clear an d J ad i K x f af m;go_wp2_with fail;refine du (k _) λa9 A=>?_;have q:=aq (o.out.al.below A);clear k A o;go_wp2_with fail;refine q.out.run w λba y=>?_;have s:=aq y;clear y q;go_wp2_with fail;go_ret;exact⟨rfl,s.out.cu,s.out.bel⟩
def aim(d:Wzd ns)(p:∀i:Nat,i<ns.length->I0 (ae ns i)):∀(f i tab:Nat),i<f->i<ns.length->
  (gw (ae ns i).k=B3->Ey ns i (AB ns f i tab))/\(jz (ae ns i).k=B3->SCl ns i (tK ns f i tab))/\((ae ns i).k=7->∃y,BCl ns i y/\∀w,zG ns f i w tab=w++y)
 |0,i,tab,r,_=>by omega
 |f+1,i,tab,r,l=>by
  have m:=λ(b g:Nat) (e:b<i) (c:b<ns.length)=>aim d p f b g (by omega) c;have n:JzE ns (λk=>AB ns f k tab) (λk g=>tK ns f k g) i tab:=⟨λb e c a=>(m b tab e c).1 a,λb e c a=>(m b (tab+1) e c).2.1 a,p⟩;have o:(ae ns i).k=7->∃y,BCl ns i y/\∀w,Dl ns (λk=>AB ns f k tab) (λk g=>tK ns f k g) (λk w=>zG ns f k w tab) (ae ns i) w tab=w++y:=λa=>
   arq n d l a λb e c a=>(m b tab e c).2.2 a
  refine⟨λa=>?_,λa=>?_,λa=>?_⟩
  .rw[AB];exact aoe n d l a
  .rw[tK];exact aof n d l a λq=>by
    obtain⟨y,h,j⟩:=o q;exact⟨y,h,j _⟩
  .obtain⟨y,h,j⟩:=o a;exact⟨y,h,λw=>by rw[zG];exact j w⟩
def adl(l:List Wt)(c:Fo):Prop:=∀(a:Nat->Tk)(n j:Nat),j<n->oL a n 0 l j->(a j).k=6->∃b:Fo,b.bare=c/\P a n .stats 0 b j/\DD a n [100,6] 0 (j+1)
def Lm:adl [] .nil:=λf e d b c a=>by
 obtain rfl:=c.nils;exact⟨.nil,rfl,.sstop (.inr a) b,DD.exp a (by decide:xE 100 6=([],B3)) b (DD.tok a b ⟨0,.nil⟩)⟩
def Gf{S:Int->ByteArray}:∀(ks:List Int),(∀z∈ks,∃y:Nat,z=(y:Int)/\SCl ns y (S y))->∃m,iJ pz (⟨#[10]⟩++jh (ks.map λk=>S k++⟨#[10]⟩)) m/\SLc m (ql (Sh ns) ks)/\(cst m:Int)<=wK ns ks+11
 |[],_=>⟨[nlW],acH,SLc.nil,by show(11:Int)<=0+11;decide⟩
 |z::r,h=>by
  obtain⟨y,rfl,l,b,c,d,g⟩:=h z bg;obtain⟨m,e,f,i⟩:=Gf r λy a=>h y (dm _ a);refine⟨nlW::(l++m),?_,SLc.cons d f,by simp only[cst,cj,wt,sgF,lG,nlW,Int.reduceLT,reduceIte];rw[wK];omega⟩;rw[dw,Ec,dh];exact acH.app (c.app e az Bc) (az b) rfl
def akG(h:(dD ns).1=0)(p:∀i:Nat,i<ns.length->I0 (ae ns i)):
  ∃l,Rz (mC ns) 0 l (mC ns).size/\adl l (ql (Sh ns) (ae ns ((ns.length:Int)-1)).ks)/\(cst l:Int)<=Wp ns ns.length:=by
 have b:=Ik h;have B:=b.len;have n:((ns.length:Int)-1)=((ns.length-1:Nat):Int):=by omega
 have g:=(abe h).2.2;have k:=b.root;unfold mC;rw[n]at g k⊢;rw[<-k,b.at_ (ns.length-1) (by omega)];have F:=wE (ae ns ((ns.length-1:Nat):Int));have q:=(jJ (b.nb (ns.length-1) (by omega))).1;have c:∀d∈(ae ns ((ns.length-1:Nat):Int)).ks,∃a:Nat,d=(a:Int)/\SCl ns a (tK ns ns.length a 0):=λd c=>by
  obtain⟨a,rfl,y,f,s,A,o⟩:=td b (by omega) c;have j:=Kw _ 0 (yF q g) s (by omega) (by omega);rw[o]at j;exact⟨a,rfl,(aim b p ns.length a 0 f f).2.1 j⟩
 cases er:(ae ns ((ns.length-1:Nat):Int)).ks with
 |nil=>
  exact⟨[],.nil,Lm,by simp only[cst,wK];omega⟩
 |cons d m=>
  rw[er]at c;obtain⟨a,rfl,l,C,t,u,E⟩:=c d bg;obtain⟨v,w,x,G⟩:=Gf (S:=λe=>tK ns ns.length e 0) m λa r=>c a (dm _ r);refine⟨l++v,?_,am4 u x,by rw[cj,wK];omega⟩;rw[dw,Ec,dh];have:=(t.app w az Bc) (tK ns ns.length a 0++(⟨#[10]⟩++jh (m.map λe=>tK ns ns.length e 0++⟨#[10]⟩))) 0 ⟨by omega,λi z=>by rw[iG]⟩ rfl;rw[iG]at this;exact this
inductive tE:List Wt->List Wt->Prop where
 |nil:tE [] []
 |tok {t:Wt}{l e:List Wt}:t.k≠7->tE l e->tE (t::l) (t::e)
 |sep {t u:Wt}{l e:List Wt}:t.k=7->u.k=7->tE l e->tE (t::l) (u::e)
 |more {t u:Wt}{l e:List Wt}:t.k=7->u.k=7->tE (t::l) e->tE (t::l) (u::e)
def tE.refl:∀(l:List Wt),tE l l
 |[]=> .nil
 |t::l=>by
  by_cases h:t.k=7
  .exact .sep h h (tE.refl l)
  .exact .tok h (tE.refl l)
def tE.seg{e:List Wt}(h:tE l e):∀{tk:Nat->Tk}{n i:Nat},i+e.length<=n->(∀q t,e[q]?=U t->(tk (i+q)).k=Fb t/\(t.k≠7->(tk (i+q)).n=t.n/\(tk (i+q)).x=t.x))->oL tk n i l (i+e.length):=by
 induction h with
 |nil=>intro tk n i _ _;exact .nil
 |@tok t l e b m j=>
  intro tk n i f c;rw[bm]at f⊢;obtain⟨a,d⟩:=c 0 t rfl;rw[gD]at a d;unfold Fb at a;rw[aa b]at a;have:=j (tk:=tk) (n:=n) (i:=i+1) (by omega) λq t g=>by have:=c (q+1) t g;rw[show i+1+q=i+(q+1) by omega];exact this
  rw[show i+(e.length+1)=i+1+e.length by omega];exact .tok b a (d b).1 (d b).2 (by omega) this
 |@sep t o l e b m p j=>
  intro tk n i f c;rw[bm]at f⊢;obtain⟨a,d⟩:=c 0 o rfl;rw[gD]at a d;unfold Fb at a;rw[ab m]at a;have:=j (tk:=tk) (n:=n) (i:=i+1) (by omega) λq t g=>by have:=c (q+1) t g;rw[show i+1+q=i+(q+1) by omega];exact this
  rw[show i+(e.length+1)=i+1+e.length by omega];exact .sep b a (by omega) this
 |@more t o l e b m p j=>
  intro tk n i f c;rw[bm]at f⊢;obtain⟨a,d⟩:=c 0 o rfl;rw[gD]at a d;unfold Fb at a;rw[ab m]at a;have:=j (tk:=tk) (n:=n) (i:=i+1) (by omega) λq t g=>by have:=c (q+1) t g;rw[show i+1+q=i+(q+1) by omega];exact this
  rw[show i+(e.length+1)=i+1+e.length by omega];exact .more b a (by omega) this
def aqq{w c:ByteArray}{n:Int}(h:Alo w k n c):1<=k/\k<=78/\k≠6:=by
 have b:=acs w 0 h.ok;have a:=act w 0 h.ok;unfold xA at a;rw[ab h.ok]at a;rw[h.ki]at b a;exact⟨b.1,b.2,a⟩
def arr{p q:Nat}(h:Rz T p l q):∀t∈l,1<=Fb t/\Fb t<=78/\Fb t≠6:=by
 induction h with
 |nil=>intro t f;cases f
 |bl b c a=>exact a
 |rem b c d a=>exact a
 |tok b c d g i j k a=>
  intro e hu;rcases List.mem_cons.1 hu with rfl|hu
  .unfold Fb;rw[aa b];exact aqq d
  .exact a e hu
 |sep b c d a=>
  intro e hu;rcases List.mem_cons.1 hu with rfl|hu
  .decide
  .exact a e hu
def Tks.at_{e:List Wt}(h:Tks T e ts):ts.length=e.length/\∀(q:Nat) t,e[q]?=U t->∃X:Tk,ts[q]?=U X/\X.k=Fb t/\(t.k≠7->X.n=t.n/\X.x=t.x):=by
 induction h with
 |nil=>exact⟨rfl,λq t h=>by simp at h⟩
 |@tok t o X ts d f i j l m p r b=>
  refine⟨by simp[b.1],λq c a=>?_⟩;cases q with
  |zero=>
   obtain rfl:t=c:=by simpa using a
   exact⟨X,rfl,by unfold Fb;rw[aa d];exact j,λ_=>⟨l,m⟩⟩
  |succ q=>exact b.2 q c (by simpa using a)
 |@sep t o X ts d f i b=>
  refine⟨by simp[b.1],λq c a=>?_⟩;cases q with
  |zero=>
   obtain rfl:t=c:=by simpa using a
   exact⟨X,rfl,by unfold Fb;rw[ab d];exact f,λg=>absurd d g⟩
  |succ q=>exact b.2 q c (by simpa using a)
def Bh(T:ByteArray)(a:Int):Tk:=⟨6,(T.size:Nat),(T.size:Nat),a,0,⟨#[]⟩⟩
def IH{X E:Tk}{q:Nat}(h:ts[q]?=U X):uy (ts++[E]) q=X:=xr (by rw[iq (List.getElem?_eq_some_iff.1 h).1];exact h)
def II(ts:List Tk)(E:Tk):uy (ts++[E]) ts.length=E:=xr (by rw[gh (ag _),fG];rfl)
def abo{e:List Wt}{q:Fo}(t:Rz T 0 e T.size)(o:tE l e)(r:adl l q):∃ts m f,nD T=(ts++[Bh T m],f, -1)/\(dy f 6).2=B3/\Tks T e ts/\(∀X∈ts,X.k≠6)/\∃X:Fo,X.bare=q/\P (uy (ts++[Bh T m])) (ts.length+1) .stats 0 X ts.length:=by
 have s:=arr t;obtain⟨h,w⟩:∃h:List Tk,h=e.map λb=>(⟨Fb b,0,0,0,b.n,b.x⟩:Tk):=⟨_,rfl⟩;have ad:h.length=e.length:=by rw[w,bi]
 have u:∀a b,e[a]?=U b->uy (h++[Bh T 0]) a=⟨Fb b,0,0,0,b.n,b.x⟩:=λa b d=>IH (by rw[w,cH,d];rfl);have v:uy (h++[Bh T 0]) e.length=Bh T 0:=by rw[<-ad];exact II _ _
 have x:=o.seg (tk:=uy (h++[Bh T 0])) (n:=e.length+1) (i:=0) (by omega) λa b d=>by rw[iG,u a b d];exact⟨rfl,λ_=>⟨rfl,rfl⟩⟩
 rw[iG]at x;obtain⟨_,_,_,af,C⟩:=r _ _ _ (Nat.lt_succ_self _) x (by rw[v];rfl);obtain⟨ao,j⟩:=alq (e.map Fb++[6]) [100,6] 0 af _ C (by simp) (λap o=>by simp at o;omega) λa k c=>by
  rw[iG];rcases bC a e.length with g|g
  .rw[iq (by rw[bi];exact g),cH,aA g]at c;obtain rfl:Fb e[a]=k:=by simpa using c
   rw[u a e[a] (aA g)];have:=s e[a] (mw g);exact⟨rfl,this.1,this.2.1⟩
  .rw[gh (by rw[bi];exact g),bi]at c;have F:a-e.length=0:=by
    rcases pi (a-e.length) with z|z
    .exact z
    .rw[jr (by simp;omega)]at c;cases c
   rw[F]at c;obtain rfl:(6:Int)=k:=by simpa using c
   rw[show a=e.length by omega,v];exact⟨rfl,by decide,by decide⟩
 rw[ac5]at j;cases hf:fdK [100,6] (e.map Fb) with
 |none=>rw[hf]at j;cases j
 |some f=>
  rw[hf]at j;have J:(dy f 6).2=B3:=by
   by_cases g:(dy f 6).2=B3
   .exact g
   .simp[fdK,g]at j
  obtain⟨ts,m,L,d⟩:=akq t hf;obtain⟨ak,A⟩:=d.at_;have y:=o.seg (tk:=uy (ts++[Bh T m])) (n:=ts.length+1) (i:=0) (by omega) λa b c=>by
   obtain⟨X,G,H,I⟩:=A a b c;rw[iG,IH G];exact⟨H,I⟩
  rw[iG,<-ak]at y;obtain⟨X,p,K,_⟩:=r _ _ _ (Nat.lt_succ_self _) y (by rw[II];rfl);refine⟨ts,m,f,L,J,d,λX p=>?_,X,p,K⟩;obtain⟨a,c,E⟩:=gG p;obtain⟨an,B,al,_⟩:=A a e[a] (aA (by omega));rw[aA c,E]at B;obtain rfl:=bc B;rw[al];exact(s _ (mw _)).2.2
section
variable {T A x y : ByteArray} {p : Nat} {o : Bool}
def adm(a x d:ByteArray):Stn (a++(x++d)) a.size x:=by
 refine⟨by rw[ay,ay];omega,λb c=>?_⟩;rw[oe,aa (by omega),show a.size+b-a.size=b by omega,oe,ab c]
def ain:∀(n p:Nat),(∀i,i<n->iK (aw T (p+i))=B3)->Skp T o p (p+n)
 |0,p,_=> .nil
 |n+1,p,h=> .bl (h 0 (by omega)) (by rw[show p+(n+1)=p+1+n by omega];exact ain n (p+1) λi a=>by rw[show p+1+i=p+(i+1) by omega];exact h (i+1) (by omega))
def aio(c:aw T p=45)(d:aw T (p+1)=45)(e:aw T (p+2)=122)(b:aw T (p+3)=10):Ly T p=p+3:=by
 have g:=bq b;unfold Ly;refine vK nnB T 3 (T.size+1) p (λa f=>?_) (by rw[b];decide) (by omega);rcases(show a=0\/a=1\/a=2 by omega) with rfl|rfl|rfl
 .rw[gD,c];decide
 .rw[d];decide
 .rw[e];decide
def aok{w:ByteArray}(b:c∈uA):yJ w k c=B3:=by
 have a:yK c=B3/\c≠61/\c≠46/\c≠45:=by
  have:∀c∈uA,yK c=B3/\c≠61/\c≠46/\c≠45:=by decide
  exact this c b
 unfold yJ;split
 .exact a.1
 split
 .exact bp b
 .have:nxS k c=B3:=by
   unfold nxS
   repeat' split
   all_goals first|rfl|exact bp a.2.1|exact bp a.2.2.1|exact bp b
  rw[this];simp[a.2.2.2]
def aqr{c:ByteArray}(m:Stn T p c)(h:c∈Em\/(o=B3/\c∈Fc)):Skp T o p (p+c.size)/\aw T p∈uA:=by
 have b:∀a,a<c.size->aw T (p+a)=aw c a:=m.2;rcases h with h|⟨i,h⟩
 .have j:0<c.size/\(∀a,a<c.size->iK (aw c a)=B3)/\aw c 0∈uA:=by
   simp only[Em,ij,mo,mu]at h;rcases h with rfl|rfl|rfl|rfl|rfl;all_goals refine⟨by decide,λa e=>?_,by decide⟩
   .obtain rfl:a=0:=by change a<1 at e;omega
    decide
   .rcases(show a=0\/a=1 by change a<2 at e;omega) with rfl|rfl<;>decide
   .obtain rfl:a=0:=by change a<1 at e;omega
    decide
   .obtain rfl:a=0:=by change a<1 at e;omega
    decide
   .rcases(show a=0\/a=1\/a=2 by change a<3 at e;omega) with rfl|rfl|rfl<;>decide
  have d:=b 0 j.1;rw[gD]at d;exact⟨ain _ _ λa e=>by rw[b a e];exact j.2.1 a e,by rw[d];exact j.2.2⟩
 .simp only[Fc,ij,mo,mu]at h;rcases h with rfl|rfl|rfl
  .have d:aw T p=10:=b 0 (by decide);exact⟨.nl i d .nil,by rw[d];decide⟩
  .have d:aw T p=32:=b 0 (by decide);have f:aw T (p+1)=45:=b 1 (by decide);have g:aw T (p+1+1)=45:=b 2 (by decide);have l:aw T (p+1+2)=122:=b 3 (by decide);have k:aw T (p+1+3)=10:=b 4 (by decide);refine⟨.bl (by rw[d];decide) (.rem f g ?_),by rw[d];decide⟩;rw[aio f g l k];exact .nl i k .nil
  .have d:aw T p=13:=b 0 (by decide);have f:aw T (p+1)=10:=b 1 (by decide);have g:aw T (p+1+1)=10:=b 2 (by decide);exact⟨.bl (by rw[d];decide) (.nl i f (.nl i g .nil)),by rw[d];decide⟩
def aol(c:ByteArray):Nat:=if c.size=2\/c.size=5 then 1 else 0
def akH{c:ByteArray}(l:Stn T p c)(h:c∈IC){e:List Wt}{q:Nat}(f:Rz T (p+c.size) e q):Rz T p (B4 (aol c+1) nlW++e) q:=by
 have a:∀i,i<c.size->aw T (p+i)=aw c i:=l.2;simp only[IC,ij,mo,mu]at h;rcases h with rfl|rfl|rfl|rfl|rfl|rfl
 .have b:aw T p=10:=a 0 (by decide);exact .sep b (.inl rfl) f
 .have b:aw T p=59:=a 0 (by decide);exact .sep b (.inr rfl) f
 .have b:aw T p=10:=a 0 (by decide);have d:aw T (p+1)=10:=a 1 (by decide);exact .sep b (.inl rfl) (.sep d (.inl rfl) f)
 .have b:aw T p=32:=a 0 (by decide);have d:aw T (p+1)=59:=a 1 (by decide);have g:aw T (p+1+1)=32:=a 2 (by decide);exact .bl (by rw[b];decide) (.sep d (.inr rfl) (.bl (by rw[g];decide) f))
 .have b:aw T p=10:=a 0 (by decide);have d:aw T (p+1)=45:=a 1 (by decide);have g:aw T (p+1+1)=45:=a 2 (by decide);have k:aw T (p+1+2)=122:=a 3 (by decide);have j:aw T (p+1+3)=10:=a 4 (by decide);refine .sep b (.inl rfl) (.rem d g ?_);rw[aio d g k j];exact .sep j (.inl rfl) f
 .have b:aw T p=59:=a 0 (by decide);have d:aw T (p+1)=59:=a 1 (by decide);exact .sep b (.inr rfl) (.sep d (.inr rfl) f)
end
def tE.reps{t:Wt}{e:List Wt}(ht:t.k=7)(h:tE l e):∀n,tE (t::l) (B4 (n+1) nlW++e)
 |0=> .sep ht rfl h
 |n+1=> .more ht rfl (tE.reps ht h n)
def w5(t:Wt):Nat:=if t.k=7 then 5 else wt t
def c5:List Wt->Nat
 |[]=>0
 |t::l=>w5 t+c5 l
def alC(t:Wt):w5 t<=wt t:=by
 unfold w5 wt;split<;>split<;>omega
def alD:∀l:List Wt,c5 l<=cst l
 |[]=>ag _
 |t::l=>Nat.add_le_add (alC t) (alD l)
def aip(e:List Wt):∀n,c5 (B4 n nlW++e)=5*n+c5 e
 |0=>by simp
 |n+1=>by rw[List.replicate_succ,ez,c5,aip e n,show w5 nlW=5 from rfl];omega
def aqs(h:Tks s l ts):∀{y:ByteArray},LoC s ts y->∃e,tE l e/\c5 e<=cst l/\∀A:ByteArray,Rz (A++y) A.size e (A++y).size:=by
 induction h with
 |nil=>
  intro y b;cases b;refine⟨[],.nil,ag _,λA=>?_⟩;rw[show A++(⟨#[]⟩:ByteArray)=A from nh A];exact .nil
 |@tok a l x ts i j t u I J z K r=>
  intro y b;cases b with
  |@cons _ c y _ p b=>
   obtain⟨e,n,v,q⟩:=r b;refine⟨a::e,.tok i n,Nat.add_le_add (alC a) v,λA=>?_⟩;rcases p.2 with⟨g,_⟩|⟨_,d,B,rfl⟩
   .exact absurd (u.symm.trans g) j
   .rw[z,u]at *;have m:A++(a.w++d++y)=(A++(a.w++d))++y:=by simp only[dh]
    have f:=q (A++(a.w++d));rw[<-m]at f;have F:Stn (A++(a.w++d++y)) A.size (a.w++d):=adm A (a.w++d) y;obtain⟨G,H⟩:=F.app;obtain⟨C,E⟩:=aqr (o:=opn a.k) H B;rw[ay,ay,<-fj]at f;exact .tok i j t G (aok E) C f
 |@sep a l x ts i j t r=>
  intro y b;cases b with
  |@cons _ c y _ p b=>
   obtain⟨e,n,v,q⟩:=r b;rcases p.2 with⟨_,g⟩|⟨g,_⟩
   .refine⟨B4 (aol c+1) nlW++e,tE.reps i n _,?_,λA=>?_⟩
    .rw[aip,cst,show wt a=11 by unfold wt;rw[aa (by omega)],show aol c=if _ then 1 else 0 from rfl];split<;>omega
    have m:A++(c++y)=(A++c)++y:=by simp only[dh]
    have f:=q (A++c);rw[<-m,ay]at f;exact akH (adm A c y) g f
   .exact absurd j g
def akI:∀j:Fin 22,(ci fp j.val).size<=6:=by decide+kernel
def aom{w p:ByteArray}{n:Int}(h:Alo w k n p)(x:¬k<5):w.size<=6:=by
 obtain⟨l,c,b,a,q,r,s,t⟩:=h;unfold dl at c b a;by_cases g:bK (aw w 0)=B3
 .rw[ab g]at b a;simp only at b a;unfold BH at a;rw[b,jy]at a;cases e:vz fp w 22 0 with
  |none=>rw[e]at a;simp only at a;omega
  |some f=>
   obtain⟨u,v,o⟩:=qy fp w 22 0 f e;have y:(ci fp f).size=w.size:=by have:=congrArg List.length o;rwa [gy,gy,fD,fD]at this
   have:=akI ⟨f,by omega⟩;simp only at this;omega
 rw[aa g]at c b a;by_cases i:cD (aw w 0)=B3
 .rw[ab i]at c b a;exfalso;split at a
  .simp only at a;unfold tB at a;split at a
   .simp only at a;omega
   .split at a<;>(simp only at a;omega)
  .simp only at a;omega
 rw[aa i]at c b a;by_cases j:aw w 0=34
 .rw[ab j]at c b a;exfalso;split at a<;>(simp only at a;omega)
 rw[aa j,jy]at c b a;by_cases d:oH w=0
 .rw[ab d]at c;cases c
 rw[aa d]at b a;simp only at b a;rw[a,iG]at b;have m:=(Kz w l d).1;rw[a]at m;have:∀k:Fin 79,(eC (k.val:Int)).size<=6:=by decide+kernel
 have:=this ⟨k.toNat,by omega⟩;rw[show((k.toNat:Nat):Int)=k by omega]at this;omega
def akJ(h:Tks s l ts):∀{y:ByteArray},LoC s ts y->y.size<=c5 l:=by
 have n:∀c:ByteArray,c∈Em\/c∈Fc\/c∈IC->c.size<=5:=λc d=>by
  simp only[Em,Fc,IC,ij,mo,mu]at d;rcases d with(rfl|rfl|rfl|rfl|rfl)|(rfl|rfl|rfl)|(rfl|rfl|rfl|rfl|rfl|rfl)<;>decide
 induction h with
 |nil=>intro y b;cases b;exact aI _
 |@tok e l o ts f g m p t u q v j=>
  intro y b;cases b with
  |@cons _ k y _ i b=>
   have:=j b;rcases i.2 with⟨a,_⟩|⟨_,c,d,rfl⟩
   .exact absurd (p.symm.trans a) g
   .have r:=n c (d.imp id λa=> .inl a.2);rw[q,ay,ay,c5,show w5 e=wt e from aa f];unfold wt;split
    .omega
    .rename_i a;have:=aom m a;omega
 |@sep e l o ts f g m j=>
  intro y b;cases b with
  |@cons _ k y _ i b=>
   have:=j b;rcases i.2 with⟨_,a⟩|⟨a,_⟩
   .have r:=n k (.inr (.inr a));rw[ay,c5,show w5 e=5 from ab f];omega
   .exact absurd g a
def aiq(h:TkO n ts){q r:Nat}(b:q<=r)(a:r<ts.length):0<=(uy ts q).f/\(uy ts q).f<=(uy ts r).t/\0<=(uy ts q).l:=by
 rw[xr (aA (show q<ts.length by omega)),xr (aA a)];have c:=h.each ts[q] (mw _);have d:=h.each ts[r] (mw _);rcases js b with rfl|g
 .omega
 .have:=(List.pairwise_iff_getElem.1 h.next) q r (by omega) a g;omega
def tE.pre{t u:Wt}{e:List Wt}(ht:t.k=7)(b:u.k=7)(H:∀c v,v.k=7->tE e c->tE (t::l) (v::c)):∀{c:List Wt},tE (u::e) c->tE (t::l) c
 |_,.tok h _=>absurd b h
 |_,.sep _ a g=>H _ _ a g
 |_,.more _ a g=> .more ht a (tE.pre ht b H g)
def tE.trans{a b:List Wt}(h:tE a b):∀{c:List Wt},tE b c->tE a c:=by
 induction h with
 |nil=>exact λd=>d
 |tok e i g=>
  intro c d;cases d with
  |tok _ d=>exact .tok e (g d)
  |sep f _ _=>exact absurd f e
  |more f _ _=>exact absurd f e
 |sep e i k g=>exact λd=>tE.pre e i (λc l j f=> .sep e j (g f)) d
 |more e i k g=>exact λd=>tE.pre e i (λc l j f=> .more e j (g f)) d
structure Gt (l:List Wt) (F:Fo) (ns:List Nd):Prop where
 rc:adl l F
 ok:(dD ns).1=0
 bk:∀(y:ByteArray)(X:Fo),X.bare=F->(wD y X).map Nd.bk=ns.map Nd.bk
def air(h:∀N∈ns,I0 N)(o:Wp ns ns.length<=65536):∃l F ms,Gt l F ms/\cst l<=65536/\Rz (jk ns) 0 l (jk ns).size:=by
 have e:∃l F ms,Gt l F ms/\cst l<=65536/\Rz ⟨#[]⟩ 0 l (⟨#[]⟩:ByteArray).size:=⟨[],.nil,[⟨1,0,0,1,0,0,⟨#[]⟩,[],[]⟩],⟨Lm,by decide+kernel,λn d b=>by cases d with
  |nil=>rfl
  |cons N s t=>cases b⟩,aI _,.nil⟩
 unfold jk;by_cases a:(dD ns).1=0
 case neg=>rw[aa a];exact e
 rw[ab a];unfold Hn;by_cases f:65536<(mC ns).size
 case pos=>rw[ab f];exact e
 rw[aa f];have c:=Ik a;have q:=c.len;obtain⟨l,k,i,p⟩:=akG a λr j=>h _ (by unfold ae;rw[lA,List.getD,aA j];exact mw _);refine⟨l,_,ns,⟨i,a,λn d b=>?_⟩,by omega,k⟩;have m:=(jJ (c.nb (ns.length-1) (by omega))).1;have g:=(abe a).2.2;rw[show((ns.length:Int)-1)=((ns.length-1:Nat):Int) by omega]at b g;unfold wD;rw[<-Aj,dj,b,<-aks a,tD c (by omega),za m,g];rfl
section
variable {l e : List Wt} {F : Fo} {ns : List Nd} {s y : ByteArray}
def Gt.acc(g:Gt l F ns)(d:Rz y 0 e y.size)(c:tE l e):Acc y:=by
 obtain⟨i,f,h,a,b,_⟩:=abo d c g.rc;exact⟨by rw[a],by rw[a];exact b⟩
def Gt.outV(g:Gt l F ns)(k:y.size<=65536)(n:Rz y 0 e y.size)(j:tE l e):∃ms,Ku y ms/\ms.map Nd.bk=ns.map Nd.bk:=by
 obtain⟨p,o,C,m,r,z,u,a,t,f⟩:=abo n j g.rc;have h:na y=(p++[Bh y o], -1):=by unfold na;rw[m,aa (by simp),ab r]
 have F:=apy k m (by simp) (II p (Bh y o)) f λx b=>by rw[IH (aA b)];exact u _ (mw _)
 have d:=Kv y;rw[h]at d;have v:=(P.pl (λx B b w=>aiq d b (by simpa using w)) f).2 trivial;have i:=g.bk y a t;exact⟨_,⟨_,_,a,_,k,g.acc n j,h,F,akt i g.ok λc s=>(Cc Pln (λc A q=>q) _ 0 ((cG _ _ a).2 ⟨⟨Int.le_refl 0,by show(0:Int)<=(y.size:Nat);omega,by show(0:Int)<=1;decide⟩,v⟩) c s).1,rfl⟩,i⟩
def Gt.step(g:Gt l F ns)(w:Rz s 0 e s.size)(j:tE l e)(h:LoR s (na s).1 y):∃b,tE l b/\Rz y 0 b y.size/\c5 b<=cst e/\y.size<=c5 e:=by
 obtain⟨a,i,A,v,p,k,t,_⟩:=abo w j g.rc;rw[show(na s).1=a++[Bh s i] by unfold na;rw[v,aa (by simp),ab p]]at h;obtain⟨f,c,r⟩:=h;have o:(a++[Bh s i]).take f=a:=by
  rcases bC a.length f with g|g
  .have:=c.no6 (Bh s i) (by rw[db (by simp;omega)];simp);exact absurd rfl this
  .rcases r with x|⟨n,m,z⟩
   .simp at x;omega
   .rcases bC f a.length with g2|g2
    .rw[iq g2]at m;exact absurd z (t n (dz m))
    .rw[show f=a.length by omega,List.take_append_of_le_length (ag _),db (ag _)]
 rw[o]at c;obtain⟨b,q,u,d⟩:=aqs k c;have d:=d ByteArray.empty;rw[Eb]at d;exact⟨b,j.trans q,d,u,akJ k c⟩
end
def uD(an:s.size<=65536)(g:Acc s):agE s:=by
 intro a;have r:BF (a.alloc (A2 #[Y O 0 0] 105)) a.heap.size a.heap.size []:=⟨⟨_,aB a _,eI _ _ _ _⟩,ag _⟩;have b:=aem _ a.heap.size a.heap.size s r (by omega) g.1;have l:=aq (dE a (A2 #[Y O 0 0] 105));have i:B2 (na s=((nD s).1, -1)):=by show _=_;unfold na;rw[g.1,aa (by decide),ab g.2]
 obtain⟨c,f⟩:=g;obtain⟨⟨m,z,L⟩,n⟩:∃y,nD s=y:=⟨_,rfl⟩;rw[n]at b i c f;unfold Kt at b;simp only at b i c f;subst c;obtain⟨ao,j⟩:=aF m.length;rw[j]at b;clear n r;go_in;go_wp2_with fail;generalize a.alloc (A2 #[Y O 0 0] 105)=ad at b l⊢;refine b.mono ?_;rintro e v ⟨A,E,J,w,rfl,o,k,u,t,B,af,ak⟩;have G:V a.heap.size a v:=l.out.trans (B.mono (ag _));have h:=C1 v a.heap.size a.heap.size w z J 6 k u t (by decide) (by decide) (by omega);unfold yj at h;rw[f]at h;obtain⟨ar,p,_⟩:=k.ex;have d:=kJ o p j;clear b o k u t j p f;go_wp2_with fail;refine h.mono ?_;rintro e K ⟨ap,D,rfl,H,I,al,q,C⟩;have F:V a.heap.size a K:=G.trans (C.mono (ag _));have x:=aq (q.row d.2.1 d.1 (by decide) (by decide));clear h H I q;go_wp2_with fail;go_ret2;have e:=i.out;have c:(na s).1=m:=by rw[e]
 exact(show TkP _ _ _ _ from⟨A,E,by rw[e];simp only[d.out.2.2];rfl,by rw[c,d.out.2.2];exact x,F⟩)
abbrev cuW(W:Z)(C:Cd)(a:Option Addr)(b:Nat):Z:=W.alloc (A2 #[Y a C.len b,A3 A5 0,A3 .u64 0,A3 A5 0] 36)
def ais{a:Option Addr}(b:Nat)(h:Code C W.heap.size W a):Cy C ⟨W.heap.size,W.heap.size,0,a,b⟩ (cuW W C a b) (cuW W C a b) ⟨0,0,0⟩:=
 have c:=dE W (A2 #[Y a C.len b,A3 A5 0,A3 .u64 0,A3 A5 0] 36)
 ⟨⟨⟨ag _,c.size⟩,h.below c,aB W _⟩,ai _ _⟩
def Dx(C:Cd)(f:FuncId)(b:List Ax)(t:ByteArray):Prop:=∀ ⦃W:Z⦄ ⦃a:Option Addr⦄ ⦃c:Nat⦄,Code C W.heap.size W a->Br M f (b++[E1 a C.len c]).toArray W λe w'=>e= A0 (B0 t)/\V W.heap.size W w'
def aon:TkA:=λa c g h=>by
 obtain⟨e,f,ms,b,_,d⟩:=air c (by rw[ahc];omega);exact uD (AL a) (b.acc d (tE.refl e))
def aoo(C:Cd):∃t,GdX t/\t.size<=721000/\Dx C 4 [] t:=by
 obtain⟨t,j,a,_,h⟩:=aoj aon C ⟨0,0,0⟩ (by decide) rfl;refine⟨t,a.2,a.1,λc i e f=>?_⟩;have b:=aq (ais e f);clear f a;show Br M 4 #[Y i C.len e] c _;go_in;go_wp2_with fail;refine b.out.run h λw1 d=>?_;have g:=aq ((dE c _).trans d.bel);clear d b;go_wp2_with fail;go_ret;exact⟨rfl,g.out⟩
def akK(D:Cd)(i:s.size<=65536)(p:Acc s):∃z,LoR s (na s).1 z/\Dx D 6 [B0 s] z:=by
 have r:=DK s;have a:=Kv s;obtain⟨z,t,n,o,g,b⟩:=ail D s (na s).1 ⟨0,0,0⟩ 0 (by decide) (by show(0:Int)<=_;omega) (λl q=>by have:=a.each l q;omega) a.next (by decide) (by omega)
 have k:=adk (uD i p) i b (by omega);refine⟨z,g,λd m f h=>?_⟩;have c:=aq (ais f h);clear h n o g b r a;show Br M 6 #[B0 s,Y m D.len f] d _;go_in;go_wp2_with fail;refine c.out.run k λw1 e=>?_;have j:=aq ((dE d _).trans e.bel);clear e c;go_wp2_with fail;go_ret;exact⟨rfl,j.out⟩
structure Tm (ns:List Nd):Prop where
 n:ns.length<=1048576
 l:∀N∈ns,N.nm.length<=1048576/\N.ks.length<=1048576
def Tm.bare(h:Tm ns):Tm (ns.map bareN):=⟨by rw[bi];exact h.n,λd c=>by obtain⟨a,b,rfl⟩:=List.mem_map.1 c;exact h.l a b⟩
def abp{v u:Ax}{ms:List Nd}(i:eK w v ns)(j:eK w u ms)(C:Tm ns)(E:Tm ms)(e:ns.map Nd.bk=ms.map Nd.bk):
  Br M 9 #[B6 #[v],B6 #[u]] w λe w'=>e= A0 (E2 B3)/\V w.heap.size w w':=by
 have a:=Cn i j C E;have F:B2 (ns.map bareN=ms.map bareN):=e;obtain⟨k,o,rfl⟩:=i.form;obtain⟨m,p,rfl⟩:=j.form;clear i j C E e;generalize ns.length=t at a⊢;generalize ms.length=s at a⊢;go_in;go_wp2_with fail;generalize B:(w.alloc _).alloc _=d;obtain⟨z,A,c,al⟩:=Co B;clear B;have h:V d.heap.size d d.drew:=bH (ai _ d);have q:d.drew.cell? ⟨w.heap.size,0,O⟩=U (Y k t o):=(am _ _ _ _ _ _ z).trans rfl;have r:d.drew.cell? ⟨w.heap.size+1,0,O⟩=U (Y m s p):=(am _ _ _ _ _ _ A).trans rfl;have H:=ze d.drew (Y k t o) ns ((a.1.below c).below h) a.2.2.1.n a.2.2.1.l;have K:=(a.2.1.below c).below h;have I:=λ(g:Z) (G:eK g (Y m s p) ms)=>ze g _ ms G a.2.2.2.n a.2.2.2.l;have J:=λ(g:Z) v u (i:eK g v (ns.map bareN)) (j:eK g u (ns.map bareN))=>Gc g v u _ i j a.2.2.1.bare.n a.2.2.1.bare.l;clear z A;go_region_held3 (λw'=>w'.cell? ⟨w.heap.size,0,O⟩=U (Y k t o)/\w'.cell? ⟨w.heap.size+1,0,O⟩=U (Y m s p)) (first|go_keep|exact⟨ah n (ah f (ah b q)),ah n (ah f (ah b r))⟩|exact⟨ah f (ah b q),ah f (ah b r)⟩|exact⟨ah b q,ah b r⟩) (first|(go_at_call 23;with_reducible refine H.mono ?_;rintro e ap ⟨an,rfl,x,b⟩;obtain⟨L,af,rfl⟩:=x.form;rw[bi]at x)|(go_at_call 23;refine(I _ (K.below b)).mono ?_;rintro e ar ⟨ao,rfl,y,f⟩;obtain⟨ad,ak,rfl⟩:=y.form;rw[bi]at y)|(go_at_call 7;refine(J _ _ _ (x.below f) (by rw[F.out];exact y)).mono ?_;rintro e w5 ⟨rfl,n⟩))
 go_wp2_with fail;go_ret;exact⟨rfl,(((c.trans (h.mono c.size)).trans (b.mono (bG c.size h.size))).trans (f.mono (by have:=b.size;have:=h.size;have:=c.size;omega))).trans (n.mono (by have:=f.size;have:=b.size;have:=h.size;have:=c.size;omega))⟩
def lm{b:Func}{p q:Tmp}{u:B7}(h:b.results=#[.tmp p,.cell q u])(tmps:Array Ax)(P:Program)(w:Z)(a:Addr)(v c:Ax)(e:tmps.getD p Fs=v)(g:tmps.getD q Fs= Ex (U a))
  (d:(loadVar u a).run P w= .ok c w):(results b tmps).run P w= .ok (Ce #[v,c]) w:=by
 have f:tmps[p]?.getD Fs=v:=by simpa using e
 have i:tmps[q]?.getD Fs= Ex (U a):=by simpa using g
 simp only[results,h];simp[Result.andThen,f,i,asAddr,d]
def qI(w:Z)(b:Nat)(c n:Int)(h:lH b w c n):(loadVar 55 ⟨b,0,O⟩).run M w= .ok (.agg #[.int .i64 c,.int .i64 n]) w:=
 Gn w b 55 55 _ _ _ h Tryz.underlying55 rfl (by kernel_rfl)
def Lp(w:Z)(ns:List Nd)(e:Ending)(b:Z):Prop:=
 V w.heap.size w b/\
 (((dD ns).1≠0/\e= A0 (Ce #[C2,B6 #[A3 A5 (dD ns).1,A3 A5 (dD ns).2]]))\/
  (dD ns=(0,0)/\∃c d a x,e= A0 (Ce #[nV x,B6 #[A3 A5 0,A3 A5 0]])/\a[ns.length-1]?=U x/\a.map Im.N=ns/\mH b c d a/\∀x∈a,dk w x.vn x.N.nm))
def Lq(w:Z)(v:Ax)(ns:List Nd)(h:eK w v ns)(u:ns.length<=1048576)(p:iA ns=B3):
  Br M 36 #[B6 #[v]] w λe w'=>e= A0 (Ce #[C2,B6 #[A3 A5 1,A3 A5 0]])/\V w.heap.size w w':=by
 obtain⟨F,G,rfl⟩:=h.form;have i:∀b c,V w.heap.size w ((w.alloc b).alloc c):=λb c=>((ai _ w).alloc (ag _) b).alloc (by simp) c;have s:∀b (g:Array Ax) (l:B7),((w.alloc b).alloc (A2 g l)).heap[w.heap.size+1]?=U (A2 g l (0,0)):=λb g l=>by
  have:=aB (w.alloc b) (A2 g l);rw[de]at this;exact this
 have q:=aE p;by_cases d:ns.length=0
 .rw[d];go_in;go_wp2;exact aH (lm rfl _ _ _ ⟨w.heap.size+1,0,O⟩ _ _ rfl rfl (qI _ _ 1 0 (s _ _ _))) rfl ⟨rfl,i _ _⟩
 by_cases f:3000<ns.length
 .obtain⟨a,j⟩:∃a:Nat,ns.length=a+1:=⟨ns.length-1,by omega⟩;rw[j]at f u⊢;have A:decide ((a:Int)<0)=B1:=aD (by omega);have B:(3000:Int)<=(a:Int):=by omega
  have E:(0:Int)<=(a:Int):=by omega
  clear h p q d f j;go_in;go_wp2;exact aH (lm rfl _ _ _ ⟨w.heap.size+1,0,O⟩ _ _ rfl rfl (qI _ _ 1 0 (s _ _ _))) rfl ⟨rfl,i _ _⟩
 .have C:(ns.getD (ns.length-1) Fi).k≠1:=by rcases q with e|e|e;exact absurd e d;exact absurd e f;exact e
  have r:ns.length-1<ns.length:=by omega
  obtain⟨m,o⟩:∃m,ns[ns.length-1]?=U m:=⟨_,aA r⟩;rw[aK,o,iu]at C;obtain⟨z,rfl,L,K,t⟩:=h.get o;have n:=t.c0;obtain⟨y,x⟩:=aF ns.length;rw[x]at n d f u r⊢;obtain⟨a,j⟩:∃a:Nat,y=a+1:=⟨y-1,by omega⟩;subst j;rw[nK]at n;have H:((a+1:Nat):Int)-1=(a:Int):=by omega
  have E:(0:Int)<=(a:Int):=by omega
  have A:decide ((a:Int)<0)=B1:=aD (by omega);have B:decide ((3000:Int)<=(a:Int))=B1:=aD (by omega);have J:(a:Int)<(a:Int)+1:=by omega
  have I:∀b c,((w.alloc b).alloc c).cell? (z.add (a*9))=U (A3 A5 m.k):=λb c=>ah (i b c) n;clear h p q d f o t x r;go_in;go_wp2;exact aH (lm rfl _ _ _ ⟨w.heap.size+1,0,O⟩ _ _ rfl rfl (qI _ _ 1 0 (s _ _ _))) rfl ⟨rfl,i _ _⟩
structure ait (w0:Z) (lb mb:Nat) (vs:Ax) (L:List Im) (W:Z):Prop where
 bl:V w0.heap.size w0 W
 lk:Lk W lb mb vs
 ns:mH W w0.heap.size vs L
def lH.keep{a:Nat}{d:Z}{n:Int}(h:lH b W c n)(e:V a W d)(f:b<a):lH b d c n:=(e.block _ f).trans h
def aop(c:Nat):xb c≠55:=by
 unfold xb;split<;>decide
def mH.setFt{base:Nat}{g:Ax}{L:List Im}(h:mH W base g L){n:Int}(i:lH b W c n)(f:b<base)(j:Nat)(v:Ax):mH (W.setCell ⟨b,j,O⟩ v) base g L:=
 ⟨iF h.row f _,λe a d=>(aC W ⟨b,j,O⟩ a.b v (rj (h.box e a d) (show W.heap[b]?=U (A2 #[A3 A5 c,A3 A5 n] 55 (0,0)) from i) (aop _))).trans (h.box e a d),λe a d=>iF (h.kid e a d) f _,h.far,h.rng⟩
def mH.putFt{base:Nat}{f:Ax}{L:List Im}(h:mH W base f L){n:Int}(e:lH b W c n)(d:b<base)(a n2:Int):mH ((W.setCell ⟨b,0,O⟩ (A3 A5 a)).setCell ⟨b,1,O⟩ (A3 A5 n2)) base f L:=
 (h.setFt e d 0 _).setFt (c:=a) (n:=n) (aL _ b 0 _ _ _ e) d 1 _
structure ars (w:Z) (v:Ax) (w0:Z):Prop where
 tb:w0.heap[w.heap.size]?=U (.cells #[v] 26 (0,0))
 fb:lH (w.heap.size+1) w0 0 0
 bl:V w.heap.size w w0
 sz:w0.heap.size=w.heap.size+1+1
def aiu(c:Ax->Prop)(w:Z)(ns:List Nd)(e:Ending)(b:Z):Prop:=
 V w.heap.size w b/\
 (((dD ns).1≠0/\e= A0 (Ce #[C2,B6 #[A3 A5 (dD ns).1,A3 A5 (dD ns).2]]))\/
  (dD ns=(0,0)/\∃d f a x,e= A0 (Ce #[nV x,B6 #[A3 A5 0,A3 A5 0]])/\a[ns.length-1]?=U x/\a.map Im.N=ns/\mH b d f a/\∀x∈a,dk w x.vn x.N.nm/\c x.vn))
def IJ(L:Ax->Prop)(w:Z)(v:Ax)(ns:List Nd)(eq:∀(b8:Addr) (n c i:Nat) (N:Nd) (vn:Ax),v= Y (U b8) n c->ns[i]?=U N->w.cell? ⟨(b8.add (i*9)).block,(b8.add (i*9)).off+7,O⟩=U vn->L vn)(h:eK w v ns)(gt:ns.length<=1048576)(fo:∀N∈ns,kH N)(eF:ou w)(tt:B7)(fr:Nat×Nat)(ep:w.heap[0]?=U (A2 fp tt fr))
  (fg:∀W,V w.heap.size w W->B5 M W "strings.asciiSpace" .u8 A9) (cq:iA ns=B1):
  Br M 36 #[B6 #[v]] w (aiu L w ns):=by
 have fv:=aq eq;clear eq;obtain⟨ha,c,rfl⟩:=h.form;have bv:=mj cq;have a7:=kJ h fo cq;have bh:=kJ eF ep fg;have en:¬ns.length=0:=λg=>bv (.inl g);have eo:¬3000<ns.length:=λg=>bv (.inr (.inl g));have cc:(ns.getD (ns.length-1) Fi).k=1:=by
  by_cases B:(ns.getD (ns.length-1) Fi).k=1
  .exact B
  .exact absurd (.inr (.inr B)) bv
 obtain⟨N,C⟩:∃N,ns[ns.length-1]?=U N:=⟨_,aA (by omega)⟩;rw[aK,C,iu]at cc;obtain⟨b7,rfl,vn,hE,eA⟩:=h.get C;have bb:=eA.c0;rw[cc]at bb;have gm:∀au av,V w.heap.size w ((w.alloc au).alloc av):=λau av=>((ai _ w).alloc (ag _) au).alloc (by simp) av;obtain⟨n,cy⟩:=aF ns.length;have G:B2 (ns.length=n):=cy;rw[cy]at a7 bb en eo⊢;obtain⟨a,gu⟩:∃a:Nat,n=a+1:=⟨n-1,by omega⟩;have e9:n-1=a:=by omega
 rw[e9]at bb;have hA:a<3000:=by omega
 have hs:((a+1:Nat):Int)-1=(a:Int):=by omega
 have hC:(0:Int)<=(a:Int):=by omega
 have hp:decide ((a:Int)<0)=B1:=aD (by omega);have hq:decide ((3000:Int)<=(a:Int))=B1:=aD (by omega);have hD:(a:Int)<(a:Int)+1:=by omega
 have gn:∀au av,((w.alloc au).alloc av).cell? (b7.add (a*9))=U (A3 A5 1):=λau av=>ah (gm au av) bb;clear h cq bv en eo cc C eA cy gt fo eF ep fg e9 bb;subst gu;go_in;go_wp2_with fail;generalize ew:(w.alloc _).alloc _=o;obtain⟨da,c2,cI,s0⟩:=Co ew;have m:B2 (ars w (Y (U b7) (a+1) c) o):=⟨da,c2,cI,by omega⟩;clear da c2 cI s0 ew gn;have bA:=aj bh.2.1;have bj:B2 (ou o/\o.heap[0]?=U (A2 fp tt fr)/\(∀W,V o.heap.size o W->B5 M W "strings.asciiSpace" .u8 A9)):=
  ⟨bh.1.below m.bl (ag _),(m.bl.block _ bA).trans bh.2.1,λW ge=>bh.2.2 W (m.bl.trans (ge.mono m.bl.size))⟩
 refine(qK (H:=Unit) o fr tt bj.2.1).mono ?_;rintro g s ⟨rfl,cv,bw⟩;obtain⟨A,cw⟩:=aF o.heap.size;have gz:=m.sz;have f8:s.cell? ⟨w.heap.size,0,O⟩=U (Y (U b7) (a+1) c):=dI ((bw.block _ (by omega)).trans m.tb);have g0:=bw.size;have g4:w.heap.size<s.heap.size:=by omega
 have g5:w.heap.size≠s.heap.size:=by omega
 rw[cw]at cv⊢;have a0:=kJ cv bw cw;clear cv bw cw bA gz g0;go_wp2_with fail;have c1:=aB s (A2 #[.map (U A),Y O 0 0] 165);have cr:V s.heap.size s (s.alloc (A2 #[.map (U A),Y O 0 0] 165)):=(ai _ s).alloc (ag _) _;have b0:ait o s.heap.size A (Y O 0 0) [] (s.alloc (A2 #[.map (U A),Y O 0 0] 165)):=by
  have dc:=a0.2.1.trans (cr.mono a0.2.1.size);have gv:A<s.heap.size:=by
   obtain⟨ht,ho,gs,_⟩:=a0.1;exact aj gs
  exact⟨dc,⟨c1,sJ a0.1 (cr.block _ gv),bj.1.below dc (ag _)⟩,⟨eI _ _ _ _,λi d k=>by simp at k,λi d k=>by simp at k,λd k=>by simp at k,λi d fq k=>by simp at k⟩⟩
 have cu:o.heap.size<=s.heap.size:=a0.2.1.size;generalize s.alloc (A2 #[.map (U A),Y O 0 0] 165)=f7 at b0⊢;obtain⟨ar,eL⟩:=aF s.heap.size;rw[eL]at b0 cu⊢;have fA:B2 (o.heap.size<=ar):=cu;obtain⟨a9,cl⟩:=aF (ic (fl ns) (a+1) 0);have b5:B2 (ic (fl ns) (a+1) 0=a9):=cl;have c4:xo (fl ns) (a+1-0) 0 a9:=⟨cl⟩;have c7:B2 (ait o ar A (Y O 0 0) [] f7):=b0;clear cl f8 g4 g5 a0 c1 cr b0 eL cu;go_loopw [37] (λcB wr=>∃(f:Nat) (j:List Im) (b1:Ax),f<=a+1/\cB= A3 A5 f/\xo (fl ns) (a+1-f) f a9/\B2 (ait o ar A b1 j wr/\j.length=f/\j.map Im.N=ns.take f/\∀d∈j,dk w d.vn d.N.nm/\L d.vn)) (λcB _=>a+1-(Ck cB).toNat)
 case atStart=>exact⟨0,[],_,aI _,rfl,c4,c7,rfl,rfl,λd k=>by simp at k⟩
 case round=>
  obtain⟨f,j,b1,hu,rfl,b3,e⟩:=hrel;clear c7 c4;have r:=b3.out;by_cases bA:f<a+1
  .obtain⟨q,ao⟩:=cA G.out bA;have hw:(f:Int)<(a:Int)+1:=by omega
   have hv:(0:Int)<=(f:Int):=by omega
   obtain⟨hc,gf,hI,hH,gp⟩:=a7.1.get ao;obtain rfl:=bc gf;have z:V w.heap.size w wr:=m.bl.trans (e.1.bl.mono m.bl.size);obtain⟨dd,df,dg,dn,dq,ds,dx,b9,d9,bD,cs⟩:=gp;obtain⟨bk,br,rfl⟩:=bD.form;obtain⟨hg,hj,rfl⟩:=cs.form;have ec:=ah z dd;have ed:=ah z df;have ee:=ah z dg;have ef:=ah z dn;have eg:=ah z dq;have eh:=ah z ds;have ei:=ah z dx;have ca:=ah z b9;have cb:=ah z d9;have ba:∀K,V wr.heap.size wr (wr.alloc K):=λK=>(ai _ wr).alloc (ag _) K;have ap:=λK=>ahw o (wr.alloc K) bj.1 (e.1.bl.trans ((ba K).mono e.1.bl.size)) ar A fA b1 j (e.1.lk.below (ba K)) (e.1.ns.below (ba K)) q _ _ (bD.below m.bl) (cs.below m.bl) (a7.2.1 q (dz ao)) (by rw[e.out.2.1];omega) ns (by rw[e.out.2.1];exact e.2.2.1) (by rw[e.out.2.1];exact ao) bj.2.2;rw[show a+1-f=(a+1-(f+1))+1 by omega,ic]at r;have el:fl ns f=!(jx ns f q):=by unfold fl;rw[aK,ao];rfl
   have ek:E6 ns j.length q=jx ns f q:=by rw[akw,e.out.2.1]
   rw[el]at r;unfold jl at ap;have a8:B2 (E6 ns j.length q=jx ns f q):=ek;have fz:B2 (ns[f]?=U q):=ao;obtain⟨c8,cf⟩:=aF q.nm.length;obtain⟨g9,er⟩:=aF q.ks.length;have b4:B2 (dk w (Y bk q.nm.length br) q.nm/\L (Y bk q.nm.length br)):=⟨bD,fv.out _ _ _ f q _ rfl ao b9⟩;rw[cf]at ap ca;replace b4:B2 (dk w (Y bk c8 br) q.nm/\L (Y bk c8 br)):=by rw[<-cf];exact b4
   rw[er]at ap cb;clear dd df dg dn dq ds dx b9 d9 bD cs ao ek el cf er b3;cases k:jx ns f q with
   |true=>
    rw[k]at r a8;rw[aa (by decide)]at r;have fu:xo (fl ns) (a+1-(f+1)) (f+1) a9:=⟨r⟩;clear r k;go_wp2_with fail;refine(ap _).mono ?_;rintro g w5 ⟨rfl,l,bE⟩;rw[a8.out];obtain⟨g6,d,fk,bd,fm,fn⟩:=bE a8.out;have f2:B2 (ait o ar A g6 (j++[d]) w5/\(j++[d]).length=f+1/\(j++[d]).map Im.N=ns.take (f+1)/\∀bf∈j++[d],dk w bf.vn bf.N.nm/\L bf.vn):=
     ⟨⟨l,fm,fn⟩,by rw[aJ,e.out.2.1];rfl,by rw[dK,e.out.2.2.1,ie,fz.out];simp[fk],λbf hy=>by
      rcases List.mem_append.1 hy with hy|hy
      .exact e.2.2.2 bf hy
      .obtain rfl:=List.mem_singleton.1 hy;rw[fk,bd];exact b4⟩
    clear ap bE l fm fn e ec ed ee ef eg eh ei ca cb z ba;go_wp2_with fail;exact⟨⟨f+1,_,_,by omega,by go_num,fu,f2⟩,by simp[Ck];omega⟩
   |false=>
    rw[k]at r a8;rw[ab (by decide)]at r;have t:B2 (dD ns=(2,(f:Int))):=by
     show dD ns=(2,(f:Int));unfold dD;rw[a7.out.2.2,aa (by decide),G.out,b5.out,<-r];rfl
    clear r k;go_wp2_with fail;refine(ap _).mono ?_;rintro g w5 ⟨rfl,l,bE⟩;rw[a8.out];have y:=m.fb.keep l (by rw[m.out.sz];omega);obtain⟨af,bs,bt⟩:=jI y;have E:B2 (lH (w.heap.size+1) w5 0 0/\V w.heap.size w w5):=⟨y,m.bl.trans (l.mono m.bl.size)⟩;clear ap bE l y e ec ed ee ef eg eh ei ca cb z ba;go_wp2_with fail;exact aH (lm rfl _ _ _ ⟨w.heap.size+1,0,O⟩ _ _ rfl rfl (qI _ _ 2 f (qj E.1 2 f))) rfl ⟨(E.2.setCell (by simp) _).setCell (by simp) _,.inl ⟨(by rw[t.out];intro g;simp at g),(by rw[t.out];rfl)⟩⟩
  .obtain rfl:f=a+1:=by omega
   rw[fG,ic]at r;have fF:B2 (a9=O):=r.symm;have ex:=oC (show ic (fl ns) (a+1) 0=O by rw[b5.out];exact r.symm);have a1:j.map Im.N=ns:=by rw[e.out.2.2.1];exact db (by rw[G.out];exact ag _)
   have ey:∀(i:Nat) d,j[i]?=U d->ns[i]?=U d.N:=λi d k=>by rw[<-a1,cH,k];rfl
   have ct:∀d∈j,d.N.ks.length<=200:=λd k=>by
    obtain⟨i,bx,g⟩:=gG k;have C:ns[i]?=U d.N:=ey i d (by rw[aA bx,g]);have bx:i<a+1:=by rw[<-G.out];exact(List.getElem?_eq_some_iff.1 C).1
    have cd:=ex i (aI _) (by omega);unfold fl at cd;rw[aK,C,iu]at cd;have ce:jx ns i d.N=B3:=by simpa using cd
    unfold jx Kl at ce;rw[bI]at ce;exact(aE ce.1).2.2.2
   have ev:A4 (il ns):=xe ns (λN C fq J=>by
    rw[<-a1]at C;obtain⟨d,k,rfl⟩:=List.mem_map.1 C;obtain⟨i,bx,g⟩:=gG k;exact(e.1.ns.rng i d fq (by rw[aA bx,g]) J).1)
   obtain⟨B,bn,rfl⟩:∃B c,b1= Y (U ⟨B,0,O⟩) (a+1) c:=by
    rcases bB e.1.ns.row with⟨h,_⟩|h
    .rw[e.out.2.1]at h;omega
    .rw[e.out.2.1]at h;exact h
   have b2:wr.cell? ⟨ar,1,O⟩=U (Y (U ⟨B,0,O⟩) (a+1) bn):=by rw[am _ _ _ _ _ _ e.out.1.lk.b];rfl
   have x:=Et wr o.heap.size _ j e.1.ns ns a1 (a+1) e.2.1 (by omega) (by omega) ct;have c6:B2 (∀W,V wr.heap.size wr W->Br M 70 #[Y (U ⟨B,0,O⟩) (a+1) bn] W λg g7=>g= A0 (adg (ic (jv (Ev ns)) (a+1) 0))/\V W.heap.size W g7):=
    λW gd=>Fe W o.heap.size _ j (e.1.ns.below gd) ns a1 (a+1) e.2.1 (by omega) (by omega) ct
   obtain⟨c9,cp⟩:=aF (ic (fL (il ns)) (a+1) 0);have u:dD ns=tf3 (il ns) (Ev ns) (a+1) c9:=by
    unfold dD;rw[a7.out.2.2,aa (by decide),G.out,b5.out,fF.out];show tf3 (il ns) (Ev ns) (a+1) (ic (fL (il ns)) (a+1) 0)=_;rw[cp]
   rw[cp]at x;have gr:=m.sz;have af:=m.fb.keep e.1.bl (by rw[m.out.sz];omega);have p:B2 (ait o ar A (Y (U ⟨B,0,O⟩) (a+1) bn) j wr/\lH (w.heap.size+1) wr 0 0/\j.map Im.N=ns/\j.length=a+1/\V w.heap.size w wr):=⟨e.1,af,a1,e.2.1,m.bl.trans (e.1.bl.mono m.bl.size)⟩;have fB:B2 (∀d∈j,dk w d.vn d.N.nm/\L d.vn):=e.2.2.2;have a4:=ah6 ev (kG ns) (by rw[G.out];omega);rw[G.out,nK]at a4;clear r ex ey ct ev b3 e af cp a1 gr;cases c9 with
   |some i=>
    have t:B2 (dD ns=(3,(i:Int))):=u;unfold IE at x;clear u a4;go_wp2_with fail;refine x.mono ?_;rintro g w5 ⟨rfl,l⟩;have y:=p.2.1.below l;obtain⟨af,bs,bt⟩:=jI y;have E:B2 (lH (w.heap.size+1) w5 0 0/\V w.heap.size w w5):=⟨y,p.2.2.2.2.trans (l.mono p.2.2.2.2.size)⟩;clear l y x b2;go_wp2_with fail;exact aH (lm rfl _ _ _ ⟨w.heap.size+1,0,O⟩ _ _ rfl rfl (qI _ _ 3 i (qj E.1 3 i))) rfl ⟨(E.2.setCell (by simp) _).setCell (by simp) _,.inl ⟨(by rw[t.out];intro g;simp at g),(by rw[t.out];rfl)⟩⟩
   |none=>
    rw[tf3,nK]at u;unfold IE at x;rw[nK]at x;have gb:((a+1:Nat):Int)-1=(a:Int):=by omega
    rw[gb]at x u;by_cases J:(il ns).getD a 0<((a+1:Nat):Int)
    .rw[ab (a4.2 J)]at u;rw[bp J]at x;have t:B2 (dD ns=(3,(a:Int))):=u;clear u a4 J;go_wp2_with fail;refine x.mono ?_;rintro g w5 ⟨rfl,l⟩;have y:=p.2.1.below l;obtain⟨af,bs,bt⟩:=jI y;have E:B2 (lH (w.heap.size+1) w5 0 0/\V w.heap.size w w5):=⟨y,p.2.2.2.2.trans (l.mono p.2.2.2.2.size)⟩;clear l y x b2;go_wp2_with fail;exact aH (lm rfl _ _ _ ⟨w.heap.size+1,0,O⟩ _ _ rfl rfl (qI _ _ 3 a (qj E.1 3 a))) rfl ⟨(E.2.setCell (by simp) _).setCell (by simp) _,.inl ⟨(by rw[t.out];intro g;simp at g),(by rw[t.out];rfl)⟩⟩
    .rw[aa (λh=>J (a4.1 h))]at u;rw[aD J]at x;obtain⟨f4,et⟩:=aF (ic (jv (Ev ns)) (a+1) 0);rw[et]at u c6;clear a4 J et;go_wp2_with fail;refine x.mono ?_;rintro g w5 ⟨rfl,l⟩;have a5:=c6.out w5 l;have cF:=ah l b2;clear x b2;cases f4 with
     |some i=>
      have t:B2 (dD ns=(4,(i:Int))):=u;unfold adg at a5;clear u;have a6:B2 (V wr.heap.size wr w5):=l;clear l;go_wp2_with fail;refine a5.mono ?_;rintro g ax ⟨rfl,a3⟩;have I:=a6.out.trans (a3.mono a6.size);have al:=p.2.1.below I;obtain⟨af,bs,bt⟩:=jI al;have F:B2 (lH (w.heap.size+1) ax 0 0/\V w.heap.size w ax):=⟨al,p.2.2.2.2.trans (I.mono p.2.2.2.2.size)⟩;clear a3 I al a5 cF;go_wp2_with fail;exact aH (lm rfl _ _ _ ⟨w.heap.size+1,0,O⟩ _ _ rfl rfl (qI _ _ 4 i (qj F.1 4 i))) rfl ⟨(F.2.setCell (by simp) _).setCell (by simp) _,.inl ⟨(by rw[t.out];intro g;simp at g),(by rw[t.out];rfl)⟩⟩
     |none=>
      have t:B2 (dD ns=(0,0)):=u;unfold adg at a5;clear u;have a6:B2 (V wr.heap.size wr w5):=l;clear l;go_wp2_with fail;refine a5.mono ?_;rintro g ax ⟨rfl,a3⟩;have I:=a6.out.trans (a3.mono a6.size);have hJ:=ah a3 cF;have al:=p.2.1.below I;have cz:=p.1.ns.below I;obtain⟨d,k⟩:=cA p.2.2.2.1 (show a<a+1 by omega);have f9:ax.cell? ⟨B,a,O⟩=U (nV d):=by have fd:=cz.row;rw[p.out.2.2.2.1]at fd;rw[fd.cellAt a (by omega),cH,k];rfl
      obtain⟨af,bs,bt⟩:=jI al;have F:B2 (lH (w.heap.size+1) ax 0 0/\V w.heap.size w ax/\mH ax o.heap.size (Y (U ⟨B,0,O⟩) (a+1) bn) j/\j[a]?=U d):=⟨al,p.2.2.2.2.trans (I.mono p.2.2.2.2.size),cz,k⟩;obtain⟨g8,bd⟩:=aF (nV d);rw[bd]at f9;have f3:B2 (nV d=g8):=bd;clear a3 I al a5 cF cz k bd;go_wp2_with fail;exact aH (lm rfl _ _ _ ⟨w.heap.size+1,0,O⟩ _ _ rfl rfl (qI _ _ 0 0 (qj F.1 0 0))) rfl ⟨(F.2.1.setCell (by simp) _).setCell (by simp) _,.inr ⟨t,o.heap.size,_,j,d,by rw[f3.out];rfl,by rw[G.out,nK];exact F.2.2.2,p.2.2.1,F.2.2.1.putFt F.1 (by rw[m.out.sz];omega) 0 0,fB⟩⟩
def Lr(a:Ax->Prop)(w:Z)(v:Ax)(ns:List Nd)(g:∀(b:Addr) (n c i:Nat) (N:Nd) (vn:Ax),v= Y (U b) n c->ns[i]?=U N->w.cell? ⟨(b.add (i*9)).block,(b.add (i*9)).off+7,O⟩=U vn->a vn)(h:eK w v ns)(e:ns.length<=1048576)(m:∀N∈ns,kH N)(k:ou w)(tt:B7)(fr:Nat×Nat)(f:w.heap[0]?=U (A2 fp tt fr))
  (l:∀W,V w.heap.size w W->B5 M W "strings.asciiSpace" .u8 A9):
  Br M 36 #[B6 #[v]] w (aiu a w ns):=by
 cases hb:iA ns with
 |true=>
  have d:dD ns=(1,0):=by unfold dD;rw[ab hb]
  refine(Lq w v ns h e hb).mono ?_;rintro o p ⟨rfl,j⟩;exact⟨j,.inl ⟨by rw[d];decide,by rw[d]⟩⟩
 |false=>exact IJ a w v ns g h e m k tt fr f l hb
def abq(w:Z)(v:Ax)(ns:List Nd)(h:eK w v ns)(m:ns.length<=1048576)(p:∀N∈ns,kH N)(l:ou w)(tt:B7)(fr:Nat×Nat)(k:w.heap[0]?=U (A2 fp tt fr))
  (n:∀W,V w.heap.size w W->B5 M W "strings.asciiSpace" .u8 A9):
  Br M 36 #[B6 #[v]] w (Lp w ns):=
 (Lr (λ_=>True) w v ns (λ_ _ _ _ _ _ _ _ _=>trivial) h m p l tt fr k n).mono λs t h=>⟨h.1,h.2.imp id λ⟨a,b,c,d,q,e,f,g,i,j⟩=>⟨a,b,c,d,q,e,f,g,i,λr o=>(j r o).1⟩⟩
def Lt(w:Z)(v:Ax)(ns:List Nd)(h:eK w v ns)(E:ns.length<=1048576)(I:∀N∈ns,kH N)(a:ou w)(tt:B7)(fr:Nat×Nat)(s:w.heap[0]?=U (.cells fp tt fr))
  (G:∀W,V w.heap.size w W->B5 M W "strings.asciiSpace" .u8 A9):
  Br M 17 #[.agg #[v]] w λe w'=>e= .returned (.agg #[.int .i64 (dD ns).1,.int .i64 (dD ns).2])/\V w.heap.size w w':=by
 have A:∀u x,V w.heap.size w ((w.alloc u).alloc x):=λu x=>((ai _ w).alloc (ag _) u).alloc (by simp) x;have o:B2 (∀W,V w.heap.size w W->Br M 36 #[.agg #[v]] W (Lp W ns)):=λW f=>
  abq W v ns (h.below f) E I (a.below f (ag _)) tt fr ((f.block _ (aj s)).trans s) (λp L=>G p (f.trans (L.mono f.size)))
 obtain⟨j,k,rfl⟩:=h.form;obtain⟨m,F⟩:=aF ns.length;rw[F]at o⊢;obtain⟨c,q⟩:=aF ((dD ns).1);obtain⟨d,r⟩:=aF ((dD ns).2);have i:=gE q r;rw[q,r];clear h E I a s G F q r;go_in;go_wp2_with fail;have n:lH (w.heap.size+1) ((w.alloc (.cells #[.slice j m k] 26)).alloc (.cells #[.int .i64 0,.int .i64 0] 55)) 0 0:=by
  have:=aB (w.alloc (.cells #[.slice j m k] 26)) (.cells #[.int .i64 0,.int .i64 0] 55);rw[de]at this;exact this
 have b:=A (.cells #[.slice j m k] 26) (.cells #[.int .i64 0,.int .i64 0] 55);generalize (w.alloc (.cells #[.slice j m k] 26)).alloc (.cells #[.int .i64 0,.int .i64 0] 55)=p at n b⊢;refine(o p b).mono ?_;rintro e g ⟨t,C⟩;obtain⟨H,rfl⟩:∃H,e= .returned (.tuple #[H,.agg #[.int .i64 c,.int .i64 d]]):=by
  rcases C with⟨_,a⟩|⟨K,_,_,_,ad,a,_⟩
  .exact⟨_,by rw[a,i.out.1,i.out.2]⟩
  .refine⟨nV ad,?_⟩;rw[a,<-i.out.1,<-i.out.2,K]
 have l:=n.below t;obtain⟨af,ak,al⟩:=jI l;have an:w.heap.size+1<g.heap.size:=aj l;have ao:w.heap.size+1≠g.heap.size:=by omega
 have B:V w.heap.size w g:=b.trans (t.mono b.size);have y:=gE B l;clear C t n b o B l A;go_wp2_with fail;have J:=(qj y.2 c d).below ((ai _ ((g.setCell ⟨w.heap.size+1,0,O⟩ (.int .i64 c)).setCell ⟨w.heap.size+1,1,O⟩ (.int .i64 d))).alloc (ag _) (.cells #[.int .i64 c,.int .i64 d] 55));have z:V w.heap.size w ((g.setCell ⟨w.heap.size+1,0,O⟩ (.int .i64 c)).setCell ⟨w.heap.size+1,1,O⟩ (.int .i64 d)):=(y.1.setCell (by simp) _).setCell (by simp) _;exact aH (gA rfl _ _ (w.heap.size+1) _ _ _ _ rfl J Tryz.underlying55 rfl (by kernel_rfl)) rfl ⟨rfl,z.alloc z.size _⟩
def akL(p:Addr)(w:Z):
  CallsD M 11 #[Ex (U p)] .returning w λe d w'=>e= A0 (Ce #[])/\d= .returning/\w'=w.alloc (A2 #[A3 A5 0] 39):=by
 have b:=λw=>ang w;refine callsD_of_wpS Tryz.func11 rfl λa f c=>?_;apply wpS_seq;apply wpS_region;simp[wpOpsS,go_sem,recoverD,c,Tryz.ntmps11,Exit.thenS,b];apply wpS_seq;apply wpS_region;simp[wpOpsS,go_sem,Exit.thenS,jb];refine wpS_cond (t:=B1) (by simp[Act.eval]) ?_;simp only[Bn,if_false];refine wpS_of_wp (wp_skip ?_);cases a
 simp_all [bodyPostS,results,Tryz.results11]
def xy(lo:Nat):∀(ks:Fo),LCs lo ks
 | .nil=>trivial
 | .cons N k r=>⟨AK (xy lo k),xy lo r⟩
structure PL (w:Z):Prop where
 lay:Lay w
 gn:12<=w.heap.size
 pow:∃tt fr,w.heap[1]?=U (.cells J3 tt fr)
 asc:B5 M w "strings.asciiSpace" .u8 A9
def PL.below{e:Z}{c:Nat}(h:PL w)(a:V c w e)(b:w.heap.size<=c):PL e:=by
 obtain⟨g,f,d⟩:=h.pow;exact⟨h.lay.below a b,bG h.gn a.size,⟨g,f,(a.block _ (ip (aj d) b)).trans d⟩,zD h.asc a b⟩
def aoq{d:Nat}{c:Z}{cs:Array Ax}(h:Gp d W c)(m:W.heap[d]?=U (A2 cs 75 (0,0))){base e size:Nat}{v:Ax}{xs:List Ax}(o:W.ownsRow base e size v n xs)(j:e≠75)(k:e≠77):c.ownsRow base e size v n xs:=by
 obtain⟨q,b⟩:=o;refine⟨q,?_⟩;rcases b with b|⟨i,f,g,p,l,a,r⟩
 .exact .inl b
 .exact .inr ⟨i,f,g,p,l,li h a (λe=>by rw[e,m]at a;cases a;exact j rfl) k,r⟩
def zh(bh:PL w)(el:Ku s ns):Br M 5 #[.string s] w (PsP w 0 0 ns):=by
 obtain⟨ts,A,o,hw,e2,ck,cy,j,dc,rfl⟩:=el;have g0:∀(ce:Fn)(first a8:Array Ax)(w:Z),(Instr.makeFunc ce first a8).run M w= .ok (.func ce first a8) w:=λ_ _ _ _=>rfl;have hr:∀w:Z,(zeroValue 28).run M w= .ok (.agg #[.int .i64 0,.int .i64 0,.slice O 0 0]) w:=λw=>by kernel_rfl
 have cn:=dE w (.cells #[.int .i64 0,.int .i64 0,.slice O 0 0] 28);have eL:=aB w (.cells #[.int .i64 0,.int .i64 0,.slice O 0 0] 28);have e8:(w.alloc (.cells #[.int .i64 0,.int .i64 0,.slice O 0 0] 28)).heap.size=w.heap.size+1:=de _ _;have gz:¬(65536:Int)<(s.size:Int):=by omega
 have l:=Cn ck cy j dc;obtain⟨tt,a9,m⟩:=bh.pow;have ds:=Hs (w.alloc (.cells #[.int .i64 0,.int .i64 0,.slice O 0 0] 28)) tt a9 ((cn.block _ (aj m)).trans m);have J:=aq bh;clear ck cy j dc bh m;go_enter_defers Tryz.func5,Tryz.ntmps5
 go_wp2_with fail;refine ds.mono ?_;rintro a a1 ⟨ef,rfl,ba,ca,a5⟩;rw[e8]at ba ca a5;have cq:V w.heap.size w a1:=cn.trans (a5.mono (by omega));have dn:=Lb a1 (w.heap.size+1) ef (w.heap.size+1) s ⟨ba,ca,by decide,by decide⟩ (J.lay.below cq (ag _)) e2 (by have:=J.gn;omega) l.1.1;have c6:=(a5.block w.heap.size (by omega)).trans eL;clear ds ba ca;go_wp2_with fail;refine dn.mono ?_;rintro a a2 ⟨hy,fm,v,ax,hI,bn,au,rfl,ar,bk,hh,e3,a6⟩;have ao:(dy fm 6).2=B3:=by have:=l.out.1.2;rwa [bn]at this
 obtain rfl:ts=v++[⟨6,(s.size:Nat),(s.size:Nat),ax,0,⟨#[]⟩⟩]:=by have a:=l.out.2.1;unfold na at a;rw[bn,aa (by simp),ab ao]at a;cases a;rfl
 have cr:V w.heap.size w a2:=cq.trans (a6.mono (by omega));have c7:=(a6.block w.heap.size (by omega)).trans c6;have e4:=aj c7;obtain⟨tn,b0⟩:=aF v.length;rw[b0]at ar e3;obtain⟨ea,ed,rfl⟩:=bJ ar;obtain⟨hB,bw,da⟩:=au.passOk (by decide) (by decide) ((au.may (by decide) (by decide)).trans ao);have dq:=λfk=>La (k:=6) (tf:=(s.size:Nat)) (tt:=(s.size:Nat)) (tl:=0) (tn:=0) (tx:=⟨#[]⟩) (s:=s) (bk.below (dE a2 fk)) (by decide) (by decide) ((au.may (by decide) (by decide)).trans ao) bw (by have:=sH bw;omega) λd9 em=>by have:=aE (da.o1 d9 em);omega
 obtain⟨ge,bt,_⟩:=bk.g.ex;have er:=aj bt;have K:=kJ ar b0 bt;have hl:=aj c6;have hm:=a6.size;clear dn bn au ao bw da ar b0 bk bt;go_wp2_with fail;refine(dq _).mono ?_;generalize cF:a2.alloc _=f5;obtain⟨d4,a0,g9⟩:=al1 cF;have d2:=cJ K.1 a0;have cf:=(a0.block _ er).trans K.2.2;clear cF;rintro a w5 ⟨rfl,eF,bx,a7⟩;have e0:=(a7.block w.heap.size (by omega)).trans ((a0.block _ e4).trans c7);have cs:V w.heap.size w w5:=(cr.trans (a0.mono cr.size)).trans (a7.mono (by omega));have d3:=aoq bx cf d2 (by decide) (by decide);have d5:fe a2.heap.size w5 6 (s.size:Nat) (s.size:Nat) 0 0 ⟨#[]⟩:=li bx d4 (by omega);obtain⟨fv,fz,fA,fB,fF,f2,f3⟩:=bz d5;obtain⟨ff,es,e7,e9,fb⟩:=eD adb;have hd:=a7.size;have c4:tn=A:=by have:=l.out.2.2.1.len;rw[aJ,K.out.2.1]at this;simpa using this
 have cb:=aq c4;have b6:=cJ d3 (dE w5 (.cells #[.int .i64 6,.int .i64 (s.size:Nat),.int .i64 (s.size:Nat),.int .i64 0,.int .i64 0,.string ⟨#[]⟩] 46));have he:=(dE w5 (.cells #[.int .i64 6,.int .i64 (s.size:Nat),.int .i64 (s.size:Nat),.int .i64 0,.int .i64 0,.string ⟨#[]⟩] 46)).size;have d6:=aB w5 (.cells #[.int .i64 6,.int .i64 (s.size:Nat),.int .i64 (s.size:Nat),.int .i64 0,.int .i64 0,.string ⟨#[]⟩] 46);clear dq eF bx d4 d2 cf d5 c4 d3;go_wp2_with (at_builtin;refine wpList_append_own_at _ rfl _ _ 43 rfl a1.heap.size 46 ff _ 6 56 Tryz.underlying43 es e7 e9 fb rfl (by decide) _ _ _ rfl b6 ⟨w5.heap.size,0,O⟩ 1 1 [.int .i64 6,.int .i64 (s.size:Nat),.int .i64 (s.size:Nat),.int .i64 0,.int .i64 0,.string ⟨#[]⟩] rfl rfl (World.news_of_block d6) (by intro hD dd;simp at dd;rcases dd with rfl|rfl|rfl|rfl|rfl|rfl<;>rfl) (by unfold maxLen;omega) (by omega) (by omega) ?_;intro hJ e b7 ap _ en;obtain⟨q,y,rfl⟩:=ownsRow_succ b7);have hn:=ap.size;have df:∀k,(E1 ea tn ed).ownBlock=U k->a1.heap.size<=k:=λk i=>(b6.lt k i).1;have an:V w.heap.size w e:=(cs.trans ((dE w5 _).mono cs.size)).grown ap (by omega) (λk i=>by have:=df k i;omega);have bE:=(ap.block w.heap.size (by omega) (λa=>by have:=df _ a.symm;omega)).trans (((dE w5 _).block _ (by omega)).trans e0);obtain⟨tt,a9,m⟩:=J.pow;have bf:=(an.block _ (aj m)).trans m;have gs:=aj m;obtain⟨ad,F,cz⟩:∃ad,e.heap[q]?=U (.cells ad 46 (0,0))/\TkR ad (uy (v++[⟨6,(s.size:Nat),(s.size:Nat),ax,0,⟨#[]⟩⟩])) (tn+1):=by
  rcases b7.2 with⟨b1,_⟩|⟨gd,a8,ec,b1,gu,ep,ak,gm,gp,eh⟩
  .cases b1
  .cases b1;refine⟨ec,ep,agC (ts:=v++[⟨6,(s.size:Nat),(s.size:Nat),0,0,⟨#[]⟩⟩]) (by rw[yg];exact eh) (by rw[aJ,K.out.2.1];rfl) (λb8 T G=>?_)⟩;rcases bC b8 v.length with h|h
   .rw[iq h]at G;rw[xr (T:=T) (by rw[iq h];exact G)];exact⟨rfl,λ_=>rfl⟩
   .have a:b8=v.length:=by have:=(List.getElem?_eq_some_iff.1 G).1;simp at this;omega
    subst a;rw[gh (ag _),fG]at G;cases G;rw[xr (T:=⟨6,(s.size:Nat),(s.size:Nat),ax,0,⟨#[]⟩⟩) (by rw[gh (ag _),fG];rfl)];exact⟨rfl,λh=>absurd rfl h⟩
 obtain⟨x,u⟩:∃x:Pe,(⟨0,e.heap.size,q,y,tn+1,uy (v++[⟨6,(s.size:Nat),(s.size:Nat),ax,0,⟨#[]⟩⟩])⟩:Pe)=x:=⟨_,rfl⟩;have j:=l.2.2.1;have cd:Pp x (e.alloc (.cells #[.slice (U ⟨q,0,O⟩) (tn+1) y,.int .i64 0] 49)) 0:=by
  rw[<-u];exact⟨by show tn+1<=_;omega,⟨ad,(0,0),((dE e _).block _ (aj F)).trans F,cz⟩,aB e _,by have:=an.size;show _<e.heap.size;omega,tt,a9,((dE e _).block _ (aj bf)).trans bf⟩
 obtain⟨b8,hS⟩:PI x .stats 0 o A:=aig (by rw[<-u];exact j.k78) (by rw[<-u];show P _ (tn+1) _ _ _ _;rw[cb.out];exact j.p);have H:=aqn (ahF (.inr (by rw[<-u];show(uy _ A).k=6;rw[j.end_])) hS) (by rw[<-u];show A<tn+1;have:=cb.out;omega) _ cd (by have:=j.sz;rw[di];omega);have cx:(x.tk A).t=(s.size:Nat):=by rw[<-u];show(uy _ A).t=_;rw[j.end_]
 have bd:x.pb=e.heap.size:=by rw[<-u]
 unfold pV at H;rw[cx,bd]at H;have fd:(e.alloc (.cells #[.slice (U ⟨q,0,O⟩) (tn+1) y,.int .i64 0] 49)).heap.size=e.heap.size+1:=de _ _;have br:=dE e (.cells #[.slice (U ⟨q,0,O⟩) (tn+1) y,.int .i64 0] 49);have cu:V w.heap.size w (e.alloc (.cells #[.slice (U ⟨q,0,O⟩) (tn+1) y,.int .i64 0] 49)):=an.trans (br.mono an.size);have c8:=(br.block _ (aj bE)).trans bE;have ho:=aj bE;clear hS cd j F cz m bf b7 ap en b6 d6 fv fz fA fB fF f2 f3;generalize e.alloc (.cells #[.slice (U ⟨q,0,O⟩) (tn+1) y,.int .i64 0] 49)=a4 at H fd br cu c8⊢;refine H.mono ?_;rintro a d8 ⟨fu,rfl,C⟩;obtain⟨eb,d0,eA⟩:=C.nb;have e5:=C.gr.size;have e1:=(C.gr.block w.heap.size (by omega) (λa=>by rw[bd]at a;have:=bc a;omega)).trans c8;have ek:V w.heap.size w d8:=cu.grown C.gr (by omega) (λk i=>by rw[bd]at i;have:=bc i;omega);have dx:=AK (xy a4.heap.size o) (N:=⟨1,0,(s.size:Nat),1,0,0,z0,[],[]⟩) d8 fu eb [] (.slice O 0 0) d0 ⟨eI _ _ _ _,λh0 e6=>(by cases e6)⟩ e5 (by have:=l.2.2.1.sz;rw[di];simp;omega);clear H d0 eA C cx;go_wp2_with fail;refine dx.mono ?_;rintro a g ⟨ht,B,rfl,z,bj,F,⟨eq,ev⟩,af,ew,_⟩;rw[eu]at z;obtain⟨b,c,rfl⟩:=bJ z.row;have cw:V w.heap.size w g:=ek.trans (af.bl.mono (by omega));have c9:=(af.bl.block w.heap.size (by omega)).trans e1;have hp:=af.bl.size;obtain⟨d,bv⟩:=aF B.length;rw[bv]at z;have d1:eK g (.slice b d c) (wD s o):=by
  have:=z.nds;rw[bj]at this;exact this
 have cc:B2 (Lw g a4.heap.size (.slice b d c) B/\B.map Mb.N=wD s o):=⟨z,bj⟩;rw[bv];have I:=dE g (.cells #[.slice b d c] 26);have cp:V w.heap.size w (g.alloc (.cells #[.slice b d c] 26)):=cw.trans (I.mono cw.size);have L:=J.below cp (ag _);have ey:(wD s o).length<=1048576:=by
  have:=l.2.2.1.sz;unfold wD;rw[Fo.flat_len,di];omega
 obtain⟨fo,ee,cB⟩:=L.lay.tabs.word;have b4:=Lt (g.alloc (.cells #[.slice b d c] 26)) (.slice b d c) (wD s o) (d1.below I) ey l.2.2.1.sm L.lay.errs fo ee cB (λf4 eo=>zD L.asc eo (ag _));have bo:=aB g (.cells #[.slice b d c] 26);have bA:=(I.block _ (aj c9)).trans c9;have g5:(g.alloc (.cells #[.slice b d c] 26)).heap.size=g.heap.size+1:=de _ _;rw[l.2.2.2]at b4;have gt:∀(d7 fq:Ax)(w:Z),(Instr.field 55 (.agg #[d7,fq]) 0).run M w= .ok d7 w:=λ_ _ _=>by kernel_rfl
 clear dx z bj F eq ev af ew d1 cB L bv;go_wp2_with fail;refine b4.mono ?_;rintro a n ⟨rfl,E⟩;have cI:=(E.block _ (aj bo)).trans bo;have bD:=(E.block _ (aj bA)).trans bA;have ei:V w.heap.size w n:=cp.trans (E.mono (by omega));have g7:=E.size;have et:∀k,k<g.heap.size->n.heap[k]?=g.heap[k]?:=λk i=>(E.block k (by omega)).trans (I.block k i);obtain⟨f6,f7,f8,f9⟩:=row3 bD;have hC:n.cell? ⟨g.heap.size,0,O⟩=U (.slice b d c):=by rw[am _ _ _ _ _ _ cI];rfl
 have g1:w.heap.size≠g.heap.size:=by omega
 have g3:=aj bD;clear b4 bo bA I cI;go_wp2_with fail;refine leaves_cons (f:=11) (args:=#[.pointer (U ⟨w.heap.size,0,O⟩)]) (by simp) (by simp[go_sem]) ?_;refine(akL ⟨w.heap.size,0,O⟩ _).mono ?_;rintro a hH hK ⟨rfl,rfl,rfl⟩;have ak:=set3 bD (.int .i64 0) (.int .i64 0) (.slice b d c);have bb:=agD ei (.int .i64 0) (.int .i64 0) (.slice b d c);have c3:∀k,k≠w.heap.size->_:=λk i=>ali (w:=n) (r:=w.heap.size) (k:=k) i (.int .i64 0) (.int .i64 0) (.slice b d c);have dg:n.heap.size<=(((n.setCell ⟨w.heap.size,0,O⟩ (.int .i64 0)).setCell ⟨w.heap.size,1,O⟩ (.int .i64 0)).setCell ⟨w.heap.size,2,O⟩ (.slice b d c)).heap.size:=by simp[World.setCell]
 generalize ((n.setCell ⟨w.heap.size,0,O⟩ (.int .i64 0)).setCell ⟨w.heap.size,1,O⟩ (.int .i64 0)).setCell ⟨w.heap.size,2,O⟩ (.slice b d c)=a3 at ak bb c3 dg⊢;have b9:=dE a3 (.cells #[.int .i64 0] 39);have hj:=bb.size;have g8:n.heap.size<=a3.heap.size:=dg;have fg:Lw (a3.alloc (.cells #[.int .i64 0] 39)) a4.heap.size (.slice b d c) B:=cc.1.mono λk gf eg=>(b9.block k (by omega)).trans ((c3 k (by omega)).trans (et k eg));refine⟨_,gA rfl _ _ w.heap.size _ _ _ _ rfl ((b9.block _ (aj ak)).trans ak) Tryz.underlying28 rfl (by kernel_rfl),show PsP w 0 0 (wD s o) _ _ from⟨_,rfl,⟨B,_,cc.2,fg⟩,bb.trans (b9.mono (by omega))⟩⟩
def PM(E:Pe):xz->Nat->Fo->Nat->Prop
 | .unit,i,R,j=>CU E i R j
 | .expr p,i,R,j=>CX E p i R j
 | .more p s x,i,R,j=>∃m,Ms E (CX E) p s m x i R j
 | .base,i,R,j=>CB E i R j
 | .post s x,i,R,j=>∃m,K6 E (CX E 0) (CLx E) s m x i R j
 | .exprs,i,R,j=>CLx E i R j
 | .moreE,i,R,j=>∃m,Ls E (CX E 0) m i R j
 | .moreB,i,R,j=>∃m,Ls E (CB E) m i R j
 | .stat,i,R,j=>CI E 81 #[pV E] i R j
 | .stats,i,R,j=>∃m,Ss E (CI E 81 #[pV E]) m i R j
 | .block,i,R,j=>CK E i R j
 | .body s,i,R,j=>CBd E s i R j
 | .entry,i,R,j=>CI E 238 #[pV E] i R j
 | .entries,i,R,j=>∃m,Es E (CI E 238 #[pV E]) m i R j
 | .branch,i,R,j=>CBr E (E.tk i).k i R j
def aor(h:k=5\/k=6\/k=43):eJ k=B1:=by rcases h with rfl|rfl|rfl<;>decide
def aos(h:jt k=B3):k=25\/k=50\/k=62\/k=69:=by
 have:=aE h;omega
def brK{E:Pe}(h:CBr E (E.tk i).k i R j)(e:(E.tk i).k=k):CBr E k i R j:=e ▸ h
def aeG{E:Pe}(A:∀q,(E.tk q).k<=78){t:xz}(h:P E.tk E.n t i R j):PM E t i R j:=by
 induction h with
 |upre a b d c=>have:=d.pos;simp only[eB]at this;exact qi (.pre (aos a) rfl b c (by omega) (by omega))
 |uint a b=>exact qi (.int a b)
 |uflt a b=>exact qi (.word (.inl ⟨rfl,rfl⟩) a b)
 |ustr a b=>exact qi (.word (.inr ⟨rfl,rfl⟩) a b)
 |unil a b=>exact qi (.leaf (.inl ⟨rfl,rfl⟩) a b)
 |utru a b=>exact qi (.leaf (.inr (.inl ⟨rfl,rfl⟩)) a b)
 |ufls a b=>exact qi (.leaf (.inr (.inr (.inl ⟨rfl,rfl⟩))) a b)
 |urst a b=>exact qi (.leaf (.inr (.inr (.inr ⟨rfl,rfl⟩))) a b)
 |ufn a b d c=>exact qi (.fn a b c)
 |utab a b d e f c=>obtain⟨g,c⟩:=c;exact agj a b c e f
 |ubas a b d c=>exact qi (.base a rfl b c)
 |ex a b d e l o=>obtain⟨g,c⟩:=o;exact anC a b A l c
 |mstop a b=>exact⟨0,.stop a b⟩
 |mgo a b d e f o w=>obtain⟨g,c⟩:=w;have:=e.pos;simp only[eB]at this;exact⟨g+1,.go a b d o (by omega) (by omega) c⟩
 |bname a b d c=>obtain⟨g,c⟩:=c;have:=d.pos;simp only[eB]at this;exact ahH a b .name (by omega) c
 |@bopen i k j u z R a b d e f m l r=>
  obtain⟨g,c⟩:=r;have:=d.pos;have:=m.pos;simp only[eB]at *;by_cases v:u.k=34\/u.k=27
  .rw[show lJ u z (E.tk i) (E.tk k).t=_ from ab v]at c;exact ahH a b (.held l e (by omega) v rfl) (by omega) c
  .rw[show lJ u z (E.tk i) (E.tk k).t=_ from aa v]at c;exact ahH a b (.par l e (by omega) (by simp;omega) (by simp;omega)) (by omega) c
 |pstop a b=>exact⟨0,.stop a b⟩
 |pdot a b d e c=>obtain⟨g,c⟩:=c;have:=e.pos;exact⟨g+1,.dot a b (by omega) c⟩
 |psq a b d e f m l r=>obtain⟨g,c⟩:=r;have:=d.pos;simp only[eB]at this;have:=m.pos;exact⟨g+1,.sq a b l e (by omega) c⟩
 |pcall0 a b d e c=>obtain⟨g,c⟩:=c;have:=e.pos;exact⟨g+1,.call0 a b (by omega) c⟩
 |pcall a b d e f m p o s=>obtain⟨g,c⟩:=s;have:=e.pos;simp only[eB]at this;have:=p.pos;exact⟨g+1,.call a b d o f (by omega) c⟩
 |es a b C F=>obtain⟨g,c⟩:=F;exact ajs C c
 |estop a b=>exact⟨0,.stop a b⟩
 |ego a b d e l o=>obtain⟨g,c⟩:=o;exact⟨g+1,.go a b l c⟩
 |bstop a b=>exact⟨0,.stop a b⟩
 |bgo a b d e l o=>obtain⟨g,c⟩:=o;exact⟨g+1,.go a b l c⟩
 |@body i k j al ad ak L a b d e c=>
  obtain⟨g,I,J,af,K⟩:=Pt.of d;have:=e.pos;simp only[eB]at this;obtain⟨y,rfl⟩:∃y,k=y+1:=⟨k-1,by omega⟩;exact anD a b I J K c (by omega) (by omega)
 |block a b d e f c=>obtain⟨g,c⟩:=c;exact qi (.block a b (ack (.inl rfl) e c) e f)
 |sstop a b=>exact⟨0,.stop b⟩
 |ssep a b d c=>obtain⟨g,c⟩:=c;exact⟨g+1,.sep a b c⟩
 |sgo a b d e f m w r=>obtain⟨g,c⟩:=r;exact⟨g+1,.go a b d e w c⟩
 |nstop a b=>exact⟨0,.stop a b⟩
 |ncom a b d e f m l r=>obtain⟨g,c⟩:=r;exact⟨g+1,.com a b l e f c⟩
 |nlast a b d e f m l r=>obtain⟨g,c⟩:=r;exact⟨g+1,.last a b l e f c⟩
 |item a b d e f c=>have:=f.pos;simp only[eB]at this;exact IG d e (.item a b c (by omega) (by omega))
 |pair a b d e f m p l s=>have:=d.pos;have:=p.pos;simp only[eB]at *;exact IG (by omega) (by omega) (.pair a l e f m s (by omega) (by omega))
 |named a b d e f c=>have:=f.pos;simp only[eB]at this;exact IG (by omega) (by omega) (.named a b d e c (by omega) (by omega))
 |belif a b d e f m p l o s=>have:=d.pos;have:=e.pos;have:=p.pos;simp only[eB]at *;exact ja (.belif a rfl b l o m f (brK s f) (by omega) (by omega))
 |belse a b d e f m p l o s=>have:=d.pos;have:=e.pos;have:=p.pos;simp only[eB]at *;exact ja (.belse a rfl b l o m f s (by omega) (by omega))
 |bno a b d e f m p l o=>have:=d.pos;have:=e.pos;simp only[eB]at *;exact ja (.bno a rfl b l o (by omega) p f m)
 |tlet0 a b d e f=>have:=e.pos;exact ja (.let0 a (by omega) (vJ d b e) (by omega) (by omega) f)
 |tlet a b d e f m c=>have:=e.pos;have:=m.pos;simp only[eB]at *;exact ja (.let1 a (by omega) (vJ d b e) (by omega) f c (by omega) (by omega))
 |@tcon i j an a b d e f c=>have:=f.pos;simp only[eB]at *;exact ja (.con a (by omega) (vJ b (by omega) (.stop (by rw[d];decide) (by omega))) (by omega) d c (by omega) (by omega))
 |tfn a b d e f c=>have:=f.pos;simp only[eB]at *;exact akE a b d e c (by omega) (by omega)
 |tif a b d c=>exact ja (.iff a b (brK c a))
 |twhile a b d e l o=>have:=d.pos;have:=e.pos;simp only[eB]at *;exact ja (.whl a b l o (by omega) (by omega))
 |tfor a b d e f m p r s=>have:=e.pos;have:=m.pos;have:=p.pos;simp only[eB]at *;exact ja (.for_ a (by omega) (ja (.lfor a (by omega) (vJ d b e) (by omega) f r s (by omega) (by omega))))
 |teach a b d e f m p x B r H=>have:=e.pos;have:=m.pos;have:=B.pos;simp only[eB]at *;exact ja (.for_ a (by omega) (ja (.leach a (by omega) (vJ d b e) (by omega) f r H (by omega) (by omega))))
 |tbreak a b=>exact ja (.leaf (.inl ⟨rfl,rfl⟩) a b)
 |tnext a b=>exact ja (.leaf (.inr ⟨rfl,rfl⟩) a b)
 |tret0 a b d=>exact ja (.ret0 a b (aor d))
 |tret a b d e c=>have:=e.pos;simp only[eB]at *;exact ja (.ret1 a b d c (by omega) (by omega))
 |ttry a b d e f m p x l G=>have:=d.pos;have:=p.pos;have:=x.pos;simp only[eB]at *;exact ja (.try_ a b l e (by omega) (vJ m f p) G (by omega) (by omega))
 |tthrow a b d c=>have:=d.pos;simp only[eB]at *;exact ja (.thr a b c (by omega) (by omega))
 |tdefer a b d c=>have:=d.pos;simp only[eB]at *;exact ja (.dfr a b c (by omega) (by omega))
 |tblock a b d c=>exact ja (.blk a b c)
 |tdo a b d e f m c=>have:=d.pos;simp only[eB]at *;exact ja (.smp a rfl b (Ll a rfl b c (.inl ⟨e,f,m,rfl,rfl⟩) (by omega)))
 |tset a b d e f m p l o s=>obtain⟨g,o⟩:=o;have:=d.pos;have:=e.pos;have:=p.pos;simp only[eB]at *;exact ja (.smp a rfl b (Ll a rfl b l (.inr ⟨_,_,_,g,by cases o with|stop _ _=>exact .inr f|go h _ _ _=>exact .inl h,o,f,m,s,by omega,by omega,rfl⟩) (by omega)))
def IK(w:Z)(s:ByteArray)(cq:s.size<=65536){d:List Tk}{m:Nat}{b7:Int}(z:agE s)(a7:na s=(d, -1))(a2:PF s d m R b7):Br M 8 #[.string s] w (PsP w (okC (wD s R)) 0 (okN (wD s R))):=by
 have cr:∀w:Z,(zeroValue 28).run M w= .ok (.agg #[.int .i64 0,.int .i64 0,.slice O 0 0]) w:=λw=>by kernel_rfl
 have cn:¬(65536:Int)<(s.size:Int):=by omega
 unfold agE TkP at z;rw[a7]at z;clear a7;obtain⟨g,an⟩:=aF d.length;have a:=gE a2 an;simp only[an]at z;clear a2 an;have ad:=dE w (.cells #[.int .i64 0,.int .i64 0,.slice O 0 0] 28);have ao:=aB w (.cells #[.int .i64 0,.int .i64 0,.slice O 0 0] 28);go_in;go_wp2_with fail;generalize w.alloc (.cells #[.int .i64 0,.int .i64 0,.slice O 0 0] 28)=ca at ad ao⊢;refine(z _).mono ?_;rintro bv b ⟨q,f,rfl,bl,a4⟩;have ap:=(a4.block _ (aj ao)).trans ao;have a6:V w.heap.size w b:=ad.trans (a4.mono ad.size);have bd:g=m+1:=by rw[<-a.out.2];exact a.out.1.len
 obtain⟨j,F,rfl,bb,a8⟩:∃j F,q=U ⟨j,0,O⟩/\b.heap[j]?=U (.cells F 46 (0,0))/\TkR F (uy d) g:=by
  rcases bl.2 with⟨_,k⟩|⟨bx,cb,bt,b5,cl,bE,cd,cf,ck,bD⟩
  .omega
  .cases b5;exact⟨bx,bt,rfl,bE,agC bD a.out.2 (λb8 b9 bf=>by rw[xr bf];exact⟨rfl,λ_=>rfl⟩)⟩
 obtain⟨b8,hS⟩:PM ⟨b.heap.size,b.heap.size+1,j,f,g,uy d⟩ .stats 0 R m:=aeG (E:=⟨b.heap.size,b.heap.size+1,j,f,g,uy d⟩) a.out.1.k78 (bd ▸ a.out.1.p);have bk:=akk s b j f g m (uy d) F (0,0) bb a8 (by have:=a.out.1.le;omega) (by omega) (R:=R) (ack (E:=⟨b.heap.size,b.heap.size+1,j,f,g,uy d⟩) (.inr rfl) (by show(uy d m).k=6;rw[a.out.1.end_]) hS) (by have:=a.out.1.sz;omega);clear hS;clear z bl bb a8 bd;go_wp2_with fail;refine bk.mono ?_;rintro bv e ⟨bn,J,rfl,ax,al,a5⟩;have a0:eK e bn (wD s R):=by have:=ax.nds;rw[al]at this;exact this
 have x:=(a5.block _ (aj ap)).trans ap;have af:V w.heap.size w e:=a6.trans (a5.mono a6.size);obtain⟨r,A,u,rfl⟩:∃q g f,bn= .slice q g f:=by obtain⟨q,f,G⟩:=a0.form;exact⟨q,_,f,G⟩
 have b0:=a.out.1.ct;have b1:(wD s R).length<=1048576:=by
  have:=a.out.1.sz;unfold wD;rw[Fo.flat_len,di];omega
 have au:=λl=>DC (e.alloc l) (.slice r A u) (wD s R) (a0.below (dE e l)) b1 a.out.1.sm;have a3:B2 (Lw e b.heap.size (.slice r A u) J/\J.map Mb.N=wD s R):=⟨ax,al⟩;have n:B2 (okC (wD s R)=(if(dD (wD s R)).1=0 then 0 else 2)/\okN (wD s R)=(if(dD (wD s R)).1=0 then wD s R else [])):=⟨rfl,rfl⟩;obtain⟨I,ar⟩:=aF ((dD (wD s R)).1);obtain⟨C,bj⟩:=aF ((dD (wD s R)).2);rw[ar]at n;simp only[ar,bj]at au;have a9:=aB e (.cells #[.slice r A u] 26);have v:=dE e (.cells #[.slice r A u] 26);have b4:=v.size;clear bk a0 ar bj b0 ax al;go_wp2_with fail;refine du (au _) λc t=>?_;have ba:=(t.block _ (aj a9)).trans a9;have bh:=(t.block _ (aj ((v.block _ (aj x)).trans x))).trans ((v.block _ (aj x)).trans x);have H:V w.heap.size w c:=(af.trans (v.mono af.size)).trans (t.mono (bG af.size b4));have ce:=aj ba;clear au;have B:∀(i:Nat)(K:Array Ax)(a1:B7)(L:Nat×Nat)(l:Obj),c.heap[i]?=U (.cells K a1 L)->(c.alloc l).heap[i]?=U (.cells K a1 L):=λi K a1 L l G=>((dE c l).block _ (aj G)).trans G;have cp:w.heap.size≠e.heap.size:=by have:=aj x;omega
 by_cases k:I=0
 .subst k;have y:=B _ _ _ _ (.cells #[.int .i64 0,.int .i64 C] 55) bh;obtain⟨bo,br,bs,bw⟩:=row3 y;have cu:(c.alloc (.cells #[.int .i64 0,.int .i64 C] 55)).cell? ⟨e.heap.size,0,O⟩=U (.slice r A u):=by rw[am _ _ _ _ _ _ (B _ _ _ _ _ ba)];rfl
  have h:=n.out;rw[ab rfl,ab rfl]at h;have o:=aq h;have ak:V w.heap.size w (c.alloc (.cells #[.int .i64 0,.int .i64 C] 55)):=H.trans ((dE c _).mono H.size);clear h n B;go_wp2_with fail;exact aH (gA rfl _ _ w.heap.size _ _ _ _ rfl (set3 y _ _ _) Tryz.underlying28 rfl (by kernel_rfl)) rfl (show PsP w (okC (wD s R)) 0 (okN (wD s R)) _ _ from by rw[o.out.1,o.out.2];exact⟨_,rfl,⟨J,_,a3.out.2,a3.out.1.mono λi cc bA=>(ali (by have:=aj ap;omega) _ _ _).trans (((dE c _).block i (by have:=t.size;omega)).trans ((t.block i (by omega)).trans (v.block i bA)))⟩,agD ak _ _ _⟩)
 .have y:=B _ _ _ _ (.cells #[.int .i64 I,.int .i64 C] 55) bh;obtain⟨bo,br,bs,bw⟩:=row3 y;have h:=n.out;rw[aa k,aa k]at h;have o:=aq h;have bf:(I==0)=B1:=by simpa using k
  have ak:V w.heap.size w (c.alloc (.cells #[.int .i64 I,.int .i64 C] 55)):=H.trans ((dE c _).mono H.size);clear h n k B;go_wp2_with fail;exact aH (gA rfl _ _ w.heap.size _ _ _ _ rfl (set3 y _ _ _) Tryz.underlying28 rfl (by kernel_rfl)) rfl (show PsP w (okC (wD s R)) 0 (okN (wD s R)) _ _ from by rw[o.out.1,o.out.2];exact⟨_,rfl,anp _,agD ak _ _ _⟩)
def uE(w:Z)(a b:Option Addr)(n m c d:Nat)(h:1048576<n\/1048576<m)(i:n<=9223372036854775807)(j:m<=9223372036854775807):Br M 3 #[Y a n c,Y b m d] w λe w'=>e= A0 (E2 B3)/\V w.heap.size w w':=by
 by_cases g:1048576<n
 .have f:(1048576:Int)<(n:Int):=by omega
  go_in;go_wp2_with fail;go_ret;exact⟨rfl,ai _ _⟩
 .have f:¬(1048576:Int)<(n:Int):=by omega
  have k:(1048576:Int)<(m:Int):=by omega
  go_in;go_wp2_with fail;go_ret;exact⟨rfl,ai _ _⟩
section
variable {s : ByteArray} {ns : List Nd}
def Ku.tm(h:Ku s ns):Tm ns:=by
 obtain⟨_,_,d,_,_,_,_,a,_,rfl⟩:=h;refine⟨?_,λb c=>⟨(a.sm b c).l1,(a.sm b c).l2⟩⟩;have:=a.sz;unfold wD;rw[Fo.flat_len,di];omega
def Ku.sp(h:Ku s ns)(w:Z):Br M 8 #[B0 s] w (PsP w 0 0 ns):=by
 obtain⟨_,_,g,_,a,e,f,c,d,rfl⟩:=h;have b:=IK w s a (uD a e) f c;unfold okC okN at b
 rwa [d,ab rfl,ab rfl]at b
end
def Code.up{c:Nat}{a:Option Addr}(h:Code C b w a)(j:b<=c):Code C c w a:=h.imp id λ⟨g,f,d,i,e⟩=>⟨g,f,d,by omega,e⟩
def aqt(C D:Cd):∃t z ns ms,(Ku t ns/\Ku z ms/\ns.map Nd.bk=ms.map Nd.bk)/\Dx C 4 [] t/\Dx D 6 [B0 t] z:=by
 obtain⟨t,⟨u,h,x,y,i⟩,_,f⟩:=aoo C;obtain⟨e,s,ns,a,A,k⟩:=air h (by rw[ahc];omega);obtain⟨v,b,c,B,F⟩:=a.step k (tE.refl e) i;have d:t.size<=65536:=by have:=alD e;omega
 obtain⟨ms,o,l⟩:=a.outV d c b;obtain⟨z,j,g⟩:=akK D d (a.acc c b);obtain⟨w,q,r,E,G⟩:=a.step c b j;obtain⟨n,p,m⟩:=a.outV (by omega) r q;exact⟨t,z,ms,n,⟨o,p,l.trans m.symm⟩,f,g⟩
def aeH{D:Cd}{a5 a6:Option Addr}{bA bE:Nat}(bn:Code C w.heap.size w a5)(bo:Code D w.heap.size w a6)(bv:PL w):Br M 3 #[Y a5 C.len bA,Y a6 D.len bE] w λe w'=>e= A0 (E2 B3)/\V w.heap.size w w':=by
 obtain⟨cq,cy,h,ms,a3,ax,a2⟩:=aqt C D;have cn:¬(1048576:Int)<(C.len:Int):=by have:=C.ok;omega
 have cp:¬(1048576:Int)<(D.len:Int):=by have:=D.ok;omega
 have c:=Cn bn bo bv a3;clear bn bo bv a3;go_in;go_wp2_with fail;refine du (ax c.out.1) λw1 ba=>?_;have s:=aq ba;clear ba ax;have J:=zh (c.2.2.1.below s.out (ag _)) c.2.2.2.1;unfold PsP psV at J;go_wp2_with fail;refine J.mono ?_;rintro e r ⟨q,rfl,o,bb⟩;have L:=o.nds;obtain⟨a9,bf,rfl⟩:=L.form;have z:=aq (s.out.trans (bb.mono s.out.size));have ar:=aq L;clear J o bb L s;go_wp2_with fail;generalize bk:r.alloc _=a4;obtain⟨bh,B,bx⟩:=al1 bk;have i:=aq (z.out.trans (B.mono z.out.size));have x:=kJ bh B bx;clear bk bh B bx z;go_wp2_with fail;refine du (a2 ((c.2.1.below i.out).up i.out.size)) λcs E=>?_;have t:=aq (i.out.trans (E.mono i.out.size));have j:=aq E;have K:=zh (c.2.2.1.below t.out (ag _)) c.2.2.2.2.1;unfold PsP psV at K;clear E a2 i;go_wp2_with fail;refine K.mono ?_;rintro e w5 ⟨p,rfl,o,F⟩;have ad:=o.nds;obtain⟨a8,bd,rfl⟩:=ad.form;have u:=aq (t.out.trans (F.mono t.out.size));have k:=gE ad F;clear K o F ad t;go_wp2_with fail;generalize bl:w5.alloc _=d;obtain⟨bj,g,ce⟩:=al1 bl;have y:V d.heap.size d d.drew:=bH (ai _ d);have G:V a4.heap.size a4 d.drew:=((j.out.trans (k.2.mono j.out.size)).trans (g.mono (by have:=j.out.size;have:=k.2.size;omega))).trans (y.mono (by have:=j.out.size;have:=k.2.size;have:=g.size;omega));have ak:=(G.block _ (by have:=x.2.2;omega)).trans x.1;have ao:d.drew.heap[w5.heap.size]?=_:=bj;have af:d.drew.cell? ⟨r.heap.size,0,O⟩=U (A3 A5 0):=(am _ _ _ _ _ _ ak).trans rfl;have p2:d.drew.cell? ⟨r.heap.size,2,O⟩=U (Y a9 h.length bf):=(am _ _ _ _ _ _ ak).trans rfl;have al:d.drew.cell? ⟨w5.heap.size,0,O⟩=U (A3 A5 0):=(am _ _ _ _ _ _ ao).trans rfl;have an:d.drew.cell? ⟨w5.heap.size,2,O⟩=U (Y a8 ms.length bd):=(am _ _ _ _ _ _ ao).trans rfl;have cl:∀(cc cd bw:Ax)(w:Z),(Instr.field 28 (B6 #[cc,cd,bw]) 2).run M w= .ok (B6 #[bw]) w:=λ_ _ _ _=>by kernel_rfl
 have bt:=(ar.out.below x.2.1).below G;have nq:=(k.1.below g).below y;have v:=aq ((u.out.trans (g.mono u.out.size)).trans (y.mono (by have:=u.out.size;have:=g.size;omega)));have br:=λf=>c.2.2.2.1.sp f;unfold PsP psV at br;have ap:=c.2.2.2.1.tm;have ca:=λ(f:Z) q p (H:eK f q h) (I:eK f p h)=>Gc f q p h H I ap.n ap.l;have b0:=λ(f:Z) q p (H:eK f q h) (I:eK f p ms)=>abp H I ap c.2.2.2.2.1.tm c.2.2.2.2.2;have A:=gE bt nq;clear bl bj g ce G ak ao bt nq ar x j k u y;go_region_held3 (λw'=>w'.cell? ⟨r.heap.size,0,O⟩=U (A3 A5 0)/\w'.cell? ⟨r.heap.size,2,O⟩=U (Y a9 h.length bf)/\w'.cell? ⟨w5.heap.size,0,O⟩=U (A3 A5 0)/\w'.cell? ⟨w5.heap.size,2,O⟩=U (Y a8 ms.length bd)) (first|go_keep|exact⟨ah m (ah b (ah a af)),ah m (ah b (ah a p2)),ah m (ah b (ah a al)),ah m (ah b (ah a an))⟩|exact⟨ah b (ah a af),ah b (ah a p2),ah b (ah a al),ah b (ah a an)⟩|exact⟨ah a af,ah a p2,ah a al,ah a an⟩) (first|(go_at_call 8;refine(br _).mono ?_;rintro e ct ⟨cr,rfl,cb,a⟩;have bs:=cb.nds;obtain⟨cf,ck,rfl⟩:=bs.form)|(go_at_call 7;refine(ca _ _ _ (A.1.below a) bs).mono ?_;rintro e cw ⟨rfl,b⟩)|(go_at_call 9;refine(b0 _ _ _ ((A.1.below a).below b) ((A.2.below a).below b)).mono ?_;rintro e cx ⟨rfl,m⟩))
 go_wp2_with fail;go_ret;exact⟨rfl,((v.out.trans (a.mono v.out.size)).trans (b.mono (by have:=v.out.size;have:=a.size;omega))).trans (m.mono (by have:=v.out.size;have:=a.size;have:=b.size;omega))⟩
