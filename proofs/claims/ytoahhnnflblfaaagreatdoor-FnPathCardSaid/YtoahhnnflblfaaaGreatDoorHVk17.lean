import Derived.Test.YtoahhnnflblfaaaGreatDoorHVk07
import Derived.Test.YtoahhnnflblfaaaGreatDoorHVk14
set_option linter.all false
set_option maxRecDepth 100000
set_option maxHeartbeats 6400000
open Option renaming some->M,none->O
open Go renaming Value->Q,World->Z,TypeId->A0,Calls->A4
open Go.IntKind renaming i64->T
open Go.Value renaming int->U,string->Y,int->A1,slice->A2,ownBlock->A3,agg->A5
open Go.RowKit renaming Below->V
open Go.Obj renaming cells->X
open Go.Proofs.Tryz renaming prog->Ax
namespace Go.Proofs.YtoahhnnflblfaaaGreatDoor
open Go.RowKit Go.Maps Go.WideMaps
theorem adJ{w:Z}{b:Q}{ns:List Nd}{N:Nd}{vn vk:Q}(c:gn w b ns N vn vk)(g:0<N.ks.length):
  A4 Ax 96 #[A5 #[b],A5 #[U T N.k,U T N.f,U T N.t,U T N.l,U T N.op,U T N.n,.string N.x,vn,vk],U T ((N.ks.length:Int)-1)] w fun e d=>e= .returned (U T (eu ns N (N.ks.length-1)))/\V w.heap.size w d:=by
 have a:=lg c (N.ks.length-1) (by omega);rw[show((N.ks.length-1:Nat):Int)=(N.ks.length:Int)-1 by omega]at a;exact a
theorem ahh{w:Z}{b:Q}{ns:List Nd}{N:Nd}{vn vk:Q}(a:gn w b ns N vn vk)(g:0<N.ks.length):
  A4 Ax 99 #[A5 #[b],A5 #[U T N.k,U T N.f,U T N.t,U T N.l,U T N.op,U T N.n,.string N.x,vn,vk],U T 0,U T ((N.ks.length:Int)-1)] w fun e d=>e= .returned (.bool (iF ns N (N.ks.length-1) 0))/\V w.heap.size w d:=by
 have c:=dz w b ns N vn vk 0 (N.ks.length-1) a.t a.n a.k a.ok (by omega) a.ln a.l2;rw[show((N.ks.length-1:Nat):Int)=(N.ks.length:Int)-1 by omega]at c;exact c
theorem ahi{w:Z}{B:Q}{ns:List Nd}{N:Nd}{vn vk:Q}(d:gn w B ns N vn vk)(h:N.k=9):
  A4 Ax 45 #[A5 #[B],dy N vn vk] w fun e f=>e= .returned (.bool (aD N false false false true&&(ez N 1 1&&(((N.ks.length:Int)==3||(N.ks.length:Int)==4)&&(iF ns N (N.ks.length-1) 0&&(eu ns N (N.ks.length-1)==1))))))/\V w.heap.size w f:=by
 obtain⟨C,H,rfl⟩:=d.t.form;obtain⟨F,I,rfl⟩:=d.n.form;obtain⟨G,J,rfl⟩:=d.k.form;have b:=St.start d;have K:=d.l2;clear d;have af:=ci h;have ak:=kH h 9 rfl;clear h;unfold dy;cases t0:aD N false false false true
 case' true=>
  cases t1:ez N 1 1
  case' true=>
   cases t2:((N.ks.length:Int)==3)
   case' false=>cases t5:((N.ks.length:Int)==4)
   case' false.true=>
    have g:Hid (0<N.ks.length):=by show _<_;have:=ga t5;omega
    cases t3:iF ns N (N.ks.length-1) 0
    case' true=>cases t4:(eu ns N (N.ks.length-1)==1)
   case' true.true.true=>
    have g:Hid (0<N.ks.length):=by show _<_;have:=ga t2;omega
    cases t3:iF ns N (N.ks.length-1) 0
    case' true=>cases t4:(eu ns N (N.ks.length-1)==1)
 all_goals
  go_in;go_wp2_with (first|(go_at_call 97;refine(lp _ N _ _ b.a.n b.a.k b.a.l1).mono ?_;rintro e f ⟨rfl,c⟩;replace b:=b.below c;clear c;obtain⟨i,j,m,o,p,q,s,u,v,z⟩:=aq b.bn;have A:=b.bt)|(go_at_call 98;refine(jy _ N _ _ 1 1 b.a.n b.a.k b.a.l1 b.a.ls).mono ?_;rintro e f ⟨rfl,c⟩;replace b:=b.below c;clear c;obtain⟨i,j,m,o,p,q,s,u,v,z⟩:=aq b.bn;have A:=b.bt)|(go_at_call 99;with_reducible refine(ahh b.a g.out).mono ?_;rintro e f ⟨rfl,c⟩;replace b:=b.below c;clear c;obtain⟨i,j,m,o,p,q,s,u,v,z⟩:=aq b.bn;have A:=b.bt)|(go_at_call 96;with_reducible refine(adJ b.a g.out).mono ?_;rintro e f ⟨rfl,c⟩;replace b:=b.below c;clear c;obtain⟨i,j,m,o,p,q,s,u,v,z⟩:=aq b.bn;have A:=b.bt));go_ret;exact⟨rfl,b.bel⟩
def alB(c:Int):Bool:=bC c||ch c
theorem mI(a b:ByteArray)(i:Nat):aw (a++b) i=if i<a.size then aw a i else aw b (i-a.size):=by
 have e:(a++b).data.toList=a.data.toList++b.data.toList:=by rw[js,D3]
 have f:a.data.toList.length=a.size:=eB;rw[qL,e];split<;>rename_i c
 all_goals
  by_cases d:i<a.size
  ·rw[ab d,qL];rw[iD (by omega)]at c;rw[c]
  ·rw[aa d,qL];rw[gF (by omega),f]at c;rw[c]
theorem Ay(s:ByteArray)(n i:Nat)(c:n<=s.size)(b:i<n):aw (s.extract 0 n) i=aw s i:=by
 rw[qL,qL];have a:(s.extract 0 n).data.toList=(s.data.toList.drop 0).take (n-0):=by rw[<-gw,Lib.extract_toList]
 rw[a,jt,zi,mF,ab b]
theorem ahj(a:ByteArray):a++(⟨#[]⟩:ByteArray)=a:=by apply jh;rw[js];simp
theorem ahk(a:ByteArray):(⟨#[]⟩:ByteArray)++a=a:=by apply jh;rw[js];simp
def Lj(k:Int):Bool:=decide (k=46\/k=47\/k=40\/k=44\/k=10\/k=25\/60<k)
structure Cs (x:ByteArray) (n:Nat):Prop where
 out:2*x.size<=n
theorem Cs.le{x:ByteArray}{m n:Nat}(h:Cs x m)(a:m<=n):Cs x n:=⟨dh h.out a⟩
theorem rl{x:ByteArray}{n:Nat}(h:2*x.size<=n):Cs x n:=⟨h⟩
theorem ake:Cs ⟨#[]⟩ 0:=⟨by decide⟩
theorem Ll(s:ByteArray):(fa (dF s)).size<=2+4*s.size:=by
 have:=D9 s s.size (ag _);rw[qu];unfold dF;rw[aF];simp;omega
theorem akf(s:ByteArray):Cs (fa (dF s)) (16+18*s.size):=⟨by have:=Ll s;omega⟩
theorem ahl(s:ByteArray)(f:∀i,i<s.size->ch (aw s i)=true):(fa (dF s)).size=2+s.size:=by
 have d:∀l:List UInt8,(∀a∈l,ch (a.toNat:Int)=true)->(l.flatMap fun a=>esc (a.toNat:Int)).length=l.length:=by
  intro l b
  induction l with
  |nil=>rfl
  |cons a l j=>
   have c:=iI (b a bz);have:esc (a.toNat:Int)=[(a.toNat:Int)]:=by unfold esc;rw[aa (by omega),aa (by omega),aa (by omega),aa (by omega)]
   rw[yL,aF,j (fun k h=>b k (dm _ h)),this,cC];simp;omega
 have e:∀a∈s.data.toList,ch (a.toNat:Int)=true:=fun a c=>by
  obtain⟨i,g,rfl⟩:=fL c;have:=(fJ s i s.data.toList[i]).1 (aE g);rw[<-this.2];exact f i this.1
 rw[qu];unfold dF qt;rw[cI (by rw[eB];exact ag _)];have:=d _ e;have b:s.data.toList.length=s.size:=eB;simp only[aF,cC,gq];omega
structure Bs where
 base:Nat
 cb:Nat
 bb:Nat
 a0:Option Addr
 len:Nat
 cap:Nat
 P:Int
 g:Nat
abbrev bV(E:Bs):Q:= .pointer (M ⟨E.bb,0,O⟩)
abbrev cV(E:Bs):Q:= .pointer (M ⟨E.cb,0,O⟩)
structure Kb (w w':Z):Prop where
 size:w.heap.size<=w'.heap.size
 block:∀k,k<w.heap.size->(∀cs t fr,w.heap[k]?=M (.cells cs t fr)->t≠36/\t≠86/\t≠41)->w'.heap[k]?=w.heap[k]?
theorem Kb.trans{x y e:Z}(h:Kb x y)(k:Kb y e):Kb x e:=
 ⟨dh h.size k.size,fun d c b=>by
  have a:=h.block d c b;exact(k.block d (jq c h.size) (fun f j g i=>b f j g (by rw[<-a];exact i))).trans a⟩
theorem Kb.of_below{w a:Z}(h:V w.heap.size w a):Kb w a:=⟨h.size,fun c b _=>h.block c b⟩
theorem Kb.blk{w c:Z}(h:Kb w c){k:Nat}{cs:Array Q}{t:A0}{fr:Nat×Nat}(a:w.heap[k]?=M (X cs t fr))(d:t≠36/\t≠86/\t≠41):c.heap[k]?=M (X cs t fr):=
 (h.block k (au a) (fun e g f b=>by rw[a]at b;cases b;exact d)).trans a
theorem Kb.row{w b:Z}(h:Kb w b){base e size n:Nat}{v:Q}{c:List Q}(o:w.ownsRow base e size v n c)(j:e≠36/\e≠86/\e≠41):b.ownsRow base e size v n c:=by
 obtain⟨i,a⟩:=o;refine⟨i,?_⟩;rcases a with a|⟨g,d,f,p,m,k,q⟩
 ·exact .inl a
 ·exact .inr ⟨g,d,f,p,m,h.blk k j,q⟩
theorem Kb.grown{w c:Z}{b:Nat}{cs:Array Q}{t:A0}{fr:Nat×Nat}(a:w.grownBy c (M b))(f:w.heap[b]?=M (X cs t fr))(h:t=36\/t=86\/t=41):Kb w c:=
 ⟨a.size,fun i g e=>a.block i g (fun d=>by cases d;have:=e _ _ _ f;rcases h with rfl|rfl|rfl<;>simp at this)⟩
structure Shr (s:ByteArray):Prop where
 sz:s.size<=3
 cs:Cs s 26
structure Lng (s:ByteArray):Prop where
 lo:20<=s.size
 hi:s.size<=4001
 dg:∀i,i<s.size->ch (aw s i)=true
 b0:aw s 0=48
 b1:aw s 1=49
def Sml(s:ByteArray):Prop:=s.size<=19/\Cs (fa (dF s)) 106
def Txt(k:Int)(t:ByteArray):Prop:=(k≠25/\t.size<=19/\Cs t 90)\/(k=25/\(Sml t\/(Lng t/\t.size<=4000)))
theorem Txt.size{k:Int}{t:ByteArray}(h:Txt k t):t.size<=4000:=by
 rcases h with⟨_,h,_⟩|⟨_,h|⟨_,h⟩⟩
 ·omega
 ·have:=h.1;omega
 ·exact h
theorem pD{k:Int}(h:k≠25):Txt k ⟨#[]⟩:= .inl ⟨h,by decide,ake.le (by decide)⟩
theorem adK{k:Int}{s:ByteArray}(h:k≠25)(a:Shr s):Txt k s:=by
 by_cases b:s.size<=19
 ·exact .inl ⟨h,b,a.cs.le (by decide)⟩
 ·have:=a.sz;omega
structure B9 (N:Nd):Prop where
 nm:N.nm.length<=3
 ks:N.ks.length<=64
 x:Txt N.k N.x
 s:∀s∈N.nm,Shr s
 int:aiJ N
def bgN(N:Nd):Nat:=if 19<N.x.size then 1 else 0
def bigs(L:List Mb):Nat:=(L.map fun y=>bgN y.N).sum
theorem adL(L:List Mb)(y:Mb):bigs (L++[y])=bigs L+bgN y.N:=by unfold bigs;simp
theorem ad0{N:Nd}(h:N.x.size<=19):bgN N=0:=by unfold bgN;rw[aa (by omega)]
abbrev TO(t:A0):Prop:=t≠36/\t≠86/\t≠41
theorem GE:TO 9:=by decide
theorem toI:TO 3:=by decide
structure Rwx where
 t:A0
 v:Q
 xs:List Q
def bR(R:List Rwx):List Nat:=R.flatMap fun r=>r.v.ownBlock.toList
def bL(L:List Mb):List Nat:=L.flatMap fun y=>y.vn.ownBlock.toList++y.vk.ownBlock.toList
structure Bd (E:Bs) (W:Z) (L:List Mb) (l x:Int) (R:List Rwx):Prop where
 lo:E.base<=E.cb/\E.base<=E.bb
 hl:E.len<=1048576/\E.P<=100
 code:Code E.base W E.a0 E.len
 cur:∃p q r,fw E.cb W E.a0 E.len E.cap p q r/\0<=p/\p<=E.P+400*L.length+x/\0<=r/\r<=3/\(bigs L:Int)<=r
 row:∃v,W.heap[E.bb]?=M (.cells #[cV E,v,.int .i64 l] 86 (0,0))/\W.ownsRow E.base 36 9 v L.length (mi L)
 each:∀y∈L,(W.ownsRow E.base 9 1 y.vn y.N.nm.length (y.N.nm.map Y)/\W.ownsRow E.base 3 1 y.vk y.N.ks.length (y.N.ks.map (A1 .i64)))/\B9 y.N
 rows:∀r∈R,TO r.t/\W.ownsRow E.base r.t 1 r.v r.xs.length r.xs
 sep:(bR R++bL L).Nodup
theorem tNo{t:A0}(h:TO t):t≠36/\t≠86/\t≠41:=h
section
variable {E : Bs} {W W' : World} {L : List Mb} {l x y : Int} {R : List Rwx} {r : Rwx}
theorem Bd.lt(h:Bd E W L l x R):E.cb<W.heap.size/\E.bb<W.heap.size/\E.base<=W.heap.size/\E.cb≠E.bb:=by
 obtain⟨i,b,_⟩:=h.row;obtain⟨f,g,r,a,_⟩:=h.cur;have d:=au b;have e:=a.lt;have:=h.lo;refine⟨e,d,by omega,fun c=>?_⟩;unfold fw at a;rw[c,b]at a;simp only[iq,lC]at a;exact absurd a.2.1 (by decide)
theorem Bd.wide(h:Bd E W L l x R)(g:x<=y):Bd E W L l y R:=by
 obtain⟨d,e,r,a,b,f,c⟩:=h.cur;exact⟨h.lo,h.hl,h.code,⟨d,e,r,a,b,by omega,c⟩,h.row,h.each,h.rows,h.sep⟩
theorem Bd.below(h:Bd E W L l x R)(a:V W.heap.size W W'):Bd E W' L l x R:=by
 have d:=h.lt;obtain⟨m,e,f⟩:=h.row;obtain⟨j,k,r,g,i⟩:=h.cur;exact⟨h.lo,h.hl,h.code.below (a.mono d.2.2.1),⟨j,k,r,g.below a d.1,i⟩,⟨m,(a.block _ d.2.1).trans e,aI f a⟩,fun c b=>⟨⟨aI (h.each c b).1.1 a,aI (h.each c b).1.2 a⟩,(h.each c b).2⟩,fun c b=>⟨(h.rows c b).1,aI (h.rows c b).2 a⟩,h.sep⟩
theorem Bd.ltR(h:Bd E W L l x R):∀b∈bR R++bL L,b<W.heap.size:=by
 intro b hb;rcases List.mem_append.1 hb with hb|hb
 ·obtain⟨c,a,e⟩:=List.mem_flatMap.1 hb;exact((h.rows c a).2.lt b (Option.mem_toList.1 e)).2
 ·obtain⟨c,a,e⟩:=List.mem_flatMap.1 hb;rcases List.mem_append.1 e with e|e
  ·exact((h.each c a).1.1.lt b (Option.mem_toList.1 e)).2
  ·exact((h.each c a).1.2.lt b (Option.mem_toList.1 e)).2
theorem Bd.went(h:Bd E W L l x R)(d:W.grownBy W' (M E.cb)){p q r:Int}(v:fw E.cb W' E.a0 E.len E.cap p q r)(j:0<=p/\p<=E.P+400*L.length+y)(z:0<=r/\r<=3/\(bigs L:Int)<=r):Bd E W' L l y R/\Kb W W'/\V E.base W W':=by
 have f:=h.lt;obtain⟨A,t,u⟩:=h.row;obtain⟨B,C,F,g,_⟩:=h.cur;have i:V E.base W W':=vh d h.lo.1 f.2.2.1;have e:∀{c n k:Nat}{o:Q}{s:List Q},W.ownsRow E.base c n o k s->c≠41->W'.ownsRow E.base c n o k s:=fun m w=>m.kept d (.inr (gi m g (iE w)));exact⟨⟨h.lo,h.hl,h.code.below i,⟨p,q,r,v,j.1,j.2,z⟩,⟨A,(d.block _ f.2.1 (fun c=>f.2.2.2 (db c).symm)).trans t,e u (by decide)⟩,fun b a=>⟨⟨e (h.each b a).1.1 (by decide),e (h.each b a).1.2 (by decide)⟩,(h.each b a).2⟩,fun b a=>⟨(h.rows b a).1,e (h.rows b a).2 (tNo (h.rows b a).1).2.2⟩,h.sep⟩,Kb.grown d g (.inr (.inr rfl)),i⟩
theorem Bd.hot{r':Rwx}(h:Bd E W L l x (r::R))(n:W.grownBy W' r.v.ownBlock)(o:TO r'.t)(am:W'.ownsRow E.base r'.t 1 r'.v r'.xs.length r'.xs)(af:∀b,r'.v.ownBlock=M b->r.v.ownBlock=M b\/W.heap.size<=b):Bd E W' L l x (r'::R)/\V E.base W W':=by
 have ak:=h.lt;obtain⟨v,I,B⟩:=h.row;obtain⟨ao,q,ap,J,K⟩:=h.cur;have i:=h.rows r bz;have s:=tNo i.1;have d:V E.base W W':=(ai _ W).grown n ak.2.2.1 (fun j e=>(i.2.lt j e).1);have C:=h.sep;have z:bR (r::R)=r.v.ownBlock.toList++bR R:=rfl;rw[z,dC,yG]at C;obtain⟨a4,av,a0⟩:=C;have m:∀b∈bR R++bL L,r.v.ownBlock≠M b:=fun b d a=>a0 b (Option.mem_toList.2 a) b d rfl;have k:∀{a size p:Nat}{f:Q}{u:List Q},W.ownsRow E.base a size f p u->(∀b,f.ownBlock=M b->r.v.ownBlock≠M b)->W'.ownsRow E.base a size f p u:=fun {a size p f u} an al=>by
  refine an.kept n ?_;cases hu:f.ownBlock with
  |none=>exact .inl rfl
  |some b=>exact .inr (fun a=>al b hu a.symm)
 have F:∀{j:Nat}{w:Array Q}{t:A0}{A:Nat×Nat},W.heap[j]?=M (X w t A)->t≠r.t->W'.heap[j]?=M (X w t A):=fun e o=>(n.block _ (au e) (fun a=>gi i.2 e o a.symm)).trans e;refine⟨⟨h.lo,h.hl,h.code.below d,⟨ao,q,ap,F J (iE s.2.2),K⟩,⟨v,F I (iE s.2.1),k B (fun b a G=>?_)⟩,fun c hz=>⟨⟨k (h.each c hz).1.1 (fun b a=>m b (List.mem_append.2 (.inr (List.mem_flatMap.2 ⟨c,hz,List.mem_append.2 (.inl (Option.mem_toList.2 a))⟩)))),k (h.each c hz).1.2 (fun b a=>m b (List.mem_append.2 (.inr (List.mem_flatMap.2 ⟨c,hz,List.mem_append.2 (.inr (Option.mem_toList.2 a))⟩))))⟩,(h.each c hz).2⟩,fun c hz=>?_,?_⟩,d⟩
 ·rcases B.2 with⟨q,_⟩|⟨H,a2,a3,q,_,g,_⟩
  ·rw[q]at a;simp[A3]at a
  ·rw[q]at a;obtain rfl:H=b:=by simpa [A3] using a
   exact gi i.2 g (iE s.1) G
 ·rcases List.mem_cons.1 hz with rfl|hz
  ·exact⟨o,am⟩
  ·have:=h.rows c (dm _ hz);exact⟨this.1,k this.2 (fun b a=>m b (List.mem_append.2 (.inl (List.mem_flatMap.2 ⟨c,hz,Option.mem_toList.2 a⟩))))⟩
 ·show(r'.v.ownBlock.toList++bR R++bL L).Nodup;rw[dC,yG];refine⟨?_,av,fun b d a1 g a=>?_⟩
  ·cases r'.v.ownBlock<;>simp
  ·subst a;rcases af b (Option.mem_toList.1 d) with q|q
   ·exact m b g q
   ·have:=h.ltR b (by rw[z,dC];exact List.mem_append.2 (.inr g));omega
theorem Bd.new(h:Bd E W L l x R){t:A0}(j:TO t)(cs:Array Q)(r':Rwx)(f:r'.t=t)(i:(W.alloc (X cs t)).ownsRow E.base t 1 r'.v r'.xs.length r'.xs)(b:r'.v.ownBlock=M W.heap.size):Bd E (W.alloc (X cs t)) L l x (r'::R):=by
 have a:=h.below (bI W (X cs t));refine⟨a.lo,a.hl,a.code,a.cur,a.row,a.each,fun k hz=>?_,?_⟩
 ·rcases List.mem_cons.1 hz with rfl|hz
  ·rw[f];exact⟨j,i⟩
  ·exact a.rows k hz
 ·show(r'.v.ownBlock.toList++bR R++bL L).Nodup;rw[dC,yG];refine⟨by rw[b];simp,h.sep,fun d c e g m=>?_⟩;rw[b]at c;have:d=W.heap.size:=by simpa using c
  have:=h.ltR e g;omega
theorem Bd.nil(h:Bd E W L l x R){t:A0}(a:TO t):Bd E W L l x (⟨t,A2 O 0 0,[]⟩::R):=
 ⟨h.lo,h.hl,h.code,h.cur,h.row,h.each,fun b hz=>by
  rcases List.mem_cons.1 hz with rfl|hz
  ·exact⟨a,bi _ _ _ _⟩
  ·exact h.rows b hz,h.sep⟩
theorem Bd.drop(h:Bd E W L l x (r::R)):Bd E W L l x R:=by
 have a:=h.sep;have b:bR (r::R)=r.v.ownBlock.toList++bR R:=rfl;rw[b,dC,yG]at a;exact⟨h.lo,h.hl,h.code,h.cur,h.row,h.each,fun d c=>h.rows d (dm _ c),a.2.1⟩
theorem Bd.swap{a:Rwx}(h:Bd E W L l x (r::a::R)):Bd E W L l x (a::r::R):=by
 refine⟨h.lo,h.hl,h.code,h.cur,h.row,h.each,fun e hz=>h.rows e ?_,?_⟩
 ·simp only[jI]at hz⊢;rcases hz with hz|hz|hz<;>simp[hz]
 ·have b:=h.sep;have c:bR (r::a::R)=r.v.ownBlock.toList++(a.v.ownBlock.toList++bR R):=rfl;have d:bR (a::r::R)=a.v.ownBlock.toList++(r.v.ownBlock.toList++bR R):=rfl;rw[c]at b;rw[d];refine List.Perm.nodup_iff ?_ |>.1 b
  rw[<-dC,<-dC (a.v.ownBlock.toList)];exact(List.perm_append_comm.append_right _).append_right _
theorem Bd.c0(h:Bd E W L l x R):W.cell? ⟨E.bb,0,O⟩=M (cV E):=by
 obtain⟨c,a,b⟩:=h.row;rw[ay _ _ _ _ _ _ a];rfl
theorem Bd.c2(h:Bd E W L l x R):W.cell? ⟨E.bb,2,O⟩=M (U T l):=by
 obtain⟨c,a,b⟩:=h.row;rw[ay _ _ _ _ _ _ a];rfl
def Bg(E:Bs)(W:Z)(L:List Mb)(n:Nat):Prop:=∀a b r,fw E.cb W E.a0 E.len E.cap a b r->((bigs L+n:Nat):Int)<=r/\0<=r/\r<=3
theorem Bd.bg0(h:Bd E W L l x R):Bg E W L 0:=fun d f r a=>by
 obtain⟨e,g,i,c,_,_,b⟩:=h.cur;unfold fw at c a;rw[c]at a;simp at a;obtain⟨_,_,rfl⟩:=a;exact⟨b.2.2,b.1,b.2.1⟩
theorem Bg.of_heap{n:Nat}(h:Bg E W L n)(b:W'.heap[E.cb]?=W.heap[E.cb]?):Bg E W' L n:=fun c d r a=>h c d r (b.symm.trans a)
theorem pK(h:Bd E W L l x R)(k:Int)(i:2<=k)(j:k<=200)(s:L.length<=25000)(t:x<=20000000):
  A4 Ax 28 #[cV E,U T k] W fun e b=>∃a:Int,0<=a/\a<k/\e= .returned (U T a)/\Bd E b L l (x+1) R/\Kb W b/\V E.base W b:=by
 obtain⟨n,p,r,c,o,u,m⟩:=h.cur;have:=h.hl;refine(zC k i j E.cb E.base W E.a0 E.len E.cap n p r c h.code o (by omega) this.1).mono ?_;rintro e b ⟨a,z0,q,f,v,d,g⟩;exact⟨a,z0,q,f,h.went g d (by omega) m⟩
theorem amt{n:Nat}(h:Bd E W L l x R)(o:Bg E W L n)(k:Int)(s:2<=k)(t:k<=200)(A:L.length<=25000)(B:x<=20000000):
  A4 Ax 28 #[cV E,U T k] W fun e c=>∃a:Int,0<=a/\a<k/\e= .returned (U T a)/\Bd E c L l (x+1) R/\Bg E c L n/\V E.base W c:=by
 obtain⟨g,i,r,f,w,C,u⟩:=h.cur;have:=h.hl;have v:=o g i r f;refine(zC k s t E.cb E.base W E.a0 E.len E.cap g i r f h.code w (by omega) this.1).mono ?_;rintro e c ⟨a,z0,z,p,F,d,q⟩;obtain⟨j,_,m⟩:=h.went (y:=x+1) q d (by omega) u;refine⟨a,z0,z,p,j,fun p2 G H b=>?_,m⟩;unfold fw at d b;rw[d]at b;simp at b;obtain⟨_,_,rfl⟩:=b;exact v
end
section
variable {E : Bs} {W : World} {L : List Mb} {l x : Int} {R : List Rwx}
theorem Bd.less(h:Bd E W L l x R)(c:Int):Bd E (W.setCell ⟨E.bb,2,O⟩ (U T c)) L c x R/\V E.base W (W.setCell ⟨E.bb,2,O⟩ (U T c)):=by
 have t:=h.lt;obtain⟨w,f,o⟩:=h.row;obtain⟨u,v,r,p,q⟩:=h.cur;have g:V E.base W (W.setCell ⟨E.bb,2,O⟩ (U T c)):=(ai _ W).setCell h.lo.2 _;have d:∀{e k i:Nat}{m:Q}{n:List Q},W.ownsRow E.base e k m i n->e≠86->(W.setCell ⟨E.bb,2,O⟩ (U T c)).ownsRow E.base e k m i n:=fun j s=>lI j (gi j f (iE s)) 2 _;exact⟨⟨h.lo,h.hl,h.code.below g,⟨u,v,r,(bh _ _ _ _ t.2.2.2).trans p,q⟩,⟨w,cE _ E.bb 2 _ _ _ f,d o (by decide)⟩,fun b a=>⟨⟨d (h.each b a).1.1 (by decide),d (h.each b a).1.2 (by decide)⟩,(h.each b a).2⟩,fun b a=>⟨(h.rows b a).1,d (h.rows b a).2 (tNo (h.rows b a).1).2.1⟩,h.sep⟩,g⟩
theorem Bd.push{N:Nd}{vn vk:Q}(h:Bd E W L l x (⟨9,vn,N.nm.map Y⟩::⟨3,vk,N.ks.map (A1 T)⟩::R)){v:Q}(C:W.heap[E.bb]?=M (X #[cV E,v,U T l] 86 (0,0))){a:Z}{g r cap:Nat}(a2:L.length+1=r)(H:a.ownsRow E.base 36 9 (A2 (M ⟨g,0,O⟩) r cap) r (mi (L++[⟨N,vn,vk⟩])))(j:W.grownBy a v.ownBlock)(m:B9 N)(a0:Bg E W L (bgN N)):
  Bd E (a.setCell ⟨E.bb,1,O⟩ (A2 (M ⟨g,0,O⟩) r cap)) (L++[⟨N,vn,vk⟩]) l (x-400) R/\V E.base W (a.setCell ⟨E.bb,1,O⟩ (A2 (M ⟨g,0,O⟩) r cap))/\a.heap[E.bb]?=M (X #[cV E,v,U T l] 86 (0,0)):=by
 subst a2;obtain⟨a8,k,w⟩:=h.row;obtain rfl:a8=v:=by rw[k]at C;cases C;rfl
 obtain⟨o,d,r,i,ap,ba,z⟩:=h.cur;have av:=a0 o d r i;have B:=h.lt;have n:∀{b:Nat}{t:Array Q}{s:A0}{u:Nat×Nat},W.heap[b]?=M (X t s u)->s≠36->a.heap[b]?=M (X t s u):=fun c a3=>(j.block _ (au c) (fun e=>gi w c a3 e.symm)).trans c;have p:=n k (by decide);have a7:∀b,b≠E.bb->(a.setCell ⟨E.bb,1,O⟩ (A2 (M ⟨g,0,O⟩) (L.length+1) cap)).heap[b]?=a.heap[b]?:=fun b c=>bh _ _ _ _ c;have f:∀{base e K G:Nat}{af:Q}{ak:List Q},W.ownsRow base e K af G ak->e≠36->e≠86->(a.setCell ⟨E.bb,1,O⟩ (A2 (M ⟨g,0,O⟩) (L.length+1) cap)).ownsRow base e K af G ak:=fun J ao i=>by
  refine lI ?_ ?_ 1 _
  ·obtain⟨a5,q⟩:=J;refine⟨a5,?_⟩;rcases q with q|⟨g,cap,al,a4,j,a1,a6⟩
   ·exact .inl q
   ·exact .inr ⟨g,cap,al,a4,j,n a1 ao,a6⟩
  ·exact gi J k (iE i)
 have A:V E.base W (a.setCell ⟨E.bb,1,O⟩ (A2 (M ⟨g,0,O⟩) (L.length+1) cap)):=((ai _ W).grown j B.2.2.1 (fun b c=>(w.lt b c).1)).setCell h.lo.2 _;have on:=(h.rows _ bz).2;have I:=(h.rows _ (dm _ bz)).2;simp only[dL]at on I;refine⟨⟨h.lo,h.hl,h.code.below A,⟨o,d,r,(a7 _ B.2.2.2).trans (n i (by decide)),ap,?_,z.1,z.2.1,by rw[adL];exact av.1⟩,⟨_,cE _ E.bb 1 _ _ _ p,?_⟩,fun y hy=>?_,fun a9 m=>?_,?_⟩,A,p⟩
 ·rw[aF];show o<=E.P+400*((L.length+1:Nat):Int)+(x-400);omega
 ·rw[aF];exact lI H (gi H p (by decide)) 1 _
 ·rcases List.mem_append.1 hy with hy|hy
  ·exact⟨⟨f (h.each y hy).1.1 (by decide) (by decide),f (h.each y hy).1.2 (by decide) (by decide)⟩,(h.each y hy).2⟩
  ·obtain rfl:=List.mem_singleton.1 hy;exact⟨⟨f on (by decide) (by decide),f I (by decide) (by decide)⟩,m⟩
 ·have d:=h.rows a9 (dm _ (dm _ m));exact⟨d.1,f d.2 (tNo d.1).1 (tNo d.1).2.1⟩
 ·have F:=h.sep;have am:bR (⟨9,vn,N.nm.map Y⟩::⟨3,vk,N.ks.map (A1 T)⟩::R)++bL L=(vn.ownBlock.toList++vk.ownBlock.toList)++(bR R++bL L):=by unfold bR;simp[yL]
  have an:bR R++bL (L++[⟨N,vn,vk⟩])=(bR R++bL L)++(vn.ownBlock.toList++vk.ownBlock.toList):=by unfold bL;simp[Kl]
  rw[am]at F;rw[an];exact List.perm_append_comm.nodup_iff.1 F
theorem amu{N:Nd}{an a:Option Addr}{mn cn mk ck:Nat}(h:Bd E W L l x (⟨9,.slice an mn cn,N.nm.map Y⟩::⟨3,.slice a mk ck,N.ks.map (A1 .i64)⟩::R))(cs: -100000<=l/\l<=100000)(b4:B9 N)(b3:L.length<=25000)(bq:Bg E W L (bgN N)):
  A4 Ax 58 #[bV E,.agg (dE N (.slice an mn cn) (.slice a mk ck))] W fun e p=>e= .returned (.int .i64 (L.length:Nat))/\Bd E p (L++[⟨N,.slice an mn cn,.slice a mk ck⟩]) (l-1) (x-400) R/\V E.base W p:=by
 obtain⟨d,a5⟩:=aA L.length;rw[a5]at b3⊢;have bs:=h.lt;have cu:IntKind.i64.wrap (l-1)=l-1:=by rw[cw];omega
 have a3:=bI W (.cells (dE N (.slice an mn cn) (.slice a mk ck)) 36);have bE:=(h.below a3).c2;have b1:(W.alloc (.cells (dE N (.slice an mn cn) (.slice a mk ck)) 36)).frozen? ⟨E.bb,2,O⟩=false:=by
  obtain⟨v,u,af⟩:=(h.below a3).row;exact dI _ _ _ _ _ u
 clear a3;go_in;go_wp2_with fail;obtain⟨ap,a2⟩:=aA (W.setCell ⟨E.bb,2,O⟩ (.int .i64 (l-1)));have al:=h.less (l-1);have a6:(W.setCell ⟨E.bb,2,O⟩ (.int .i64 (l-1))).heap.size=W.heap.size:=by simp[World.setCell]
 obtain⟨ba,bl,bn⟩:=h.row;have ao:(W.setCell ⟨E.bb,2,O⟩ (.int .i64 (l-1))).heap[E.bb]?=M (.cells #[cV E,ba,.int .i64 (l-1)] 86 (0,0)):=cE W E.bb 2 _ _ _ bl;have a9:=bh W ⟨E.bb,2,O⟩ E.cb (.int .i64 (l-1)) bs.2.2.2;rw[a2]at al a6 ao a9;rw[a2];have A:=bI ap (.cells (dE N (.slice an mn cn) (.slice a mk ck)) 36);have m:=ar ap (.cells (dE N (.slice an mn cn) (.slice a mk ck)) 36);have bf:=aj (bq.of_heap ((A.block E.cb (by have:=bs.1;omega)).trans a9));clear bq;obtain⟨b,am⟩:=aA (ap.alloc (.cells (dE N (.slice an mn cn) (.slice a mk ck)) 36));have s:Hid (Bd E b L (l-1) x (⟨9,.slice an mn cn,N.nm.map Y⟩::⟨3,.slice a mk ck,N.ks.map (A1 .i64)⟩::R)/\V E.base W b/\b.heap[W.heap.size]?=M (.cells (dE N (.slice an mn cn) (.slice a mk ck)) 36 (0,0))/\b.heap.size=W.heap.size+1):=by
  rw[am]at A m;rw[a6]at m;exact⟨al.1.below A,al.2.trans (A.mono (by omega)),m,by rw[<-am];simp[a6]⟩
 have J:=(A.block _ (au ao)).trans ao;rw[am]at J bf⊢;clear am a2 al A m ao bE b1 a9;have bx:ba.ownBlock≠M W.heap.size:=fun e=>by have:=(bn.lt _ e).2;omega
 obtain⟨v,u,af⟩:=s.out.1.row;obtain rfl:ba=v:=by
  rw[u]at J;simp at J;exact J.symm
 obtain⟨F,G,rfl⟩:=cH af;have bk:b.cell? ⟨E.bb,1,O⟩=M (.slice F L.length G):=by rw[ay _ _ _ _ _ _ u];rfl
 rw[a5]at bk u af bx;clear bl bn J;have m:=s.out.2.2.1;refine wp_region_held_drew (S:=fun W'=>W'.heap[W.heap.size]?=M (.cells (dE N (.slice an mn cn) (.slice a mk ck)) 36 (0,0))) (by kernel_rfl) m (fun hS=>?_);simp only[jG,cC,gq,Nat.reduceAdd,mC,mD,mE,fx,fy];refine di 0 (.pointer (M ⟨E.bb,0,O⟩)) rfl rfl (by kernel_rfl) (fun _ _ _=>id) hS (fun p B=>by go_simp) ?_;simp only[List.set];refine di 1 (.pointer (M ⟨E.bb,0,O⟩)) rfl rfl (by kernel_rfl) (fun _ _ _=>id) hS (fun p B=>by go_simp) ?_;simp only[List.set];refine di 2 (.pointer (M ⟨E.bb,0,O⟩)) rfl rfl (by kernel_rfl) (fun _ _ _=>id) hS (fun p B=>by go_simp) ?_;simp only[List.set];refine di 3 (.pointer (M ⟨E.bb,1,O⟩)) rfl rfl (by kernel_rfl) (fun _ _ _=>id) hS (fun p B=>by go_simp) ?_;simp only[List.set];refine Er 5 17 (.agg #[.int .i64 N.k,.int .i64 N.f,.int .i64 N.t,.int .i64 N.l,.int .i64 N.op,.int .i64 N.n,.string N.x,.slice an mn cn,.slice a mk ck]) rfl rfl (by kernel_rfl) (by kernel_rfl) (by kernel_rfl) (fun _ _ _ h=>h) (by rfl) hS (fun p B=>by obtain⟨z0,cB,c0,c1,c3,K,bD,c4,c7,c8⟩:=aq (N:=N) (vn:= .slice an mn cn) (vk:= .slice a mk ck) B;go_simp) ?_;simp only[Act.put,dv,dw,dA];have bp:=bk;refine xa (S:=fun W'=>W'.cell? ⟨E.bb,1,O⟩=M (.slice F d G)) (C:=fun I=>!(I==7||I==8||I==9||I==10)) (i:=4) (v:= .slice F d G) rfl (DH (by kernel_rfl)) (fun _ _ _ h=>h) ?hC _ _ _ _ (DI rfl (by kernel_rfl)) (List.contains_iff_mem.1 (by kernel_rfl)) (Or.inl ⟨by rfl,fun p B=>by go_simp⟩) hS bp ?_
 case hC=>
  intro I cy br g;simp only[Bool.not_eq_false',yK,jH]at g;rcases g with((rfl|rfl)|rfl)|rfl
  ·obtain rfl:=db br;exact⟨{on:=4,ground:=Ground.data},by simp,rfl,rfl⟩
  all_goals
   obtain rfl:=db br;exact⟨{on:=4,ground:=Ground.phase},by simp,rfl,rfl⟩
 simp only[Act.put,dv,dw,dA];refine jj (i:=6) (by kernel_rfl) rfl (fun j c=>?_);go_simp;have a1:V b.heap.size b (b.drew.alloc (.cells (dE N (.slice an mn cn) (.slice a mk ck)) 36)):=(be (ai _ _)).alloc (by simp) _;refine c.out _ _ ((a1.block _ (au m)).trans m) (fun _=>ah a1 bp) ?_;clear c j;try simp only[dv,dw,dA]
 obtain⟨a0,H⟩:=aA ((b.alloc (.cells (dE N (.slice an mn cn) (.slice a mk ck)) 36)).drew);have o:V b.heap.size b a0:=by rw[<-H];exact be (bI b _)
 have b8:a0.heap[b.heap.size]?=M (.cells (dE N (.slice an mn cn) (.slice a mk ck)) 36 (0,0)):=by rw[<-H];exact ar b _
 simp only[dE]at H;rw[H];clear H a1 hS;have cm:=s.out.1.below o;have cl:=(o.block _ (au u)).trans u;have b2:=aI af o;have bt:=s.out.1.lt;have b7:=s.out.2.2.2;obtain⟨b9,ca,cc,ce,cf⟩:=fl zn;refine jj (i:=7) (by kernel_rfl) rfl (fun j c=>?_);refine step_append_lies _ (by rfl) _ _ 24 (by rfl) E.base 36 b9 _ 9 112 Tryz.underlying24 ca cc ce cf rfl (by decide) (.slice F d G) d _ (by rfl) b2 ⟨b.heap.size,0,O⟩ 1 1 (dE N (.slice an mn cn) (.slice a mk ck)).toList (by rw[b7];rfl) rfl (World.news_of_block b8) (by intro cz bw;simp at bw;rcases bw with rfl|rfl|rfl|rfl|rfl|rfl|rfl|rfl|rfl<;>rfl) (by decide) (by unfold maxLen;omega) (by omega) (dh bt.2.2.1 o.size) a0.heap.size rfl ?_;intro z w q a7 a4 b5 ct;have bo:mi L++(dE N (.slice an mn cn) (.slice a mk ck)).toList=mi (L++[⟨N,.slice an mn cn,.slice a mk ck⟩]):=by rw[vz];show _=mi L++(cMb _++[]);rw[fj];rfl
 rw[bo]at a7;obtain⟨bA,bj,a8⟩:=cm.push cl (by rw[a5]) a7 a4 b4 (bf.out.of_heap (o.block _ s.out.1.lt.1));have K:q.heap[W.heap.size]?=M (.cells (dE N (.slice an mn cn) (.slice a mk ck)) 36 (0,0)):=(a4.block _ (by have:=o.size;omega) (fun e=>bx e.symm)).trans ((o.block _ (by omega)).trans m);have bD:(q.setCell ⟨E.bb,1,O⟩ (.slice (M ⟨z,0,O⟩) (d+1) w)).heap[W.heap.size]?=M (.cells (dE N (.slice an mn cn) (.slice a mk ck)) 36 (0,0)):=(bh _ _ _ _ (by show W.heap.size≠E.bb;omega)).trans K;have cq:q.cell? ⟨E.bb,1,O⟩=M (.slice F d G):=by rw[ay _ _ _ _ _ _ a8];rfl
 have cr:q.frozen? ⟨E.bb,1,O⟩=false:=dI _ _ _ _ _ a8;have bd:Hid (Bd E (q.setCell ⟨E.bb,1,O⟩ (.slice (M ⟨z,0,O⟩) (d+1) w)) (L++[⟨N,.slice an mn cn,.slice a mk ck⟩]) (l-1) (x-400) R/\V E.base W (q.setCell ⟨E.bb,1,O⟩ (.slice (M ⟨z,0,O⟩) (d+1) w))):=
  ⟨bA,(s.out.2.1.trans (o.mono bt.2.2.1)).trans bj⟩
 clear bA bj bo a7 a4 b5;refine c.out _ _ K (fun g=>by cases g) ?_;clear c j;simp only[Act.put,dv,dw,dA];refine jj (i:=8) (by kernel_rfl) rfl (fun j c=>?_);go_simp;refine c.out _ _ K (fun g=>by cases g) ?_;clear c j;try simp only[dv,dw,dA]
 refine jj (i:=9) (by kernel_rfl) rfl (fun j c=>?_);go_simp;refine c.out _ _ K (fun g=>by cases g) ?_;clear c j;try simp only[dv,dw,dA]
 refine jj (i:=10) (by kernel_rfl) rfl (fun j c=>?_);go_simp;refine c.out _ _ bD (fun g=>by cases g) ?_;clear c j;refine Aa (by kernel_rfl) ?_ _;have b0:(q.setCell ⟨E.bb,1,O⟩ (.slice (M ⟨z,0,O⟩) (d+1) w)).cell? ⟨E.bb,1,O⟩=M (.slice (M ⟨z,0,O⟩) (d+1) w):=by rw[ay _ _ _ _ _ _ (cE _ E.bb 1 _ _ _ a8)];rfl
 generalize q.setCell ⟨E.bb,1,O⟩ (.slice (M ⟨z,0,O⟩) (d+1) w)=cp at bd b0⊢;have cx:IntKind.i64.wrap ((d:Int)+1-1)=(d:Int):=by rw[cw];omega
 go_wp2_with fail;go_ret;exact⟨by go_num,bd.out⟩
end
