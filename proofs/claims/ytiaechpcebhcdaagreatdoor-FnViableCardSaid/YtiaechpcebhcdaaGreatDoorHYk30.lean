import Derived.Test.YtiaechpcebhcdaaGreatDoorHYk03
set_option linter.all false
set_option maxRecDepth 100000
set_option maxHeartbeats 12800000
open List renaming length->M
open Option renaming some->N,none->X
open Go.Value renaming string->Q,slice->T,string->V,int->Y
open Go.Proofs.Tryz renaming prog->S
namespace Go.Proofs.YtiaechpcebhcdaaGreatDoor
open Go.RowKit
variable{W:World}{ks:List Int}
theorem Ff(k:Int):fH k=0\/fH k=1\/fH k=2\/fH k=3\/fH k=4\/fH k=5\/fH k=6:=by
 unfold fH;grind
def Fg(k:Int)(b:Nat)(w:World):(method 435 (rL (fH k)) (.pointer (N ⟨b,0,X⟩)) "loop.example/warp/impl.head").run S w= .ok (308,.pointer (N ⟨b,0,X⟩)) w:=GG _ b w
def Cg(i f:Nat):List UInt8:=(wB i).data.toList++(if f=1 then [42] else if f=2 then [63] else [])
def wS(i f:Nat):Bz:=⟨(Cg i f).toArray⟩
def wS1(i f:Nat):Bz:=⟨((wB i).data.toList++(if f=2 then [63] else [])).toArray⟩
def atv:∀i f,i<10->f<3->(⟨(Lib.trimSuffix (wS i f).data.toList [42]).toArray⟩:Bz)=wS1 i f/\Lib.hasSuffix (wS i f).data.toList [42]=(f==1)
 |0,0,_,_=>⟨rfl,rfl⟩
 |0,1,_,_=>⟨rfl,rfl⟩
 |0,2,_,_=>⟨rfl,rfl⟩
 |1,0,_,_=>⟨rfl,rfl⟩
 |1,1,_,_=>⟨rfl,rfl⟩
 |1,2,_,_=>⟨rfl,rfl⟩
 |2,0,_,_=>⟨rfl,rfl⟩
 |2,1,_,_=>⟨rfl,rfl⟩
 |2,2,_,_=>⟨rfl,rfl⟩
 |3,0,_,_=>⟨rfl,rfl⟩
 |3,1,_,_=>⟨rfl,rfl⟩
 |3,2,_,_=>⟨rfl,rfl⟩
 |4,0,_,_=>⟨rfl,rfl⟩
 |4,1,_,_=>⟨rfl,rfl⟩
 |4,2,_,_=>⟨rfl,rfl⟩
 |5,0,_,_=>⟨rfl,rfl⟩
 |5,1,_,_=>⟨rfl,rfl⟩
 |5,2,_,_=>⟨rfl,rfl⟩
 |6,0,_,_=>⟨rfl,rfl⟩
 |6,1,_,_=>⟨rfl,rfl⟩
 |6,2,_,_=>⟨rfl,rfl⟩
 |7,0,_,_=>⟨rfl,rfl⟩
 |7,1,_,_=>⟨rfl,rfl⟩
 |7,2,_,_=>⟨rfl,rfl⟩
 |8,0,_,_=>⟨rfl,rfl⟩
 |8,1,_,_=>⟨rfl,rfl⟩
 |8,2,_,_=>⟨rfl,rfl⟩
 |9,0,_,_=>⟨rfl,rfl⟩
 |9,1,_,_=>⟨rfl,rfl⟩
 |9,2,_,_=>⟨rfl,rfl⟩
def atw:∀i f,i<10->f<3->(⟨(Lib.trimSuffix (wS1 i f).data.toList [63]).toArray⟩:Bz)=wB i/\Lib.hasSuffix (wS1 i f).data.toList [63]=(f==2)
 |0,0,_,_=>⟨rfl,rfl⟩
 |0,1,_,_=>⟨rfl,rfl⟩
 |0,2,_,_=>⟨rfl,rfl⟩
 |1,0,_,_=>⟨rfl,rfl⟩
 |1,1,_,_=>⟨rfl,rfl⟩
 |1,2,_,_=>⟨rfl,rfl⟩
 |2,0,_,_=>⟨rfl,rfl⟩
 |2,1,_,_=>⟨rfl,rfl⟩
 |2,2,_,_=>⟨rfl,rfl⟩
 |3,0,_,_=>⟨rfl,rfl⟩
 |3,1,_,_=>⟨rfl,rfl⟩
 |3,2,_,_=>⟨rfl,rfl⟩
 |4,0,_,_=>⟨rfl,rfl⟩
 |4,1,_,_=>⟨rfl,rfl⟩
 |4,2,_,_=>⟨rfl,rfl⟩
 |5,0,_,_=>⟨rfl,rfl⟩
 |5,1,_,_=>⟨rfl,rfl⟩
 |5,2,_,_=>⟨rfl,rfl⟩
 |6,0,_,_=>⟨rfl,rfl⟩
 |6,1,_,_=>⟨rfl,rfl⟩
 |6,2,_,_=>⟨rfl,rfl⟩
 |7,0,_,_=>⟨rfl,rfl⟩
 |7,1,_,_=>⟨rfl,rfl⟩
 |7,2,_,_=>⟨rfl,rfl⟩
 |8,0,_,_=>⟨rfl,rfl⟩
 |8,1,_,_=>⟨rfl,rfl⟩
 |8,2,_,_=>⟨rfl,rfl⟩
 |9,0,_,_=>⟨rfl,rfl⟩
 |9,1,_,_=>⟨rfl,rfl⟩
 |9,2,_,_=>⟨rfl,rfl⟩
def aez:∀i f,i<10->f<3->(wS i f).size<=10/\(wS1 i f).size<=10
 |0,0,_,_=>Z
 |0,1,_,_=>Z
 |0,2,_,_=>Z
 |1,0,_,_=>Z
 |1,1,_,_=>Z
 |1,2,_,_=>Z
 |2,0,_,_=>Z
 |2,1,_,_=>Z
 |2,2,_,_=>Z
 |3,0,_,_=>Z
 |3,1,_,_=>Z
 |3,2,_,_=>Z
 |4,0,_,_=>Z
 |4,1,_,_=>Z
 |4,2,_,_=>Z
 |5,0,_,_=>Z
 |5,1,_,_=>Z
 |5,2,_,_=>Z
 |6,0,_,_=>Z
 |6,1,_,_=>Z
 |6,2,_,_=>Z
 |7,0,_,_=>Z
 |7,1,_,_=>Z
 |7,2,_,_=>Z
 |8,0,_,_=>Z
 |8,1,_,_=>Z
 |8,2,_,_=>Z
 |9,0,_,_=>Z
 |9,1,_,_=>Z
 |9,2,_,_=>Z
theorem atx(i f:Nat)(b:i<10)(a:f<3)(w:World):Calls S 240 #[Q (wS i f),Q ⟨#[42]⟩] w λe c=>e= .returned (.tuple #[Q (wS1 i f),.bool (f==1)])/\c=w:=by
 refine eE (Tryz.strings_CutSuffix (wS i f) ⟨#[42]⟩ w (by have:=(aez i f b a).1;omega)) ?_;have⟨d,g⟩:=atv i f b a;grind
theorem aty(i f:Nat)(b:i<10)(a:f<3)(w:World):Calls S 240 #[Q (wS1 i f),Q ⟨#[63]⟩] w λe c=>e= .returned (.tuple #[Q (wB i),.bool (f==2)])/\c=w:=by
 refine eE (Tryz.strings_CutSuffix (wS1 i f) ⟨#[63]⟩ w (by have:=(aez i f b a).2;omega)) ?_;have⟨d,g⟩:=atw i f b a;grind
def lE(W:World)(v:Value)(ks:List Int):Prop:=
 (ks=[]/\∃a b,v= T a 0 b)\/∃a b,v= T (N a) (M ks) b/\M ks<=b/\∀e c,ks[e]?=N c->∃d,W.cell? (a.add e)=N (ig c d)/\W.cell? ⟨d,0,X⟩=N (Y .i64 c)
def lE.below{a:World}{v:Value}(h:lE W v ks)(b:Below W.heap.size W a):lE a v ks:=by
 rcases h with h|⟨c,e,i,j,k⟩
 .exact .inl h
 .exact .inr ⟨c,e,i,j,λm n l=>by obtain⟨d,f,g⟩:=k m n l;exact⟨d,aq b f,aq b g⟩⟩
theorem lE.form{v:Value}(h:lE W v ks):∃a c,v= T a (M ks) c:=by
 rcases h with⟨rfl,a,c,h⟩|⟨a,c,b,d⟩;all_goals grind
theorem lE.get{a:Option Addr}{n c:Nat}(h:lE W (T a n c) ks){j:Nat}{k:Int}(i:ks[j]?=N k):∃d b,a=N d/\W.cell? (d.add j)=N (ig k b)/\W.cell? ⟨b,0,X⟩=N (Y .i64 k):=by
 rcases h with⟨rfl,_⟩|⟨d,e,f,_,g⟩;all_goals grind
def tkN(i f:Nat)(ks:List Int):Nat:=if f=1 then(ks.takeWhile (ms i)).length else min 1 (M (ks.takeWhile (ms i)))
def gE:List (Nat×Nat)->List Int->Bool
 |[],ks=>ks.isEmpty
 |(i,f)::a,ks=>if tkN i f ks=0/\f=0 then false else gE a (ks.drop (tkN i f ks))
structure agn (ws:List (Nat×Nat)) (ks:List Int) (R:Bool):Prop where
 out:gE ws ks=R
theorem ajd(p:Int->Bool):∀(ks:List Int)(t:Nat),t<=M (ks.takeWhile p)->(t<M (ks.takeWhile p)↔∃k,ks[t]?=N k/\p k=true)
 |[],t,h=>byS
 |a::r,t,h=>by
  cases hp:p a with
  |false=>
   simp_all
  |true=>
   rw[adq O]at h⊢;cases t with
   |zero=>grind
   |succ t=>
    simp only[db]at h⊢;have b:=ajd p r t O;grind
def ase(p:Int->Bool)(ks:List Int):M (ks.takeWhile p)<=M ks:=(List.takeWhile_sublist p).length_le
theorem ap3(i f:Nat)(ks:List Int):tkN i f ks<=M ks:=by
 have:=ase (ms i) ks;unfold tkN;grind
theorem ap4(i f:Nat)(ks:List Int)(t:Nat)(h:t<=tkN i f ks):t<tkN i f ks↔(f=1\/t=0)/\∃k,ks[t]?=N k/\ms i k=true:=by
 unfold tkN at h⊢;by_cases a:f=1
 .rw[ab a]at h⊢;rw[ajd _ ks t h];grind
 .rw[aa a]at h⊢;by_cases b:t=0
  .subst b;have:=ajd (ms i) ks 0 nH;grind
  omega
def aaB{i f:Nat}{a:List (Nat×Nat)}{R:Bool}(h:agn ((i,f)::a) ks R)(hn:¬(tkN i f ks=0/\f=0)):agn a (ks.drop (tkN i f ks)) R:=by
 have:=h.out;rw[gE,aa hn]at this;exact⟨this⟩
def aaC{i f:Nat}{a:List (Nat×Nat)}{R:Bool}(h:agn ((i,f)::a) ks R)(hn:tkN i f ks=0/\f=0):R=false:=by
 have:=h.out;rw[gE,ab hn]at this;exact this.symm
def ago{α:Type}{L:List α}{k:Nat}{x:α}(h:L[k]?=N x):L.drop k=x::L.drop (k+1):=by
 have a:=(List.getElem?_eq_some_iff.1 h);rw[ja a.1,a.2]
def lE.sl{a:Option Addr}{L c t:Nat}(h:lE W (T a L c) ks)(g:M ks=L)(ht:t<=L):lE W (T (if c=t then a else Option.map (λx=>x.add t) a) (L-t) (c-t)) (ks.drop t):=by
 subst g;rcases h with⟨rfl,b,f,d⟩|⟨b,f,d,l,i⟩
 .exact .inl ⟨I,_,_,by rw[(I:M ([]:List Int)-t=0)]⟩
 .cases d;by_cases m:t=M ks
  .exact .inl ⟨by rw[kD O],_,_,by rw[(O:M ks-t=0)]⟩
  .refine .inr ⟨b.add t,c-t,?_,by rw[wE];omega,λj k e=>?_⟩
   .rw[aa O,wE];rfl
   .rw[C1]at e;rw[Addr.add_add];exact i (t+j) k e
theorem yk(w:World)(row:Bz)(h:List (Nat×Nat))(v:Value)(ks:List Int)(bD:Lib.fields row.data.toList=h.map λx=>Cg x.1 x.2)(b5:∀x∈h,x.1<10/\x.2<3)(bE:row.size<4294967281)(bp:∀(j:Nat) b,row.data.toList[j]?=N b->b.toNat<128)(b1:Lib.TabIs S w "strings.asciiSpace" .u8 Lib.asciiSpaceTab)(o:lE w v ks)(bt:M ks<=1048576)(b4:M h<=1048576):
  Calls S 205 #[Q row,v] w λe b9=>e= .returned (.bool (gE h ks))/\Below w.heap.size w b9:=by
 have z:=Tryz.strings_Fields row w bE bp b1;rw[bD]at z;have⟨r,a4⟩:=aw (gE h ks);rw[a4];have bj:agn h ks r:=⟨a4⟩;have t:Below w.heap.size w (w.alloc (.cells ((h.map λx=>Cg x.1 x.2).map λp=>V ⟨p.toArray⟩).toArray 9)):=(ai _ w).alloc cJ _;have a3:=o.below t;have a2:∀g d c,h[g]?=N (d,c)->(w.alloc (.cells ((h.map λx=>Cg x.1 x.2).map λp=>V ⟨p.toArray⟩).toArray 9)).cell? ⟨w.heap.size,g,X⟩=N (Q (wS d c)):=λg d c a7=>by
  rw[au _ _ _ _ _ _ (ay w _)];simp[a7,wS]
 have⟨q,ad⟩:=aw (M h);have ap:=aj ad;have bl:=aj b5;have bv:M (h.map λx=>Cg x.1 x.2)=q:=by rw[dr,ad]
 rw[bv]at z;rw[ad]at b4;obtain⟨ce,cf,rfl⟩:=o.form;have bg:=aj bt;generalize w.alloc (.cells ((h.map λx=>Cg x.1 x.2).map λp=>V ⟨p.toArray⟩).toArray 9)=cd at z t a3 a2;have bf:=aj a2;have am:=aj a3;generalize ck:M ks=lk at am⊢;go_in;go_wp21
 refine z.mono ?_;rintro e A ⟨rfl,rfl⟩;go_wp21
 go_loop [1,14] (λb8 ak=>∃(g:Nat) (f:List Int),g<=q/\ak= Y .i64 g/\Hid (lE A b8 f/\M f<=1048576)/\agn (h.drop g) f r) (λ_ ak=>q-(intOf ak).toNat)
 case atStart=>exact⟨0,ks,nH,rfl,⟨am,bg⟩,bj⟩
 case round=>
  obtain⟨g,f,a7,rfl,B,E⟩:=hrel;obtain⟨av,bn,rfl⟩:=B.1.form;by_cases bw:g<q
  .have ch:(0:Int)<=(g:Int):=O;obtain⟨⟨d,c⟩,af⟩:=dh ap.out bw;obtain⟨u,L⟩:=bl.out _ (da af);simp only at u L;have br:=bf.out g d c af;have ao:Hid (agn ((d,c)::h.drop (g+1)) f r):=by rw[ago af]at E;exact E
   have ag:=λw=>atx d c u L w;have kB:=λw=>aty d c u L w;have ba:=λi w=>IG d u i w;have⟨k,n⟩:=aw (M f);have C:=aj n;have bo:=B.2;rw[n]at bo;have an:Hid (lE A (T av k bn) f):=by rw[<-n];exact B.1
   rw[n];have a9:=ap3 d c f;have a8:=ap4 d c f;have⟨G,a5⟩:=aw (tkN d c f);rw[a5]at a9 a8;rw[n]at a9;have F:=aj a5;have bk:=aj a8;generalize wS d c=ca at br ag;generalize wS1 d c=cb at ag kB;generalize wB d=cc at kB ba;have bh:Hid (∀a,a<k->∃i m b bc,f[a]?=N i/\av=N m/\A.cell? (m.add a)=N (ig i b)/\A.cell? ⟨b,0,X⟩=N (Y .i64 i)/\rL (fH i)=bc):=λa K=>by
    have⟨i,o⟩:=dh C.out K;have⟨m,b,H⟩:=an.get o;exact⟨i,m,b,_,o,H.1,H.2.1,H.2.2,rfl⟩
   rcases(O:c=0\/c=1\/c=2) with rfl|rfl|rfl;all_goals
    go_wp2_with fail;refine eE (ag _) ?_;go_wp2_with fail;refine eE (kB _) ?_;go_wp2;go_loop [10] (λal=>∃a:Nat,al= Y .i64 a/\a<=G) (λal=>G-(intOf al).toNat)
    case atStart=>exact⟨0,rfl,nH⟩
    case round=>
     obtain⟨a,rfl,b0⟩:=hrel;have y:=bk.out a b0;have cl:(0:Int)<=(a:Int):=O;by_cases s:a=0
     case' pos=>have b6:((a:Int)==0)=true:=by rw[s];rfl
     case' neg=>have b6:((a:Int)==0)=false:=by simpa using s
     all_goals
      rcases aH a k with htl|htl
      case' inl=>
       obtain⟨i,m,b,bc,bs,rfl,aL,cg,b3⟩:=bh.out a htl;have b2:(a:Int)<(k:Int):=O;have bb:=λw=>ba i w;have bA:=λw=>Fg i b w;have b7:=λw=>jf b w;unfold ig at aL;rw[b3]at aL bA;simp only[bs,iL,exists_eq_left']at y;generalize ms d i=bd at bb y;cases bd
      case' inr=>have b2:¬(a:Int)<(k:Int):=O
      all_goals
       have l:=jB y htl s;clear y htl s;go_wp2_with (first|(go_at_call 241;refine eE (bb _) ?_)|(go_at_call 308;refine eE (b7 _) ?_));first
       |(go_ret;exact⟨by rw[aaC ao.out ⟨by have:=l.out;have:=F.out;grind,rfl⟩];rfl,t⟩)
       |(go_round;(case rel=>exact⟨a+1,by go_num,by have:=l.out;grind⟩);(case measure=>have:=l.out;simp[intOf];grind))
       |(have e:a=G:=(by have:=l.out;grind);subst e;exact⟨⟨g+1,f.drop a,O,by go_num,⟨an.sl C O,by rw[wE,C.out];omega⟩,by have K:=aaB ao.out (by have:=l.out;have:=F.out;grind);rwa [F.out]at K⟩,by simp[intOf];omega⟩)
  .obtain rfl:g=q:=O;have a6:=E.out;rw[kD (by rw[ap.out];exact ix _),gE]at a6;have bx:((M f:Int)==0)=r:=by
    rw[<-a6];cases f with
    |nil=>rfl
    |cons x cm=>simp;omega
   have ar:=aj bx;generalize M f=k at ar⊢;go_wp2;go_ret;exact⟨by rw[<-ar.out];rfl,t⟩
