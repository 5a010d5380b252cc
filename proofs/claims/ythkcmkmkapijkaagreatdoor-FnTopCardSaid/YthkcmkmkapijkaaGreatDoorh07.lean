import Derived.Test.YthkcmkmkapijkaaGreatDoorh02
import Derived.Deep.Strs
import Derived.OpenShut
import Derived.Lib.ItoaLen
import Derived.Lib.Repeat
import Derived.Sort.LoopGhostIn
import Derived.Laws.AppendOwnNone
set_option linter.all false
set_option maxRecDepth 100000
set_option maxHeartbeats 6400000
open Go.Proofs.Tryz
open List renaming length->M
open Go.Proofs.Tryz renaming prog->S
open Go renaming World->V,Calls->A3,Value->A5,TypeId->D1
open Go.Ending renaming returned->Y
open Go.Value renaming string->Ax,slice->A2,ownBlock->A9,tuple->B0,pointer->B2,bool->B9,slice->D2,string->E1,int->E2,agg->E3,nilIface->Fs
open Option renaming some->A0,none->B3
open Go.RowKit renaming Below->A1,Hid->C2,intOf->E0
open Go.Obj renaming cells->Br
open Bool renaming false->B1,true->B7
open Go.Lib renaming repeatL->B4
open ByteArray renaming empty->B5
open Go.Shelf renaming Ren->B6
namespace Go.Proofs.YthkcmkmkapijkaaGreatDoor
open Go.RowKit Go.Maps Go.WideMaps
def yc(l:zLB):Nat->Nat->Bool|0,_=>B7|f+1,j=>lL (l.getD j B5)&&yc l f (j+1)
structure Ke (l:zLB) (f j:Nat) (R1:Bool):Prop where
 out:yc l f j=R1
def gi(N:Nd)(least a:Int):Bool:=decide (least<=(M N.nm:Int)/\(M N.nm:Int)<=a)&&yc N.nm (M N.nm) 0
def acq(w N F E least k)(B:bv w F N.nm)(K:dt w E N.ks)(L:M N.nm<=1048576)(af:∀s∈N.nm,s.size<=1048576):
  A3 S 227 #[jq N F E,zI least,zI k] w λe a=>e=Y (B9<|gi N least k)/\A1 w.heap.size w a:=by
 have i:∀q,A1 w.heap.size w (w.alloc q):=λq=>(ay _ w).alloc O q;have l:=fs B af;obtain⟨v,y,rfl⟩:=B.form;obtain⟨x,z,rfl⟩:=K.form;have⟨f,h⟩:=aw<|gi N least k;rw[h];unfold gi at h;unfold jq;have⟨a,A⟩:=aw<|M N.nm;rw[A]at l L h⊢;generalize M N.ks=t;by_cases al:(a:Int)<least
 .have d:C2 (B1=f):=U;go_in;go_wp2;go_ret;exact⟨by rw[<-d.out];rfl,i _⟩
 by_cases am:k<(a:Int)
 .have d:C2 (B1=f):=U;go_in;go_wp2;go_ret;exact⟨by rw[<-d.out];rfl,i _⟩
 have d:Ke N.nm a 0 f:=⟨U⟩;clear h;go_in;go_wp21
 have m:=i<|Br (Jn N (A2 v a y)<|A2 x t z) 37;generalize w.alloc (Br (Jn N (A2 v a y)<|A2 x t z) 37)=u at m⊢;clear i;go_loopw [24,8] (λr _ wr=>∃(b:Nat),r=zI b/\b<=a/\Ke N.nm (a-b) b f/\A1 u.heap.size u wr) (λr _ _=>a-(E0 r).toNat)
 .exact⟨0,R,O,d,blR⟩
 .
  obtain⟨b,rfl,_,G,n⟩:=hrel;have p:=m.trans<|n.mono m.size;have c:=G.out;by_cases ad:b<a
  .have⟨s,C⟩:=bg (ah A).out ad;have an:=l.2 s U;obtain⟨_,rfl,_⟩:=(l.1.below p).get C;rw[(O:a-b=(a-(b+1))+1),yc,ed,C,li]at c;have H:(b:Int)<(a:Int):=O;have j:=Cl s O wr;cases hx:lL s with
   |true=>
    rw[hx,gK]at c;rw[hx]at j;have g:Ke N.nm (a-(b+1)) (b+1) f:=⟨c⟩;clear c hx;go_wp2_with (go_at_call 231;apply j.mono;rintro e ak ⟨rfl,o⟩);exact⟨⟨_,by go_num,O,g,n.trans<|o.mono n.size⟩,by simp[E0];omega⟩
   |false=>
    rw[hx,gJ]at c;rw[hx]at j;have g:=ah c;clear c hx;go_wp2_with (go_at_call 231;apply j.mono;rintro e ak ⟨rfl,o⟩);go_ret;exact⟨by rw[<-g.out];rfl,p.trans<|o.mono p.size⟩
  .rw[(O:a-b=0),yc]at c;have g:=ah c;have H:¬(b:Int)<(a:Int):=O;go_wp21
   go_ret
   simp_all
def DH(x:Bz):Bool:=decide (x.toList=[])
def bC(N:Nd)(c b d a:Bool):Bool:=(c||N.op==0)&&(b||N.n==0)&&(d||DH N.x)&&(a||decide (M N.nm=0))
def aeA(w N h g)(j:bv w h N.nm)(i:dt w g N.ks)(m:M N.nm<=1048576)(a b c d):
  A3 S 226 #[jq N h g,B9 a,B9 b,B9 c,B9 d] w λe f=>e=Y (B9<|bC N a b c d)/\A1 w.heap.size w f:=by
 obtain⟨_,_,rfl⟩:=j.form;obtain⟨_,_,rfl⟩:=i.form;have⟨_,f⟩:=aw<|bC N a b c d;rw[f];unfold jq;generalize M N.ks=l;unfold bC DH at f;by_cases k:N.x.toList=[];all_goals
  simp only[k,decide_true,decide_false]at f;cases t4:((M N.nm:Int)==0);all_goals
   go_in;go_wp2;all_goals
    go_ret;exact⟨by rw[<-(ah f).out];simp at t4;simp[*],(ah<|dj w) _⟩
open Go.Lib (strCells strCells_length wpList_append_own_string)
def alt:(S.info? 5).map (λi=>(i.zero,i.size,i.bytes))=A0 (A0<|zU 0,1,1):=J
def CC(a b:Bz):strCells (a++b)=strCells a++strCells b:=by
 unfold strCells
 simp_all
structure Kq (b:Nat) (w w':V):Prop where
 os:w'.os=w.os
 tape:w'.tape=w.tape
 output:w'.output=w.output
 size:w.heap.size<=w'.heap.size
 block:∀k,k<w.heap.size->k≠b->(∀cs fr,w.heap[k]?≠A0 (.cells cs 5 fr))->w'.heap[k]?=w.heap[k]?
def Kq.refl(b w):Kq b w w:=⟨R,R,R,eE,λ_ _ _ _=>rfl⟩
def Kq.trans{b x f z}(h:Kq b x f)(k:Kq b f z):Kq b x z:=
 ⟨k.os.trans h.os,k.tape.trans h.tape,k.output.trans h.output,bK h.size k.size,λd a c e=>
  (k.block d (jm a h.size) c (λ_ _=>by rw[h.block d a c e];grind)).trans (h.block d a c e)⟩
def Kq.of_below{b w a}(h:A1 w.heap.size w a):Kq b w a:=⟨h.os,h.tape,h.output,h.size,λd c _ _=>h.block d c⟩
structure Pr (w0:V) (vt:A5) (T:Bz) (tab:Int) (W:V):Prop where
 bel:A1 w0.heap.size w0 W
 row:∃o,W.heap[w0.heap.size]?=A0 (.cells #[vt,o,zI tab] 87 (0,0))/\W.ownsRow (w0.heap.size+1) 5 1 o T.size (strCells T)
def Pr.lt{a c b tab W}(h:Pr a c b tab W):a.heap.size<W.heap.size:=by
 have⟨_,_,_⟩:=h.row;grind
def Pr.below{f e b tab W c}(h:Pr f e b tab W)(a:A1 W.heap.size W c):Pr f e b tab c:=by
 have⟨i,d,g⟩:=h.row;exact⟨h.bel.trans<|a.mono h.bel.size,i,(a.block _<|ai d).trans d,cj g a⟩
def acs{W:V}{p o}{cs:zAV}{t fr n}{xs:zLV}(f:W.heap[p]?=A0 (Br cs t fr))(h:t≠5){c}(d:W.ownsRow c 5 1 o n xs)(g)(a:o.ownBlock=A0 g):g≠p/\c<=g:=by
 refine⟨?_,(d.lt g a).1⟩;rintro rfl;obtain⟨b,_⟩|⟨e,_,_,b,_,_,_⟩:=d.2
 .rw[b]at a;simp[A9]at a
 .rw[b]at a;obtain rfl:e=g:=by simpa [A9] using a
  grind
def Pr.put{a W g j f}(h:A1 a.heap.size a W)(d:W.heap[a.heap.size]?=A0 (Br #[g,j,zI f] 87 (0,0))){o}{b:Bz}(e:W.ownsRow (a.heap.size+1) 5 1 o b.size (strCells b)):Pr a g b f (W.setCell (aj a.heap.size 1) o):=
 ⟨h.setCell eE _,o,aD _ _ 1 _ _ _ d,e.kept (row:=A0 a.heap.size) ⟨R,R,R,byS,λ_ _ i=>jg (λc=>i (by rw[c]))⟩ (by
  cases hv:o.ownBlock with
  |none=>grind|some k=>exact .inr (λc=>by cases c;exact(acs d Z e _ hv).1 R))⟩
def Pr.putTab{b W i c k}(h:Pr b i c k W)(g):Pr b i c g (W.setCell (aj b.heap.size 2)<|zI g):=by
 have⟨f,d,e⟩:=h.row;exact⟨h.bel.setCell eE _,f,aD _ _ 2 _ _ _ d,e.kept ⟨R,R,R,byS,λ_ _ j=>jg (λa=>j (by rw[a]))⟩ (by
  cases hv:f.ownBlock with
  |none=>grind|some l=>exact .inr (λa=>by cases a;exact(acs d Z e _ hv).1 R))⟩
def Kq.putP(b W i v):Kq b W (W.setCell (aj b i) v):=
 ⟨R,R,R,byS,λ_ _ a _=>jg a⟩
def Pr.cells{a c d tab W}(h:Pr a c d tab W):W.cell? (aj a.heap.size 0)=A0 c/\W.cell? (aj a.heap.size 2)=A0 (zI tab)/\∀j,W.frozen? (aj a.heap.size j)=B1:=by
 have⟨_,b,_⟩:=h.row;exact⟨crV b,crV b,λj=>frR b⟩
def ig(a r)(d s:Bz)(tab w)(h:Pr a r d tab w)(z:d.size+s.size<=140737488355328):
  A3 S 35 #[be a.heap.size 0,Ax s] w λe b=>e=Y (B0 #[])/\Pr a r (d++s) tab b/\Kq a.heap.size w b:=by
 have⟨_,j,k⟩:=h.row;have⟨g,v⟩:=aw d.size;rw[v]at k z;obtain⟨m,n,rfl⟩:=aF k;have⟨E,F,G,H,K⟩:=dw alt;have A:=ai j;have L:w.cell? (aj a.heap.size 1)=A0 (A2 m g n):=crV j;have x:=acs j Z k;have c:=Cg k j v h.bel;go_in;go_wp2_with (at_builtin;apply wpList_append_own_string _ R _ _ _ 9 R _ 5 E underlying22 underlying9 F G H K _ _ _ R c.1 s R byM O O;intro _ l C b _;obtain⟨t,u,rfl⟩:=aF C;have p:=(b.block _ A (λe=>(x _ e.symm).1 R)).trans c.2.1;have al:l.cell? (aj a.heap.size 1)=A0 (A2 m g n):=(crV p);have ad:l.frozen? (aj a.heap.size 1)=B1:=frR p);have ak:Pr a r (d++s) tab (l.setCell (aj a.heap.size 1)<|A2 t (g+s.size) u):=Pr.put (c.2.2.2.grown b O (λf q=>by have:=(x f q).2;omega)) p (by rw[az,c.out.2.2.1,CC];omega);have af:Kq a.heap.size w (l.setCell (aj a.heap.size 1)<|A2 t (g+s.size) u):=by
  refine⟨b.os,b.tape,b.output,by simp[World.setCell];exact b.size,λf q B _=>?_⟩;rw[jg B];refine b.block f q (λe=>?_);have i:(D2 m g n).ownBlock=A0 f:=e.symm;obtain⟨o,_⟩|⟨y,_,_,o,_,_,_⟩:=c.1.2
  .rw[o]at i;simp[A9]at i
  .rw[o]at i;obtain rfl:y=f:=by simpa [A9] using i
   grind
 go_end0
 grind
end Go.Proofs.YthkcmkmkapijkaaGreatDoor
namespace Go.Proofs.YthkcmkmkapijkaaGreatDoor
open Go.RowKit
def gB:Nat->Bz|0=>B5|n+1=>gB n++⟨#[9]⟩
def gA(t:Nat):Bz:=⟨#[10]⟩++gB t
def rF:∀t,(gB t).size=t|0=>rfl|t+1=>by rw[gB,az,rF];rfl
def so(t):(gA t).size=t+1:=by rw[gA,az,rF];show 1+t=_;omega
def fj:Bz:=⟨#[44,32]⟩
def Jr(a:Bool×Bz)(x:Bz):Bool×Bz:=(B7,(ite (a.1=B7) (a.2++fj) a.2)++x)
def aeD(l:zLB):Bool×Bz:=l.foldl Jr (B1,B5)
def cD(l:zLB):Bz:=(aeD l).2
def DI(l x):aeD (l++[x])=Jr (aeD l) x:=by unfold aeD;grind
def act:∀l:zLB,(aeD l).1=!l.isEmpty:=by
 intro l;obtain rfl|⟨_,_,rfl⟩:=List.eq_nil_or_concat l
 .rfl
 .rw[List.concat_eq_append,DI];unfold Jr;simp
def rG(l:zLB)(k x)(e:l[k]?=A0 x):cD (l.take<|k+1)=(ite (k=0) (cD<|l.take k)<|cD (l.take k)++fj)++x:=by
 have⟨c,d⟩:=dr.1 e;have a:l.take (k+1)=l.take k++[x]:=by rw[List.take_succ_eq_append_getElem c,d]
 unfold cD;rw[a,DI];unfold Jr;simp only;rw[act];by_cases b:k=0
 .grind
 .rw[aa b,ae];cases l with
  |nil=>grind|cons f g=>simp_all
def alu(l:zLB)(k):(cD<|l.take k).size<=(cD<|l.take<|k+1).size:=by
 by_cases a:k<M l
 .rw[rG l k _<|bm a,az];grind
 .rw[ci O,ci O];omega
def Ge(l k):(cD<|l.take k).size<=(cD l).size:=by
 have b:∀a,(cD<|l.take k).size<=(cD<|l.take<|k+a).size:=by
  intro a
  induction a with
  |zero=>grind|succ a c=>exact bK c<|alu l _
 have:=b<|M l
 rwa [ci (O:M l<=k+M l)]at this
def acu(c f b)(t:Nat)(w)(h:Pr c f b t w)(n:t<=1000000)(l:b.size+(t+1)<=140737488355328):
  A3 S 189 #[be c.heap.size 0] w λe a=>e=Y (B0 #[])/\Pr c f (b++gA t) t a/\Kq c.heap.size w a:=by
 go_in;go_wp2_with (go_at_call 35;apply(ig c f b _ _ _ (ah h) (by show b.size+1<=_;omega)).mono;rintro e w1 ⟨rfl,k,i⟩);go_loopw [2] (λg wr=>∃a:Nat,a<=t/\g=zI a/\C2 (Pr c f (b++(⟨#[10]⟩++gB a)) t wr/\Kq c.heap.size w wr)) (λg _=>t-(E0 g).toNat)
 .exact⟨0,O,R,by rw[show(⟨#[10]⟩:Bz)++gB 0=⟨#[10]⟩ from rfl];exact fs k i⟩
 .
  obtain⟨a,_,rfl,d⟩:=hrel;have⟨_,_,_⟩:=d.1.cells;by_cases m:a<t
  .go_wp2_with (go_at_call 35;apply(ig c f _ _ _ _ d.1 (by rw[az,az,rF];show b.size+(1+a)+1<=_;omega)).mono;rintro e _ ⟨rfl,p2,j⟩);refine⟨⟨a+1,O,by go_num,?_⟩,by simp[E0];omega⟩;refine⟨?_,d.2.trans j⟩;rw[show b++((⟨#[10]⟩:Bz)++gB (a+1))=b++(⟨#[10]⟩++gB a)++⟨#[9]⟩ by rw[gB,aB,aB]];exact p2
  .obtain rfl:a=t:=O;go_wp21
   go_end0
   exact⟨R,d.1,d.2⟩
def ajc(b f y l d t w)(h:Pr b f d t w)(v:bv b y l)(H:M l<=1048576)(K:d.size+(cD l).size<=140737488355328):
  A3 S 108 #[be b.heap.size 0,y] w λe a=>e=Y (B0 #[])/\Pr b f (d++cD l) t a/\Kq b.heap.size w a:=by
 have s:=fs h v;obtain⟨_,_,rfl⟩:=v.form;have⟨k,u⟩:=aw<|M l;rw[u]at H s⊢;go_in;go_wp21
 go_loopw [8] (λn wr=>∃a:Nat,a<=k/\n=zI a/\C2 (Pr b f (d++cD (l.take a)) t wr/\Kq b.heap.size w wr)) (λn _=>k-(E0 n).toNat)
 .exact⟨0,O,R,by rw[show d++cD (l.take 0)=d from lj];omega,Kq.refl _ _⟩
 .
  obtain⟨a,_,rfl,c⟩:=hrel;by_cases G:a<k
  .have⟨m,x⟩:=bg (ah u).out G;obtain⟨z,rfl,A⟩:=(s.2.below c.1.bel).get x;have E:=rG l a m x;have F:=Ge l<|a+1;have r:=fs E F;by_cases C:a=0
   .subst C;have g:cD (l.take<|0+1)=cD (l.take 0)++m:=U;have j:=r.2;rw[g,az]at j;have i:=ah g;have q:wr.cell? z=A0 (Ax m):=by simpa [Addr.add] using A
    go_wp2_with (go_at_call 35;apply(ig b f _ _ _ _ c.1 U).mono;rintro e p ⟨rfl,p2,o⟩);refine⟨⟨1,O,by go_num,?_,c.2.trans o⟩,by simp[E0];omega⟩;rw[show(1:Nat)=0+1 from rfl,i.out,<-aB];exact p2
   .have g:cD (l.take<|a+1)=cD (l.take a)++fj++m:=U;have j:=r.2;rw[g,az,az]at j;have B:fj.size=2:=rfl;have i:=jG g j B;go_wp21
    apply(ig b f _ _ _ _ c.1 (by have:=i.2;rw[az];show _+fj.size<=_;omega)).mono;rintro e p ⟨rfl,p2,o⟩;have q:C2 (Pr b f (d++cD (l.take a)++fj) t p/\Kq b.heap.size wr p):=⟨p2,o⟩;go_wp21
    apply(ig b f _ _ _ _ q.1 U).mono;rintro e _ ⟨rfl,_,_⟩;go_wp21
    refine⟨⟨a+1,O,by go_num,?_,(c.2.trans q.2).trans O⟩,by simp[E0];omega⟩;rw[i.out.1,<-aB,<-aB];omega
  .obtain rfl:a=k:=O;go_wp21
   go_end0
   refine⟨R,?_,c.2⟩;have:=c.1;grind
def tg(a:Int):Int×Int:=
 ite (13<=a/\a<=18) (3,4) (ite (a=12) (4,4)<|ite (a=8) (5,6)<|ite (a=9) (6,7)<|ite (a=7) (7,8)<|ite (a=10\/a=11) (8,9)<|ite (a=1\/a=2) (9,10) (10,11))
def EC(a)(c:1<=a)(d:a<=18)(w):
  A3 S 273 #[zI<|60+a] w λe b=>e=Y (B0 #[zI (tg a).1,zI (tg a).2])/\b=w:=by
 have b:a=1\/a=2\/a=3\/a=4\/a=5\/a=6\/a=7\/a=8\/a=9\/a=10\/a=11\/a=12\/a=13\/a=14\/a=15\/a=16\/a=17\/a=18:=O;obtain rfl|rfl|rfl|rfl|rfl|rfl|rfl|rfl|rfl|rfl|rfl|rfl|rfl|rfl|rfl|rfl|rfl|rfl:=b<;>
  (go_in
   go_wp2;exact aA (results_tmp2 R _ _ _) R ⟨R,R⟩)
def iu(k a:Int):Int:=ite (k=29) 1<|ite (k=28) 2<|ite (k=31) ((tg a).1)<|ite (k=30) 11 12
def uj(k a:Int):Int:=ite (k=29) 2<|ite (k=28) 3<|(tg a).2
def mc(k:Int):Bool:=k==26||k==32||k==33||k==34||k==37
def ED(N j i)(c:N.k=31->1<=N.op/\N.op<=18)(w):
  A3 S 190 #[jq N j i] w λe a=>e=Y (zI<|iu N.k N.op)/\A1 w.heap.size w a:=by
 have b:A1 w.heap.size w (w.alloc<|Br (Jn N j i) 37):=(ay _ w).alloc O _;unfold jq;by_cases d:N.k=29
 .have m:(N.k==29)=B7:=U;have a:C2 (iu N.k N.op=1):=by show _=_;unfold iu;omega
  clear d c;go_in;go_wp2;go_ret;exact⟨by rw[a.out];rfl,b⟩
 have m:(N.k==29)=B1:=U;by_cases f:N.k=28
 .have n:(N.k==28)=B7:=U;have a:C2 (iu N.k N.op=2):=by show _=_;unfold iu;omega
  clear d f c;go_in;go_wp2;go_ret;exact⟨by rw[a.out];rfl,b⟩
 have n:(N.k==28)=B1:=U;by_cases g:N.k=31
 .have o:(N.k==31)=B7:=U;have a:C2 (iu N.k N.op=(tg N.op).1):=by show _=_;unfold iu;omega
  have⟨p,q⟩:=c g;have h:=EC _ p q;generalize tg N.op=l at h a;obtain⟨_,_⟩:=l;simp at h a;clear d f g c;go_in;go_wp2_with (go_at_call 273;apply ez<|h _);go_ret;exact⟨by rw[a.out];rfl,b⟩
 have o:(N.k==31)=B1:=U;by_cases h:N.k=30
 .have l:(N.k==30)=B7:=U;have a:C2 (iu N.k N.op=11):=by show _=_;unfold iu;omega
  clear d f g h c;go_in;go_wp2;go_ret;exact⟨by rw[a.out];rfl,b⟩
 have l:(N.k==30)=B1:=U;have a:C2 (iu N.k N.op=12):=by show _=_;unfold iu;omega
 go_in;go_wp2;go_ret;exact⟨by rw[a.out];rfl,b⟩
def acv(N i h)(d:N.k≠29->N.k≠28->1<=N.op/\N.op<=18)(w):
  A3 S 274 #[jq N i h] w λe a=>e=Y (zI<|uj N.k N.op)/\A1 w.heap.size w a:=by
 have c:A1 w.heap.size w (w.alloc<|Br (Jn N i h) 37):=(ay _ w).alloc O _;unfold jq;by_cases b:N.k=29
 .have l:(N.k==29)=B7:=U;have a:C2 (uj N.k N.op=2):=by show _=_;unfold uj;omega
  clear b d;go_in;go_wp2;go_ret;exact⟨by rw[a.out];rfl,c⟩
 have l:(N.k==29)=B1:=U;by_cases g:N.k=28
 .have m:(N.k==28)=B7:=U;have a:C2 (uj N.k N.op=3):=by show _=_;unfold uj;omega
  clear b g d;go_in;go_wp2;go_ret;exact⟨by rw[a.out];rfl,c⟩
 have m:(N.k==28)=B1:=U;have a:C2 (uj N.k N.op=(tg N.op).2):=by show _=_;unfold uj;omega
 have⟨n,o⟩:=d b g;have f:=EC _ n o;generalize tg N.op=j at f a;obtain⟨_,_⟩:=j;simp at f a;go_in;go_wp2_with (go_at_call 273;apply ez<|f _);go_ret;exact⟨by rw[a.out];rfl,c⟩
def aeE(k w):A3 S 275 #[zI k] w λe a=>e=Y (B9<|mc k)/\a=w:=by
 unfold mc;cases f1:(k==26)<;>cases f2:(k==32)<;>cases f3:(k==33)<;>cases f4:(k==34)<;>cases f5:(k==37)<;>
  (go_in
   go_wp2;go_ret;exact rr)
def ajd:zLD->Nat|[]=>0|N::l=>ab7 N+ajd l
open Go.ChangeShapes Go.WideShapes Go.ChangeAt Go.WideMaps Go.WideElems Go.Deep
structure oC (N:Nd):Prop where
 k: -9223372036854775808<=N.k/\N.k<=9223372036854775807
 f: -9223372036854775808<=N.f/\N.f<=9223372036854775807
 t: -9223372036854775808<=N.t/\N.t<=9223372036854775807
 l: -9223372036854775808<=N.l/\N.l<=9223372036854775807
 op: -9223372036854775808<=N.op/\N.op<=9223372036854775807
 n: -9223372036854775808<=N.n/\N.n<=9223372036854775807
 ks:∀z∈N.ks, -9223372036854775808<=z/\z<=9223372036854775807
end Go.Proofs.YthkcmkmkapijkaaGreatDoor
namespace Go.Proofs.YthkcmkmkapijkaaGreatDoor
open Go.RowKit Go.Maps Go.WideMaps
def bJ(n:Int):Bz:=⟨(Lib.itoa n).toArray⟩
def oq:Bz:=⟨#[32]⟩
def He:Bz:=⟨#[10]⟩
def gj:zLB->Bz|[]=>zE0|s::l=>(oq++s)++gj l
def L8(x:Bz):(zE0:Bz)++x=x:=ByteArray.empty_append
theorem tE(x:Bz):x++(zE0:Bz)=x:=lj
theorem zy(a b):gj (a++b)=gj a++gj b:=by
 induction a with
 |nil=>rfl|cons e d c=>grind [oq,gj,ByteArray.append_assoc]
def AH(l:zLB)(k s)(h:l[k]?=A0 s):gj (l.take<|k+1)=gj (l.take k)++(oq++s):=by
 grind [List.take_add_one,zy,gj,oq,tE]
def qc:zLB->Nat|[]=>0|s::l=>s.size+qc l
def AI(l):(gj l).size=M l+qc l:=by
 induction l with
 |nil=>rfl|cons a l b=>show((oq++a)++gj l).size=_;rw[az,az,b];show 1+a.size+_=(M l+1)+(a.size+qc l);omega
def qI(l k):(gj<|l.take k).size<=(gj l).size:=by
 have:=congrArg ByteArray.size<|zy (l.take k)<|l.drop k
 simp_all
def EE(N:Nd):Bz:=
 (((((((zE0:Bz)++(bJ N.k++oq))++(bJ N.f++oq))++(bJ N.t++oq))++(bJ N.l++oq))++(bJ N.op++oq))++(bJ N.n++oq))
def ye(s:Bz):Bz:=dK<|eJ s
def qJ(N:Nd):Bz:=
 (((EE N++((ye N.x++oq)++bJ (M N.nm)))++gj N.nm)++(oq++bJ (M N.ks)))++gj (N.ks.map bJ)
def kG:zLD->Bz|[]=>zE0|N::l=>(qJ N++He)++kG l
theorem Kf(a b):kG (a++b)=kG a++kG b:=by
 induction a with
 |nil=>rfl|cons e d c=>grind [qJ,He,kG,ByteArray.append_assoc]
def Hf(l:zLD)(k N)(h:l[k]?=A0 N):kG (l.take<|k+1)=kG (l.take k)++(qJ N++He):=by
 grind [List.take_add_one,Kf,kG,qJ,He,tE]
def xk(l k):(kG<|l.take k).size<=(kG l).size:=by
 have:=congrArg ByteArray.size<|Kf (l.take k)<|l.drop k
 simp_all
def yg(N:Nd):zLB:=[bJ N.k,bJ N.f,bJ N.t,bJ N.l,bJ N.op,bJ N.n,ye N.x,bJ<|M N.nm]++(N.nm++(bJ (M N.ks)::N.ks.map bJ))
def Kg(x)(l:zLB):(⟨(Lib.join ((x::l).map (·.data.toList)) [32]).toArray⟩:Bz)=x++gj l:=by
 rw[eA,Lib.join_cons];have d:∀l:zLB,Lib.joinTail [32] (l.map (·.data.toList))=(gj l).data.toList:=by
  intro l
  induction l with
  |nil=>rfl|cons a l c=>
   have b:Lib.joinTail [32] ((a::l).map (·.data.toList))=([32]++a.data.toList)++Lib.joinTail [32] (l.map (·.data.toList)):=by rfl
   rw[b,c];rfl
 rw[d];rfl
def aeF(N):(⟨(Lib.join ((yg N).map (·.data.toList)) [32]).toArray⟩:Bz)=qJ N:=by
 have a:yg N=bJ N.k::([bJ N.f,bJ N.t,bJ N.l,bJ N.op,bJ N.n,ye N.x,bJ<|M N.nm]++(N.nm++(bJ (M N.ks)::N.ks.map bJ))):=rfl;rw[a,Kg,zy,zy];simp[qJ,EE,gj,L8,aB]
theorem iz(n)(a: -9223372036854775808<=n)(b:n<=9223372036854775807):(bJ n).size<=21:=by
 show(Lib.itoa n).toArray.size<=21;grind [List.size_toArray,Lib.itoa_length_le]
def aeG(x):(dK x).size=M x:=by
 have d:∀(x:zLI)(a:Bz),(x.foldl (λb e=>b.push<|UInt8.ofNat e.toNat) a).size=a.size+M x:=by
  intro x
  induction x with
  |nil=>grind|cons f b c=>intro a;show(b.foldl _<|a.push _).size=_;rw[c];simp;omega
 have:=d x B5
 simp_all [dK]
def zA(s):(ye s).size<=2+4*s.size:=by
 rw[ye,aeG];unfold eJ;have:=GC s _ eE;grind
def ap2(l):qc l=aiI l:=by
 induction l with
 |nil=>rfl|cons b l a=>grind [qc,aiI]
def alv(l:zLI)(h:∀z∈l, -9223372036854775808<=z/\z<=9223372036854775807):qc (l.map bJ)<=21*M l:=by
 induction l with
 |nil=>exact fG _|cons d l b=>
  have c:=b λz a=>h z<|dJ _ a;grind [iz,List.mem_cons_self,bJ,qc]
def aje{N}(h:oC N)(u:M N.nm<=1048576)(s:M N.ks<=1048576):(qJ N).size<=220+22*ab7 N:=by
 have a:=iz _ h.k.1 h.k.2;have b:=iz _ h.f.1 h.f.2;have c:=iz _ h.t.1 h.t.2;have d:=iz _ h.l.1 h.l.2;have e:=iz _ h.op.1 h.op.2;have g:=iz _ h.n.1 h.n.2;have i:=iz (M N.nm) O O;have j:=iz (M N.ks) O O;have m:=zA N.x;have o:=AI N.nm;have p:=AI<|N.ks.map bJ;have q:=alv _ h.ks;have r:=ap2 N.nm;have v:oq.size=1:=rfl;have s0:(zE0:Bz).size=0:=rfl;grind [List.length_map,qJ,EE,ab7,alc,ByteArray.size_append]
def aeH(l)(h:∀N∈l,oC N)(a:∀N∈l,M N.nm<=1048576/\M N.ks<=1048576):(kG l).size<=221*M l+22*ajd l:=by
 induction l with
 |nil=>exact fG _|cons N l d=>
  have e:=d (λc b=>h c<|dJ _ b) λc b=>a c<|dJ _ b;have f:=aje (h N<|bG) (a N<|bG).1 (a N<|bG).2;have g:He.size=1:=rfl;grind [qJ,He,kG,ab7,ajd]
abbrev BuF(B b:Nat)(a:zLV)(w:V):Prop:=Lib.IsBuilderF 138 5 B b a w
abbrev BuA(B b:Nat)(a:zLV)(w:V):Prop:=Lib.BuilderAtF 138 5 B b (be b 0) a w
def xl(b w)(f:w.cell? (aj b 0)=A0 (B2 B3))(d:w.shape? b=A0 (138,2))(g:w.frozen? (aj b 0)=B1):
  A3 S 157 #[be b 0] w λe a=>e=Y (B0 #[])/\a=w.setCell (aj b 0) (be b 0):=by
 have⟨_,c,_⟩:=Option.map_eq_some_iff.1<|(J:(S.info? 138).map (·.size)=A0 2);have h:=Lib.run_to_unsafe (w:=w) ⟨b,0,B3⟩ underlying136 underlying142 c O d<|Nat.zero_lt_succ 1;have i:=Lib.run_from_unsafe (w:=w) ⟨b,0,B3⟩ underlying142 underlying136 c d J;have j:∀a,(callFunc 256 #[a]).run S w= .ok (.value a) w:=λa=>by
  rw[nI func256 J J J J,Lib.run_noEscape];rfl
 go_in;go_wp2;go_end0
 exact rr
def Hg(b w)(c:w.cell? (aj b 0)=A0 (be b 0))(d:w.shape? b=A0 (138,2)):
  A3 S 157 #[be b 0] w λe a=>e=Y (B0 #[])/\a=w:=by
 have⟨_,a,_⟩:=Option.map_eq_some_iff.1<|(J:(S.info? 138).map (·.size)=A0 2);have f:=Lib.run_neq_ptr_same w ⟨b,0,B3⟩ underlying136 a;go_in;go_wp2;go_end0
 exact rr
def Js(B b c w)(h:BuF B b c w):
  A3 S 157 #[be b 0] w λe a=>e=Y (B0 #[])/\BuA B b c a/\A1 B w a:=by
 obtain h|h:=h
 .apply(xl b w h.cell0 h.shape h.frozen0).mono;rintro e a ⟨rfl,rfl⟩;exact⟨R,h.used _,(ay B w).setCell h.1 _⟩
 .apply(Hg b w h.cell0 h.shape).mono;rintro e a ⟨rfl,rfl⟩;exact⟨R,h,ay B _⟩
def Fh(B b a)(s:Bz)(w)(h:BuF B b a w)(L:M a+s.size<=140737488355328)(K:B<=w.heap.size):
  A3 S 57 #[be b 0,Ax s] w λe c=>e=Y (B0 #[zI s.size,Fs])/\BuA B b (a++Lib.strCells s) c/\A1 B w c:=by
 have⟨A,u,x,y,z⟩:=dw<|(J:(S.info? 5).map (λi=>(i.zero,i.size,i.bytes))=A0 (A0<|zU 0,1,1));go_in;go_wp2_with (go_at_call 157;apply(Js B b a _ h).mono);rintro e w1 ⟨rfl,t,m⟩;obtain⟨l,j,f,o,v⟩:=t;have F:w1.cell? (aj b 1)=A0 j:=by rw[Lib.cell_of_heap f];rfl
 have ad:=m.size;go_wp2_with (at_builtin;apply Lib.wpList_append_own_stringF _ R _ _ _ 9 R B 5 A underlying22 underlying9 u x y z _ _ _ R o s R byM O O);intro E r p n _;have d:r.heap[b]?=A0 (Br #[be b 0,j] 138 (0,0)):=by
  rw[n.block b (ai f) (λe=>v e.symm)];exact f
 have G:r.cell? (aj b 1)=A0 j:=by rw[Lib.cell_of_heap d];rfl
 have H:=Lib.frozen_of_heap d 1;obtain⟨k,q,c,rfl⟩:∃k q c,E=A2 k q c:=by
  obtain⟨g,_⟩|⟨_,c,_,_,g,_⟩:=p.2
  .exact⟨_,_,_,g⟩
  .exact⟨_,_,_,g⟩
 go_wp2;go_ret2;refine⟨R,?_,?_⟩
 .exact Lib.BuilderAtF.put l d (by simpa [Lib.strCells_length] using p) Z
 .exact(m.grown n O (λC g=>(o.lt C g).1)).setCell l _
end Go.Proofs.YthkcmkmkapijkaaGreatDoor
namespace Go.Proofs
open Go.Shelf
def Tryz.lays170_ren:B6:=⟨λ|170=>323|n=>n,λ|70=>136|3=>3|0=>0|72=>138|37=>22|5=>5|n=>n,λ|n=>n⟩
def Tryz.lays170:Go.Proofs.Lays.n170 S Tryz.lays170_ren:=Tryz.sh
def Tryz.lays169_ren:B6:=⟨λ|169=>59|n=>n,λ|70=>136|9=>9|0=>0|72=>138|37=>22|127=>225|3=>3|5=>5|n=>n,λ|n=>n⟩
def Tryz.lays169:Go.Proofs.Lays.n169 S Tryz.lays169_ren:=Tryz.sh
def Tryz.Builder_Extra_169:Builder.Extra S Tryz.lays169_ren:=Tryz.sh
def Tryz.lays241_ren:B6:=⟨λ|241=>315|277=>349|n=>n,λ|70=>136|3=>3|0=>0|72=>138|37=>22|5=>5|n=>n,λ|n=>n⟩
def Tryz.lays241:Go.Proofs.Lays.n241 S Tryz.lays241_ren:=Tryz.sh
def Tryz.Builder_Extra_241:Builder.Extra S Tryz.lays241_ren:=Tryz.sh
open Go.RowKit in
def Tryz.Builder_grow_fresh(B b n:Nat)(w)(c:B<=b)(f:w.heap[b]?=A0 (Br #[B2<|A0 ⟨b,0,B3⟩,A2 B3 0 0] 138 (0,0)))(d:B<=w.heap.size)(g:n<=281474976710656):
  A3 S 315 #[B2<|A0 ⟨b,0,B3⟩,E2 .i64 n] w λe a=>e=Y (B0 #[])/\(Lib.BuilderAt 138 5 B b (B2<|A0 ⟨b,0,B3⟩) [] a/\A1 B w a):=Any.Builder_grow_fresh Tryz.lays241 Tryz.Builder_Extra_241 B b n w c f d g
open Go.RowKit in
def Tryz.Builder_Len_f(B b a w)(h:Lib.IsBuilderF 138 5 B b a w):
  A3 S 323 #[B2<|A0 ⟨b,0,B3⟩] w λe c=>e=Y (E2 .i64<|M a)/\c=w:=Any.Builder_Len_f Tryz.lays170 B b a w h
open Go.RowKit in
def Tryz.Builder_String_any_k(B b l w)(h:Lib.IsBuilderF 138 5 B b (Lib.byteCells l) w)(c:B<=w.heap.size):
  A3 S 59 #[B2<|A0 ⟨b,0,B3⟩] w λe a=>e=Y (Ax ⟨l.toArray⟩)/\(Lib.IsBuilderF 138 5 B b (Lib.byteCells l) a/\A1 B w a/\Lib.OthersKept 5 (A0 b) w a):=Any.Builder_String_any_k Tryz.lays169 Tryz.Builder_Extra_169 B b l w h c
def Tryz.laysM171_ren:B6:=⟨λ|171=>66|243=>169|246=>257|283=>311|284=>312|285=>313|286=>314|129=>345|317=>344|318=>346|319=>347|320=>348|337=>368|338=>369|n=>n,λ|3=>3|9=>9|2=>2|4=>4|171=>319|0=>0|53=>40|37=>22|5=>5|173=>322|212=>336|51=>289|20=>20|213=>337|46=>265|232=>361|233=>362|n=>n,λ|17=>7|18=>10|19=>11|n=>n⟩
def Tryz.laysM171:Go.Proofs.LaysM.n171 S Tryz.laysM171_ren:=Tryz.sh
open Go.RowKit Go.Sort Go.Lib in
def Tryz.strconv_Itoa(n:Int)(a: -9223372036854775808<=n)(b:n<=9223372036854775807)(w:V)(c:Lib.TabIs S w "internal/strconv.uint64pow10" .u64 Lib.pow10Tab):
  A3 S 66 #[E2 .i64 n] w λe f=>e=Y (Ax ⟨(Lib.itoa n).toArray⟩)/\∃k d,f=grow (w.drewN k) d:=Any.strconv_Itoa Tryz.laysM171 n a b w c
end Go.Proofs
namespace Go.Proofs.YthkcmkmkapijkaaGreatDoor
open Go.RowKit Go.Maps Go.WideMaps
def acw(B b n:Nat)(w)(h:B<=b)(c:w.heap[b]?=A0 (Br #[B2 B3,fe] 138 (0,0)))(p:B<=w.heap.size)(k:n<=281474976710656)(o:0<n):
  A3 S 259 #[be b 0,zI n] w λe d=>e=Y (B0 #[])/\BuA B b [] d/\A1 B w d:=by
 have g:(w.setCell (aj b 0)<|be b 0).heap[b]?=A0 (Br #[be b 0,fe] 138 (0,0)):=aD _ b 0 _ _ _ c;have a:A1 B w (w.setCell (aj b 0)<|be b 0):=(ay B w).setCell h _;go_in;go_wp2_with (go_at_call 157;apply(xl b w (by rw[Lib.cell_of_heap c];rfl) (by simp[World.shape?,c])<|Lib.frozen_of_heap c 0).mono;rintro e w1 ⟨rfl,rfl⟩);generalize w.setCell (aj b 0) (be b 0)=f at g a⊢;have m:f.cell? (aj b 1)=A0 fe:=by rw[Lib.cell_of_heap g];rfl
 have q:=a.size;go_region_held3 (λd=>d.cell? (aj b 1)=A0 fe) (go_keep) (fail)
 go_wp2_with (go_at_call 315;apply(Tryz.Builder_grow_fresh B b n f.drew h g (by simpa using O) k).mono;rintro e r ⟨rfl,i,j⟩);all_goals first
  |(rename_i l;rw[du]at l;omega)|skip
 go_end0
 exact⟨R,Lib.BuilderAtF.of i,(⟨a.os,a.tape,a.output,a.size,a.block⟩:A1 B w f.drew).trans j⟩
def Bu(B b:Nat)(a:Bz)(w:V):Prop:=BuF B b (Lib.strCells a) w
def Jt(a b:Bz):Lib.strCells (a++b)=Lib.strCells a++Lib.strCells b:=by
 unfold Lib.strCells;rw[vJ,agp,ej]
def qd(B b)(a s:Bz)(w)(h:Bu B b a w)(i:a.size+s.size<=140737488355328)(g:B<=w.heap.size):
  A3 S 57 #[be b 0,Ax s] w λe c=>e=Y (B0 #[zI s.size,Fs])/\Bu B b (a++s) c/\A1 B w c:=by
 apply(Fh B b _ s w h (by rw[Lib.strCells_length];exact i) g).mono;rintro e c ⟨rfl,d,f⟩;exact⟨R,.inr (by rw[Jt];exact d),f⟩
def AJ(B b a w)(h:Bu B b a w)(g:B<=w.heap.size):
  A3 S 59 #[be b 0] w λe c=>e=Y (Ax a)/\Bu B b a c/\A1 B w c:=by
 apply(Tryz.Builder_String_any_k B b _ w h g).mono;rintro e c ⟨rfl,d,f,_⟩;exact⟨R,d,f⟩
def atB(B)(w:V)(a:B<=w.heap.size):Bu B w.heap.size zE0 (w.alloc<|Br #[B2 B3,fe] 138):=
 .inl ⟨a,fe,au w _,World.ownsRowF_of onN,by simp[A9]⟩
end Go.Proofs.YthkcmkmkapijkaaGreatDoor
namespace Go.Proofs
open Go.Shelf
def Tryz.lays212_ren:B6:=⟨λ|212=>322|263=>353|264=>354|n=>n,λ|46=>265|51=>289|146=>290|53=>40|148=>342|n=>n,λ|n=>n⟩
def Tryz.lays212:Go.Proofs.Lays.n212 S Tryz.lays212_ren:=Tryz.sh
open Go.RowKit Go.Lib in
def Tryz.bits_Mul(x a:Nat)(b:x<18446744073709551616)(c:a<18446744073709551616)(w):
  A3 S 322 #[E2 .u64 x,E2 .u64 a] w λe d=>e=Y (B0 #[E2 .u64 ((x*a / 18446744073709551616:Nat):Int),E2 .u64 ((x*a%18446744073709551616:Nat):Int)])/\d=w:=Any.bits_Mul Tryz.lays212 x a b c w
end Go.Proofs
namespace Go.Proofs.YthkcmkmkapijkaaGreatDoor
open Go.RowKit Go.Maps Go.WideMaps
def awJ:Bz:=⟨#[116,97,114,103,101,116,32]⟩
def yh(q:Nat):Bz:=⟨(B4 [116,97,114,103,101,116,32] q).toArray⟩
def zB(q):(yh q).size=7*q:=by
 have a:(yh q).size=M (B4 [116,97,114,103,101,116,32] q):=by simp[yh,ByteArray.size]
 rw[a,Lib.repeatL_length];simp;omega
def acx(a b):yh (a+b)=yh a++yh b:=by
 apply nK;rw[vJ];show(B4 _<|a+b).toArray=(B4 _ a).toArray++(B4 _ b).toArray;rw[Lib.repeatL_add];simp
def ajf(q d)(h:d<=q):(yh q).extract 0 (7*d)=yh d:=by
 obtain⟨_,rfl⟩:=Nat.exists_eq_add_of_le h;rw[acx];apply nK;rw[ByteArray.data_extract,vJ];have a:(yh d).data.size=7*d:=zB d;rw[<-a];apply Array.ext';simp;apply ci;rw[oG];exact fG _
def aza(ts t x a z c W)(h:(ite (z<(ite (a<x) a x)) z<|ite (a<x) a x)=c):
  (Builtin.min_ ts t #[zI x,zI a,zI z]).run S W= .ok (zI c) W:=by
 rw[<-h];simp[Builtin.min_,Builtin.min2]
def acy(m w)(a7:m+2<=200):
  A3 S 266 #[Ax ⟨#[116,97,114,103,101,116,32]⟩,zI ((m+2:Nat):Int)] w λe v=>e=Y (Ax<|yh<|m+2)/\A1 w.heap.size w v:=by
 have p:=Tryz.bits_Mul 7 (m+2) O O w;rw[Nat.div_eq_of_lt O,Nat.mod_eq_of_lt O]at p;have⟨d,F⟩:=aw<|7*(m+2);rw[F]at p;have y:=ah F;have a8:(d:Int)<=1400:=O;have a9:14<=d:=O;go_in;go_wp2_with (go_at_call 322;apply p.mono;rintro e v ⟨rfl,rfl⟩);obtain⟨a,rfl⟩:∃a,a=v:=⟨_,R⟩;apply(acw _ _ d _ eE (au a _) I O O).mono;rintro e a1 ⟨rfl,an,ar⟩;have a0:A1 a.heap.size a (a.alloc<|Br #[B2 B3,fe] 138):=(ay _ a).alloc O _;have A:=a0.trans ar;have G:=qd _ _ zE0 awJ a1 (.inr an) Z A.size;rw[show(zE0:Bz)++awJ=yh 1 from rfl]at G;go_wp21
 apply G.mono;rintro e H ⟨rfl,al,av⟩;have af:C2 (Bu a.heap.size a.heap.size (yh 1) H/\A1 a.heap.size a H):=⟨al,(ah A).out.trans av⟩;go_wp21
 go_loopg [] (m+1) (λC ad=>∃b:Nat,1<=b/\b+C=m+2/\C2 (Bu a.heap.size a.heap.size (yh b) ad/\A1 a.heap.size a ad))
 .exact⟨1,O,O,af⟩
 .
  obtain⟨b,_,_,g⟩:=hrel;have j:=Tryz.Builder_Len_f _ _ _ wr g.1;rw[Lib.strCells_length,zB]at j;have o:=AJ _ _ _ wr g.1 g.2.size;have⟨f,q⟩:=aw<|7*b;have k:=ah q;rw[q]at j;have⟨n,hS⟩:=aw<|yh b;have l:=ah hS;have ap:n.size=f:=by rw[<-hS,zB,q]
  rw[hS]at o;cases gk with
  |zero=>
   obtain rfl:b=m+2:=O;have ao:¬((f:Int)<(d:Int)):=by have:=y.out;have:=k.out;omega
   go_wp2_with (first|(go_at_call 323;apply j.mono;rintro e a2 ⟨rfl,s⟩;rw[s])|(go_at_call 59;apply o.mono;rintro e K ⟨rfl,z,r⟩));go_ret;exact⟨by rw[l.out];rfl,g.2.trans r⟩
  |succ C=>
   have⟨c,_⟩:=aw<|min (m+2-b) b;have a4:1<=c:=O;have a5:b+c<=m+2:=O;have⟨h,E⟩:=aw<|7*c;have ao:(f:Int)<(d:Int):=by have:=y.out;have:=k.out;omega
   have a3:h<=f:=by have:=k.out;omega
   have a6:∀(u:Array D1)(t:D1)(i:V),(Builtin.min_ u t #[zI<|(d:Int)-(f:Int),zI (f:Int),zI (d:Int)]).run S i= .ok (zI (h:Int)) i:=λu t i=>aza u t _ _ _ _ i O;have x:C2 (7*c=h/\n.extract 0 h=yh c):=⟨E,by rw[<-E,<-l.out];exact ajf b c O⟩;go_wp2_with (first|(go_at_call 323;apply j.mono;rintro e a2 ⟨rfl,s⟩;rw[s])|(go_at_call 59;apply o.mono;rintro e K ⟨rfl,z,r⟩));rw[x.out.2];have B:=g.2.trans r;apply(qd _ _ n _ K z (by rw[ap,zB,x.out.1];omega) B.size).mono;rintro e L ⟨rfl,am,ax⟩;have ak:C2 (Bu a.heap.size a.heap.size (yh<|b+c) L/\A1 a.heap.size a L):=⟨by rw[acx,l.out];exact am,B.trans ax⟩;go_wp21
   go_roundg (m+2-(b+c))
   case measure=>omega
   exact⟨_,O,O,ak⟩
def aeI(n:Nat)(w)(a:n<=200):
  A3 S 266 #[Ax ⟨#[116,97,114,103,101,116,32]⟩,zI (n:Int)] w λe b=>e=Y (Ax ⟨(B4 [116,97,114,103,101,116,32] n).toArray⟩)/\A1 w.heap.size w b:=by
 match n,a with
 |0,_=>
  exact giX blR|1,_=>
  exact giX blR|m+2,a=>exact acy m w a
open Go.Lib (strCells strCells_length wpList_append_own_string)
structure Pg (w0:V) (T:Bz) (W:V):Prop where
 bel:A1 w0.heap.size w0 W
 row:∃(o:A5) (X:Bz) (ov:Bool),W.heap[w0.heap.size]?=A0 (.cells #[o,.bool ov] 79 (0,0))/\W.ownsRow (w0.heap.size+1) 5 1 o X.size (strCells X)/\X.size<=65536/\(T.size<=65536->ov=B1/\X=T)/\(65536<T.size->ov=B7)
def Pg.lt{a b W}(h:Pg a b W):a.heap.size<W.heap.size:=by
 obtain⟨_,_,_,_,_⟩:=h.row;grind
def Pg.below{e b W c}(h:Pg e b W)(a:A1 W.heap.size W c):Pg e b c:=by
 have⟨l,f,m,d,g,i,j,k⟩:=h.row;exact⟨h.bel.trans<|a.mono h.bel.size,l,f,m,(a.block _<|ai d).trans d,cj g a,i,j,k⟩
def L9(a)(f s:Bz)(w)(h:Pg a f w)(a3:s.size<=100000000):
  A3 S 400 #[be a.heap.size 0,Ax s] w λe b=>e=Y (B0 #[])/\Pg a (f++s) b/\Kq a.heap.size w b:=by
 have⟨_,l,r,i,q,F,C,E⟩:=h.row;have G:=h.bel;obtain⟨b,z⟩:∃b,l.size=b:=⟨_,R⟩;rw[z]at q F;obtain⟨m,n,rfl⟩:=aF q;have⟨ak,al,am,an,ao⟩:=dw alt;have af:=ai i;have ap:w.cell? (aj a.heap.size 0)=A0 (A2 m b n):=crV i;have ar:w.cell? (aj a.heap.size 1)=A0 (B9 r):=crV i;have ax:∀K,w.frozen? (aj a.heap.size K)=B1:=λK=>frR i;have H:=acs i Z q;have c:C2 (w.ownsRow (a.heap.size+1) 5 1 (A2 m b n) b (strCells l)/\w.heap[a.heap.size]?=A0 (Br #[A2 m b n,B9 r] 79 (0,0))/\l.size=b/\A1 a.heap.size a w):=⟨q,i,z,G⟩;have t:C2 ((f.size<=65536->r=B1/\l=f)/\(65536<f.size->r=B7)):=⟨C,E⟩;clear q i z h G C E;by_cases a2:b+s.size>65536
 .have ad:((b:Int)+(s.size:Int))>65536:=O;have B:Pg a (f++s) (w.setCell (aj a.heap.size 1)<|B9 B7):=by
   refine⟨c.out.2.2.2.setCell eE _,_,l,B7,aD _ _ 1 _ _ _ c.out.2.1,?_,by rw[c.out.2.2.1];exact F,λd=>?_,λ_=>rfl⟩
   .rw[c.out.2.2.1];exact c.out.1.kept ⟨R,R,R,byS,λk o p=>jg (λe=>p (by rw[e]))⟩ (by
     grind)
   .rw[az]at d;obtain⟨_,g⟩:=t.out.1 O;have:=c.out.2.2.1;grind
  go_enter func400,ntmps400;go_wp21
  exact aA (fE R _ _ _) R ⟨R,B,Kq.putP _ _ _ _⟩
 .have ad:¬((b:Int)+(s.size:Int))>65536:=O;go_enter func400,ntmps400;go_wp2_with (at_builtin;apply wpList_append_own_string _ R _ _ _ 9 R _ 5 ak underlying22 underlying9 al am an ao _ _ _ R c.out.1 s R byM O O;intro _ v A j _;obtain⟨x,y,rfl⟩:=aF A;have u:=(j.block _ af (λe=>(H _ e.symm).1 R)).trans c.out.2.1;have a4:v.cell? (aj a.heap.size 0)=A0 (A2 m b n):=(crV u);have a0:v.frozen? (aj a.heap.size 0)=B1:=frR u);have B:Pg a (f++s) (v.setCell (aj a.heap.size 0)<|A2 x (b+s.size) y):=by
   refine⟨(c.out.2.2.2.grown j O (λk o=>by have:=(H k o).2;omega)).setCell eE _,_,l++s,r,aD _ _ 0 _ _ _ u,?_,by rw[az,c.out.2.2.1];omega,λd=>?_,λd=>?_⟩
   .rw[az,c.out.2.2.1,CC];exact A.kept ⟨R,R,R,byS,λk o p=>jg (λe=>p (by rw[e]))⟩ (by
     cases hv:(D2 x (b+s.size) y).ownBlock with
     |none=>grind|some L=>exact .inr (λe=>by cases e;exact(acs u Z A _ hv).1 R))
   .rw[az]at d;obtain⟨_,g⟩:=t.out.1 O;grind
   .rw[az]at d;by_cases L:f.size<=65536
    .have⟨_,g⟩:=t.out.1 L;have:=c.out.2.2.1;grind
    .exact t.out.2 O
  have a1:Kq a.heap.size w (v.setCell (aj a.heap.size 0)<|A2 x (b+s.size) y):=by
   refine⟨j.os,j.tape,j.output,by simp[World.setCell];exact j.size,λk o p _=>?_⟩;rw[jg p];refine j.block k o (λe=>?_);have g:(D2 m b n).ownBlock=A0 k:=e.symm;obtain⟨d,_⟩|⟨L,_,_,d,_,_,_⟩:=c.out.1.2
   .rw[d]at g;simp[A9]at g
   .rw[d]at g;obtain rfl:L=k:=by simpa [A9] using g
    grind
  go_end0
  grind
def th(a:V)(t:Nat):A5:=E3 #[be a.heap.size 0,Ax<|gB t]
def kH(a:V)(t:Nat):A5:= .iface 84 (th a t)
def sr(b)(s:Bz)(w):(method 520 84 (E3 #[be b 0,Ax s]) "loop.example/warp/impl.put").run S w= .ok (403,E3 #[be b 0,Ax s]) w:=J
def aaa(b)(s:Bz)(w):(method 520 84 (E3 #[be b 0,Ax s]) "loop.example/warp/impl.newLine").run S w= .ok (402,E3 #[be b 0,Ax s]) w:=J
def agI(b)(s:Bz)(w):(method 520 84 (E3 #[be b 0,Ax s]) "loop.example/warp/impl.inner").run S w= .ok (401,E3 #[be b 0,Ax s]) w:=J
def ap3(a t)(b s:Bz)(w)(h:Pg a b w)(i:s.size<=100000000):
  A3 S 403 #[th a t,Ax s] w λe c=>e=Y (B0 #[])/\Pg a (b++s) c/\Kq a.heap.size w c:=by
 have c:=λk=>(ay _ w).alloc eE k;have d:=ah (λf g=>L9 a b s f (h.below g) i);unfold th;generalize gB t=l;clear h;go_enter func403,ntmps403;go_wp2_with (go_at_call 400;apply(d.out _<|c _).mono;rintro e _ ⟨rfl,p2,j⟩);go_end0
 exact⟨R,p2,(Kq.of_below<|c _).trans j⟩
def acz(a t)(l:t<=1000000)(c w)(h:Pg a c w):
  A3 S 402 #[th a t] w λe b=>e=Y (B0 #[])/\Pg a (c++gA t) b/\Kq a.heap.size w b:=by
 have d:=λk=>(ay _ w).alloc eE k;have b:=ah (λf g=>L9 a c (gA t) f (h.below g) (by rw[so];omega));have i:=rF t;unfold th;unfold gA at b⊢;generalize gB t=m at b i;clear h;go_enter func402,ntmps402;go_wp2_with (go_at_call 400;apply(b.out _<|d _).mono;rintro e _ ⟨rfl,p2,j⟩);go_end0
 exact⟨R,p2,(Kq.of_below<|d _).trans j⟩
def ajg(b t)(g:t<=1000000)(w):
  A3 S 401 #[th b t] w λe a=>e=Y (kH b<|t+1)/\A1 w.heap.size w a:=by
 have f:=λd=>(ay _ w).alloc eE d;have c:=rF t;have a:gB (t+1)=gB t++⟨#[9]⟩:=rfl;unfold kH th;rw[a];generalize gB t=h at c;clear a;go_enter func401,ntmps401;go_wp2;go_ret
 simp_all
end Go.Proofs.YthkcmkmkapijkaaGreatDoor
namespace Go.Proofs.YthkcmkmkapijkaaGreatDoor
open Go.RowKit Go.Maps Go.WideMaps
def uk(a:Nat)(W:V)(v:A5)(xs:zLB):Prop:=W.ownsRow a 9 1 v (M xs)<|xs.map E1
def uk.below{b W a v xs}(h:uk b W v xs)(c:A1 W.heap.size W a):uk b a v xs:=cj h c
def yi:(S.info? 9).map (λi=>(i.zero,i.size,i.bytes))=A0 (A0 nh,1,16):=J
def Fi{w a v n}{xs:zLV}(e c)(d:w.ownsRow a 9 1 v n xs):
  (Builtin.append_ #[34,34] e #[v,A2 B3 0 c]).run S w= .ok v w:=by
 have⟨_,_,_,_,_⟩:=dw yi;obtain⟨rfl,rfl⟩|⟨_,_,_,rfl,_,_,b,_⟩:=d.2
 .simp[Builtin.append_,Builtin.lenOf,Builtin.firstCells]
 .simp[Builtin.append_,Builtin.lenOf,Builtin.firstCells,b,storeCells]
def agJ:∀(l:zLB),∀u∈l.map E1,u.oneCell'=B7:=λl u a=>by
 obtain⟨_,_,rfl⟩:=rm.1 a;rfl
def qe{w m n o a Q}(A:o.guard=B3)(s x)
  (B:o.op= .call {callee:= .builtin .append,args:=#[s,x],argTypes:=#[34,34]}) (f) (v) (xs) (E:a.eval s=v)
  (af:uk f w v xs) (z:f<=w.heap.size) (b) (d) (u:a.eval x=b) (L:bv w b d) (i:M xs<=4194304) (c:M d<=4194304) (r) (t:M xs+M d=r)
  (h:∀e g w1,uk f w1 (A2 e r g) (xs++d)->A1 f w w1->wpList S m Q n (a.put o.dst<|A2 e r g) w1):
  wpList S m Q (o::n) a w:=by
 subst t;have⟨an,H,ak,al,am⟩:=dw yi;have i:=af;have ap:∀b,a.eval x=A2 B3 0 b->d=[]->wpList S m Q (o::n) a w:=λb y k=>by
  subst k;obtain⟨e,g,rfl⟩:=aF i;refine wpList_plain A λ_ c=>?_;have t:=Fi o.type b i;unfold Oper.wp execOp;simp[B,resolve,invoke,builtin,E,y,t];exact c _ _<|h e g w (by rw[fp];exact i) blR
 have F:∀c b,a.eval x=A2 (A0 c) (M d) b->(∀l p,d[l]?=A0 p->w.cell? (c.add l)=A0 (Ax p))->wpList S m Q (o::n) a w:=λc b y q=>by
  refine wpList_append_own_at _ A s x _ B f 9 an _ 1 _ underlying34 H ak al am R Z v _ _ E i c _ b _ y I (λl p j=>?_) (agJ d) byM O z ?_
  .rw[cJ]at j;obtain⟨G,C,rfl⟩:=Option.map_eq_some_iff.1 j;exact q l G C
  .intro _ w1 C G _ _;obtain⟨e,g,rfl⟩:=aF C;exact h e g w1 (by unfold uk;rw[aG,ej];exact C)<|(ay f w).grown G z (λao K=>(i.lt ao K).1)
 obtain⟨k,c,b,e⟩|⟨c,b,e,q⟩:=L
 .cases c with
  |none=>exact ap b (u.trans e) k|some c=>exact F c b (by rw[u,e,k];rfl) (λl p j=>by rw[k]at j;simp at j)
 .exact F c b (u.trans e) q
def agK{w an o a K Q E}(q:o.guard=B3)(s x)
  (A:o.op= .call {callee:= .builtin .append,args:=#[s,x],argTypes:=#[34,34]}) (b) (v) (xs) (G:a.eval s=v)
  (C:uk b w v xs) (i:b<=w.heap.size) (f) (m c) (e:zLB) (H:a.eval x=A2 (A0 f) m c) (k:M e=m) (p:∀j u,e[j]?=A0 u->w.cell? (f.add j)=A0 (Ax u)) (n:M xs<=4194304) (z:0<m) (l:m<=4194304) (r) (F:M xs+m=r)
  (h:∀g d w1,uk b w1 (bI g r d) (xs++e)->A1 b w w1->K (a.put o.dst<|bI g r d) w1):
  ite (Region.wanted o (yielded an a.tmps)=B7) (Oper.wp S o a w K Q) E:=by
 subst F;have⟨al,t,L,af,ak⟩:=dw yi;have D:=C;refine step_append_lies _ q s x _ A b 9 al _ 1 _ underlying34 t L af ak R Z v _ _ G D f m c _ H (by simp[k]) (λj u n=>?_) (agJ e) z byM O i _ R ?_
 .rw[cJ]at n;obtain⟨B,y,rfl⟩:=Option.map_eq_some_iff.1 n;exact p j B y
 .intro g d w1 B p _ _;subst k;exact h g d w1 (by rw[uk,aG,ej];exact B)<|(ay b w).grown p i (λam y=>(D.lt am y).1)
def acA(w:V)(s t:Bz):∀(j:Nat) u,[s,t][j]?=A0 u->(w.alloc<|Br #[Ax s,Ax t] 9).cell? ((⟨w.heap.size,0,B3⟩:Addr).add j)=A0 (Ax u):=λj u a=>by
 have b:=au w<|Br #[Ax s,Ax t] 9
 match j,a with
 |0,a=>
  simp at a;subst a;show(w.alloc _).cell? ⟨w.heap.size,0+0,B3⟩=_;rw[oe b];rfl|1,a=>
  simp at a;subst a;show(w.alloc _).cell? ⟨w.heap.size,0+1,B3⟩=_;rw[oe b];rfl|j+2,a=>simp at a
def CD(w:V)(s:Bz):bv (w.alloc<|Br #[Ax s] 9) (bI w.heap.size 1 1) [s]:=
 .inr ⟨_,_,R,λj _ a=>by
  match j,a with
  |0,a=>
   simp at a;subst a;show(w.alloc _).cell? ⟨w.heap.size,0+0,B3⟩=_;rw[oe<|au w _];rfl|j+1,a=>simp at a⟩
