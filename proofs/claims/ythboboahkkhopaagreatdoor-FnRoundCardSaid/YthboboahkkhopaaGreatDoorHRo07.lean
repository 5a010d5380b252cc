import Derived.Test.YthboboahkkhopaaGreatDoorHRo02
import Derived.Test.YthboboahkkhopaaGreatDoorHRo04
set_option linter.all false
set_option maxRecDepth 100000
set_option maxHeartbeats 3200000
open Go.Proofs.Tryz
open Option renaming some->O,none->R
open Go renaming World->Q,Value->Ax,Calls->B1
open Go.Proofs.Tryz renaming prog->S
open Go.Value renaming slice->U,string->V,int->Y,ownBlock->A0,pointer->A5,tuple->B2,slice->B4,bool->B6,agg->B7,string->Ce,int->Ck
open Go.IntKind renaming i64->Z
open Go.World renaming setCell->A2
open Go.Ending renaming returned->A9
open Bool renaming false->Br,true->B3
open ByteArray renaming empty->B0
namespace Go.Proofs.YthboboahkkhopaaGreatDoor
open Go.RowKit
variable{T:ByteArray}{W w w0 y:World}{b base n:Nat}{v vt:Value}{xs:List Value}
def mG{B:Nat}{a:Q}(h:Below B a w)(n:Nat):Below B a (w.drewN n):=⟨h.os,h.tape,h.output,h.size,h.block⟩
def aw{B:Nat}{a:Q}(h:Below B a w):Below B a w.drew:=⟨h.os,h.tape,h.output,h.size,h.block⟩
def cg{e size:Nat}(h:W.ownsRow base e size v n xs):∃a b,v= U a n b:=by
 rcases h.2 with⟨rfl,c⟩|⟨f,b,d,rfl,_⟩
 .exact⟨R,0,by rw[c]⟩
 .exact⟨_,_,rfl⟩
def pq(w:Q)(b:Option Nat):w.grownBy w b:=⟨rfl,rfl,rfl,af _,λ_ _ _=>rfl⟩
def jL(h:w0.grownBy w (O b))(i:Nat)(v:Ax):w0.grownBy (w.setCell ⟨b,i,R⟩ v) (O b):=
 ⟨h.os,h.tape,h.output,by simpa [A2] using h.size,λe d a=>by rw[aC _ _ _ _ (λc=>a (by rw[c]))];exact h.block e d a⟩
def Au{x z:Q}{b:Option Nat}(h:x.grownBy y b)(k:y.grownBy z b):x.grownBy z b:=
 ⟨k.os.trans h.os,k.tape.trans h.tape,k.output.trans h.output,di h.size k.size,λd a c=>(k.block d (iu a h.size) c).trans (h.block d a c)⟩
def Av{x:Q}(b:Option Nat)(h:be x y):x.grownBy y b:=⟨h.os,h.tape,h.output,h.size,λc a _=>h.block c a⟩
def bJ{e size:Nat}(h:W.ownsRow base e size v n xs):(n=0/\v= U R 0 0)\/∃g a,v= U (O ⟨g,0,R⟩) n a:=by
 rcases h.2 with⟨rfl,b⟩|⟨g,a,c,rfl,_⟩
 .exact .inl ⟨b,rfl⟩
 .exact .inr ⟨_,_,rfl⟩
def K6:(Tryz.prog.info? 61).map (λi=>(i.zero,i.size,i.bytes))=O (O (B7 #[Y Z 0,Y Z 0,Y Z 0,Y Z 0,Y Z 0,Y Z 0,V ⟨#[]⟩,U R 0 0,U R 0 0]),9,112):=by kernel_rfl
def aeF{h i c d r s e f g n2 j k:Nat}{t u:List Ax}(m:W.ownsRow h c r (U (O ⟨e,0,R⟩) g j) g t)(n:W.ownsRow i d s (U (O ⟨f,0,R⟩) n2 k) n2 u)(o:c≠d):e≠f:=by
 rintro rfl;rcases m.2 with⟨a,_⟩|⟨z,v,x,a,_,p,_⟩
 .cases a
 .cases a;rcases n.2 with⟨a,_⟩|⟨A,w,y,l,_,q,_⟩
  .cases a
  .cases l;have b:=p.symm.trans q;simp only[fI,nH]at b;exact o b.2.1
def aeG(g m:Nat):(⟨g,0,R⟩:Addr).add m=⟨g,m,R⟩:=by unfold Addr.add;split<;>simp_all
structure Mb where
 N:Nd
 vn:Ax
 vk:Ax
def J9(x:Mb):List Ax:=[Y Z x.N.k,Y Z x.N.f,Y Z x.N.t,Y Z x.N.l,Y Z x.N.op,Y Z x.N.n,V x.N.x,x.vn,x.vk]
def im(l:List Mb):List Ax:=l.flatMap J9
def sL(a:Mb)(r:List Mb):im (a::r)=J9 a++im r:=by simp[im]
def tg(a b:List Mb):im (a++b)=im a++im b:=by simp[im]
def yL(l:List Mb):(im l).length=l.length*9:=by
 induction l with
 |nil=>rfl
 |cons a d b=>
  have c:(J9 a).length=9:=rfl;rw[sL,bm,b,c,bB];omega
def za(ts:List Mb)(i j:Nat)(T:Mb)(a:ts[i]?=O T)(e:j<9):(im ts)[i*9+j]?=(J9 T)[j]?:=by
 induction ts generalizing i with
 |nil=>simp at a
 |cons b f c=>
  have d:(J9 b).length=9:=rfl;rw[sL];cases i with
  |zero=>simp at a;subst a;rw[gq (by omega)];congr 1;omega
  |succ i=>
   rw[dE (by omega),d,show(i+1)*9+j-9=i*9+j by omega];exact c i (by simpa using a)
def Gw(e:List Ax):Prop:=∀(c d:Nat)(a b:Ax),c≠d->e[c]?=O a->e[d]?=O b->a.ownBlock=R\/a.ownBlock≠b.ownBlock
structure DI (W:Q) (lo hi:Nat) (x:Mb):Prop where
 on:W.ownsRow lo 9 1 x.vn x.N.nm.length (x.N.nm.map Ce)
 ok:W.ownsRow lo 3 1 x.vk x.N.ks.length (x.N.ks.map (Ck .i64))
 hn:∀g,x.vn.ownBlock=O g->g<hi
 hk:∀g,x.vk.ownBlock=O g->g<hi
structure abj (W:Q) (lo hi:Nat) (v:Ax) (L:List Mb):Prop where
 row:W.ownsRow lo 61 9 v L.length (im L)
 hh:∀g,v.ownBlock=O g->g<hi
 each:∀x∈L,DI W lo hi x
 dn:Gw (L.map Mb.vn)
 dk:Gw (L.map Mb.vk)
def Gx{l:List ByteArray}(h:W.ownsRow base 9 1 v l.length (l.map Ce)):bi W v l:=by
 rcases bJ h with⟨a,rfl⟩|⟨c,b,rfl⟩
 .exact .inl ⟨jb a,_,_,rfl⟩
 .exact agk h rfl
def Gy{l:List Int}(h:W.ownsRow base 3 1 v l.length (l.map (Ck Z))):dh W v l:=by
 rcases bJ h with⟨a,rfl⟩|⟨c,b,rfl⟩
 .exact .inl ⟨jb a,_,_,rfl⟩
 .exact agl h rfl
def th{lo g d:Nat}{L:List Mb}(h:W.ownsRow lo 61 9 (U (O ⟨g,0,R⟩) n d) n (im L)){i:Nat}{x:Mb}(c:L[i]?=O x):
  W.cell? ⟨g,i*9,R⟩=O (Y Z x.N.k)/\W.cell? ⟨g,i*9+1,R⟩=O (Y Z x.N.f)/\W.cell? ⟨g,i*9+2,R⟩=O (Y Z x.N.t)/\W.cell? ⟨g,i*9+3,R⟩=O (Y Z x.N.l)/\W.cell? ⟨g,i*9+4,R⟩=O (Y Z x.N.op)/\W.cell? ⟨g,i*9+5,R⟩=O (Y Z x.N.n)/\W.cell? ⟨g,i*9+6,R⟩=O (V x.N.x)/\W.cell? ⟨g,i*9+7,R⟩=O x.vn/\W.cell? ⟨g,i*9+8,R⟩=O x.vk:=by
 have m:n*9=L.length*9:=by have:=h.1;rw[yL]at this;omega
 have j:i<L.length:=by rcases bI i L.length with g|g;exact g;rw[jp g]at c;cases c
 have a:∀b,b<9->W.cell? ⟨g,i*9+b,R⟩=(J9 x)[b]?:=λb e=>by
  rw[h.cellAt (i*9+b) (by omega),za L i b x c e]
 exact⟨a 0 (by omega),a 1 (by omega),a 2 (by omega),a 3 (by omega),a 4 (by omega),a 5 (by omega),a 6 (by omega),a 7 (by omega),a 8 (by omega)⟩
def nxt(a:Nat)(N:Nd):Nat:=a+7+N.nm.length+N.ks.length
def cnt:Nat->List Nd->Nat
 |K,[]=>K
 |K,N::r=>cnt (nxt K N) r
def agC(A B:List Nd):∀a,cnt a (A++B)=cnt (cnt a A) B:=by
 induction A with
 |nil=>intro a;rfl
 |cons d c b=>intro a;simp[cnt,b]
def lE{g h b c m n l n2:Nat}{a f:Ax}{o p:List Ax}(d:W.ownsRow g b m a l o)(e:W.ownsRow h c n f n2 p)(j:b≠c):a.ownBlock=R\/a.ownBlock≠f.ownBlock:=by
 rcases bJ d with⟨k,rfl⟩|⟨s,q,rfl⟩
 .exact .inl rfl
 .rcases bJ e with⟨k,rfl⟩|⟨t,r,rfl⟩
  .exact .inr (by simp[A0])
  .exact .inr λi=>aeF d e j (by simpa [A0] using i)
open Go.Lib (strCells strCells_length wpList_append_own_string)
def agD:(Tryz.prog.info? 5).map (λi=>(i.zero,i.size,i.bytes))=O (O (Y .u8 0),1,1):=by kernel_rfl
def zb(a b:ByteArray):strCells (a++b)=strCells a++strCells b:=by
 unfold strCells;rw[show(a++b).data=a.data++b.data from lm];simp
structure Kq (b:Nat) (w w':Q):Prop where
 os:w'.os=w.os
 tape:w'.tape=w.tape
 output:w'.output=w.output
 size:w.heap.size<=w'.heap.size
 block:∀k,k<w.heap.size->k≠b->(∀cs fr,w.heap[k]?≠O (.cells cs 5 fr))->w'.heap[k]?=w.heap[k]?
def Kq.refl(b:Nat)(w:Q):Kq b w w:=⟨rfl,rfl,rfl,af _,λ_ _ _ _=>rfl⟩
def Kq.trans{x z:Q}(h:Kq b x y)(k:Kq b y z):Kq b x z:=
 ⟨k.os.trans h.os,k.tape.trans h.tape,k.output.trans h.output,di h.size k.size,λe c d a=>
  (k.block e (iu c h.size) d (λf g=>by rw[h.block e c d a];exact a f g)).trans (h.block e c d a)⟩
def Kq.of_below{w':Q}(h:be w w'):Kq b w w':=⟨h.os,h.tape,h.output,h.size,λc a _ _=>h.block c a⟩
structure Pr (w0:Q) (vt:Ax) (T:ByteArray) (tab:Int) (W:Q):Prop where
 bel:be w0 W
 row:∃o,W.heap[w0.heap.size]?=O (.cells #[vt,o,.int .i64 tab] 57 (0,0))/\W.ownsRow (w0.heap.size+1) 5 1 o T.size (strCells T)
def Pr.lt{tab:Int}(h:Pr w0 vt T tab W):w0.heap.size<W.heap.size:=by
 have⟨c,a,b⟩:=h.row;exact ai a
def Pr.below{tab:Int}{b:Q}(h:Pr w0 vt T tab W)(a:be W b):Pr w0 vt T tab b:=by
 have⟨e,c,d⟩:=h.row;exact⟨h.bel.trans (a.mono h.bel.size),e,(a.block _ (ai c)).trans c,de d a⟩
def K8{p:Nat}{o:Ax}{cs:Array Ax}{t:TypeId}{fr:Nat×Nat}(c:W.heap[p]?=O (.cells cs t fr))(ht:t≠5)(d:W.ownsRow base 5 1 o n xs)(g:Nat)(a:o.ownBlock=O g):g≠p/\base<=g:=by
 refine⟨?_,(d.lt g a).1⟩;rintro rfl;rcases d.2 with⟨b,_⟩|⟨e,h,i,b,_,f,_⟩
 .rw[b]at a;simp[A0]at a
 .rw[b]at a;obtain rfl:e=g:=by simpa [A0] using a
  rw[f]at c;cases c;exact ht rfl
def Pr.put{g:Ax}{d:Int}(e:be w0 W)(b:W.heap[w0.heap.size]?=O (.cells #[vt,g,Y Z d] 57 (0,0))){o:Ax}(c:W.ownsRow (w0.heap.size+1) 5 1 o T.size (strCells T)):Pr w0 vt T d (W.setCell ⟨w0.heap.size,1,R⟩ o):=
 ⟨e.setCell (af _) _,o,bg _ _ 1 _ _ _ b,c.kept (row:=O w0.heap.size) ⟨rfl,rfl,rfl,by simp[A2],λj i f=>aC _ _ _ _ (λa=>f (by rw[a]))⟩ (by
  cases hv:o.ownBlock with
  |none=>exact .inl rfl
  |some h=>exact .inr (λa=>by cases a;exact(K8 b (by decide) c _ hv).1 rfl))⟩
def Pr.putTab{g:Int}(h:Pr w0 vt T g W)(e:Int):Pr w0 vt T e (W.setCell ⟨w0.heap.size,2,R⟩ (Y Z e)):=by
 have⟨d,b,c⟩:=h.row;exact⟨h.bel.setCell (af _) _,d,bg _ _ 2 _ _ _ b,c.kept (row:=O w0.heap.size) ⟨rfl,rfl,rfl,by simp[A2],λk j f=>aC _ _ _ _ (λa=>f (by rw[a]))⟩ (by
  cases hv:d.ownBlock with
  |none=>exact .inl rfl
  |some i=>exact .inr (λa=>by cases a;exact(K8 b (by decide) c _ hv).1 rfl))⟩
def Kq.putP(b:Nat)(W:Q)(i:Nat)(v:Ax):Kq b W (W.setCell ⟨b,i,R⟩ v):=
 ⟨rfl,rfl,rfl,by simp[A2],λd c a _=>aC _ _ _ _ a⟩
def Pr.cells{tab:Int}(h:Pr w0 vt T tab W):W.cell? ⟨w0.heap.size,0,R⟩=O vt/\W.cell? ⟨w0.heap.size,2,R⟩=O (Y Z tab)/\∀j,W.frozen? ⟨w0.heap.size,j,R⟩=Br:=by
 have⟨c,a,b⟩:=h.row;exact⟨by rw[aj _ _ _ _ _ _ a];rfl,by rw[aj _ _ _ _ _ _ a];rfl,λj=>cC _ _ _ _ _ a⟩
def gK(a:Q)(q:Ax)(T s:ByteArray)(tab:Int)(w:Q)(h:Pr a q T tab w)(F:T.size+s.size<=140737488355328):
  B1 S 20 #[A5 (O ⟨a.heap.size,0,R⟩),V s] w λe w'=>e= A9 (B2 #[])/\Pr a q (T++s) tab w'/\Kq a.heap.size w w':=by
 have⟨ar,i,j⟩:=h.row;have C:=h.bel;have⟨f,u⟩:=aJ T.size;rw[u]at j F;obtain⟨l,m,rfl⟩:=cg j;have⟨I,J,K,L,ad⟩:=eu agD;have G:=ai i;have ak:w.cell? ⟨a.heap.size,1,R⟩=O (U l f m):=by rw[aj _ _ _ _ _ _ i];rfl
 have v:=K8 i (by decide) j;have c:=Dl j i u C;go_in;go_wp2_with (at_builtin;refine wpList_append_own_string _ rfl _ _ 22 9 rfl (a.heap.size+1) 5 I underlying22 underlying9 J K L ad _ _ _ rfl c.1 s rfl (by unfold maxLen;omega) (by omega) (by omega) ?_;intro au k x b ap;obtain⟨r,t,rfl⟩:=cg x;have o:=(b.block _ G (λe=>(v _ e.symm).1 rfl)).trans c.2.1;have ax:k.cell? ⟨a.heap.size,1,R⟩=O (U l f m):=(by rw[aj _ _ _ _ _ _ o];rfl);have ao:k.frozen? ⟨a.heap.size,1,R⟩=Br:=cC _ _ _ _ _ o);have z:Pr a q (T++s) tab (k.setCell ⟨a.heap.size,1,R⟩ (U r (f+s.size) t)):=Pr.put (c.2.2.2.grown b (by omega) (λd p=>by have:=(v d p).2;omega)) o (by rw[aq,c.out.2.2.1,zb];exact x);have y:Kq a.heap.size w (k.setCell ⟨a.heap.size,1,R⟩ (U r (f+s.size) t)):=by
  refine⟨b.os,b.tape,b.output,by simp[A2];exact b.size,λd p H E=>?_⟩;rw[aC _ _ _ _ H];refine b.block d p (λe=>?_);have g:(B4 l f m).ownBlock=O d:=e.symm;rcases c.1.2 with⟨n,_⟩|⟨A,al,an,n,_,B,_⟩
  .rw[n]at g;simp[A0]at g
  .rw[n]at g;obtain rfl:A=d:=by simpa [A0] using g
   exact E _ _ B
 go_end0
 exact⟨rfl,z,y⟩
end Go.Proofs.YthboboahkkhopaaGreatDoor
namespace Go.Proofs.YthboboahkkhopaaGreatDoor
open Go.RowKit
variable{T:ByteArray}{W w w0 y:World}{b base n:Nat}{v vt:Value}{xs:List Value}
def gx:Nat->ByteArray
 |0=>B0
 |n+1=>gx n++⟨#[9]⟩
def fD(t:Nat):ByteArray:=⟨#[10]⟩++gx t
def qr:∀t,(gx t).size=t
 |0=>rfl
 |t+1=>by rw[gx,aq,qr t];rfl
def nj(t:Nat):(fD t).size=t+1:=by rw[fD,aq,qr];show 1+t=_;omega
def dH:ByteArray:=⟨#[44,32]⟩
def B5(a:Bool×ByteArray)(x:ByteArray):Bool×ByteArray:=(B3,(if a.1=B3 then a.2++dH else a.2)++x)
def K9(l:List ByteArray):Bool×ByteArray:=l.foldl B5 (Br,B0)
def bK(l:List ByteArray):ByteArray:=(K9 l).2
def Aw(l:List ByteArray)(x:ByteArray):K9 (l++[x])=B5 (K9 l) x:=by unfold K9;rw[List.foldl_append];rfl
def La:∀l:List ByteArray,(K9 l).1=!l.isEmpty:=by
 intro l;rcases List.eq_nil_or_concat l with rfl|⟨a,b,rfl⟩
 .rfl
 .rw[List.concat_eq_append,Aw];unfold B5;simp
def qu(l:List ByteArray)(k:Nat)(x:ByteArray)(f:l[k]?=O x):bK (l.take (k+1))=(if k=0 then bK (l.take k) else bK (l.take k)++dH)++x:=by
 obtain⟨b,e⟩:=List.getElem?_eq_some_iff.1 f;have d:l.take (k+1)=l.take k++[x]:=by rw[List.take_succ_eq_append_getElem b,e]
 unfold bK;rw[d,Aw];unfold B5;simp only;rw[La];by_cases a:k=0
 .subst a;simp
 .rw[aa a,ae];cases l with
  |nil=>simp at b
  |cons g h=>obtain⟨c,rfl⟩:∃c,k=c+1:=⟨k-1,by omega⟩;simp
def agE(l:List ByteArray)(k:Nat):(bK (l.take k)).size<=(bK (l.take (k+1))).size:=by
 by_cases a:k<l.length
 .rw[qu l k _ (az a),aq];split
  .omega
  .rw[aq];omega
 .rw[cj (by omega),cj (by omega)];exact af _
def C1(l:List ByteArray)(k:Nat):(bK (l.take k)).size<=(bK l).size:=by
 have b:∀a,(bK (l.take k)).size<=(bK (l.take (k+a))).size:=by
  intro a
  induction a with
  |zero=>exact af _
  |succ a c=>exact di c (agE l (k+a))
 have:=b l.length
 rwa [cj (show l.length<=k+l.length by omega)]at this
def Lb(b:Q)(d:Ax)(T:ByteArray)(t:Nat)(w:Q)(h:Pr b d T t w)(ht:t<=1000000)(q:T.size+(t+1)<=140737488355328):
  B1 S 130 #[A5 (O ⟨b.heap.size,0,R⟩)] w λe w'=>e= A9 (B2 #[])/\Pr b d (T++fD t) t w'/\Kq b.heap.size w w':=by
 have i:=am h;go_in;go_wp2_with (go_at_call 20;refine(gK b d T _ _ _ i (by show T.size+1<=_;omega)).mono ?_;rintro e w1 ⟨rfl,l,j⟩);have g:=iK l j;go_loopw [2] (λf wr=>∃a:Nat,a<=t/\f= Y Z a/\Hid (Pr b d (T++(⟨#[10]⟩++gx a)) t wr/\Kq b.heap.size w wr)) (λf _=>t-(intOf f).toNat)
 case atStart=>exact⟨0,by omega,rfl,by rw[show(⟨#[10]⟩:ByteArray)++gx 0=⟨#[10]⟩ from rfl];exact g⟩
 case round=>
  obtain⟨a,p,rfl,c⟩:=hrel;have⟨m,n,o⟩:=c.1.cells;by_cases r:a<t
  .go_wp2_with (go_at_call 20;refine(gK b d _ _ _ _ c.1 (by rw[aq,aq,qr];show T.size+(1+a)+1<=_;omega)).mono ?_;rintro e s ⟨rfl,p2,k⟩);refine⟨⟨a+1,by omega,by go_num,?_⟩,by simp[intOf];omega⟩;refine⟨?_,c.2.trans k⟩;rw[show T++((⟨#[10]⟩:ByteArray)++gx (a+1))=T++(⟨#[10]⟩++gx a)++⟨#[9]⟩ by rw[gx,aK,aK]];exact p2
  .obtain rfl:a=t:=by omega
   go_wp21
   go_end0
   exact⟨rfl,c.1,c.2⟩
def aeH(b:Q)(d A:Ax)(l:List ByteArray)(T:ByteArray)(t:Int)(w:Q)(h:Pr b d T t w)(y:bi b A l)(I:l.length<=1048576)(an:T.size+(bK l).size<=140737488355328):
  B1 S 78 #[A5 (O ⟨b.heap.size,0,R⟩),A] w λe w'=>e= A9 (B2 #[])/\Pr b d (T++bK l) t w'/\Kq b.heap.size w w':=by
 have n:=iK h y;obtain⟨L,ad,rfl⟩:=y.form;have⟨k,x⟩:=aJ l.length;rw[x]at I n⊢;have u:=am x;go_in;go_wp21
 go_loopw [8] (λo wr=>∃a:Nat,a<=k/\o= Y Z a/\Hid (Pr b d (T++bK (l.take a)) t wr/\Kq b.heap.size w wr)) (λo _=>k-(intOf o).toNat)
 case atStart=>exact⟨0,by omega,rfl,by rw[show T++bK (l.take 0)=T from ByteArray.append_empty];exact n.1,Kq.refl _ _⟩
 case round=>
  obtain⟨a,al,rfl,c⟩:=hrel;by_cases H:a<k
  .obtain⟨m,z⟩:=cA u.out H;obtain⟨B,rfl,C⟩:=(n.2.below c.1.bel).get z;have F:=qu l a m z;have G:=C1 l (a+1);have i:=iK F G;by_cases v:a=0
   .subst v;have g:bK (l.take (0+1))=bK (l.take 0)++m:=by rw[i.out.1,ae rfl]
    have j:=i.2;rw[g,aq]at j;have f:=am g;have ak:wr.cell? B=O (V m):=by simpa [Addr.add] using C
    go_wp2_with (go_at_call 20;refine(gK b d _ _ _ _ c.1 (by rw[aq];omega)).mono ?_;rintro e q ⟨rfl,p2,p⟩);refine⟨⟨1,by omega,by go_num,?_,c.2.trans p⟩,by simp[intOf];omega⟩;rw[show(1:Nat)=0+1 from rfl,f.out,<-aK];exact p2
   .have g:bK (l.take (a+1))=bK (l.take a)++dH++m:=by rw[i.out.1,aa v]
    have j:=i.2;rw[g,aq,aq]at j;have E:dH.size=2:=rfl;have f:=mo g j E;go_wp21
    refine(gK b d _ _ _ _ c.1 (by have:=f.2;rw[aq];show _+dH.size<=_;omega)).mono ?_;rintro e q ⟨rfl,p2,p⟩;have r:Hid (Pr b d (T++bK (l.take a)++dH) t q/\Kq b.heap.size wr q):=⟨p2,p⟩;go_wp21
    refine(gK b d _ _ _ _ r.1 (by have:=f.2;rw[aq,aq];omega)).mono ?_;rintro e ao ⟨rfl,K,J⟩;have s:=iK K J;go_wp21
    refine⟨⟨a+1,by omega,by go_num,?_,(c.2.trans r.2).trans s.2⟩,by simp[intOf];omega⟩;rw[f.out.1,<-aK,<-aK];exact s.1
  .obtain rfl:a=k:=by omega
   go_wp21
   go_end0
   refine⟨rfl,?_,c.2⟩;have:=c.1
   rwa [cj (by rw[u.out];exact af _)]at this
def qL(op:Int):Int×Int:=
 if 13<=op/\op<=18 then(3,4) else if op=12 then(4,4) else if op=8 then(5,6) else if op=9 then(6,7) else if op=7 then(7,8) else if op=10\/op=11 then(8,9) else if op=1\/op=2 then(9,10) else(10,11)
def Bt(op:Int)(b:1<=op)(c:op<=18)(w:Q):
  B1 S 180 #[Y Z (60+op)] w (kL w (B2 #[Y Z (qL op).1,Y Z (qL op).2])):=by
 have a:op=1\/op=2\/op=3\/op=4\/op=5\/op=6\/op=7\/op=8\/op=9\/op=10\/op=11\/op=12\/op=13\/op=14\/op=15\/op=16\/op=17\/op=18:=by omega
 rcases a with rfl|rfl|rfl|rfl|rfl|rfl|rfl|rfl|rfl|rfl|rfl|rfl|rfl|rfl|rfl|rfl|rfl|rfl<;>
  (go_in
   go_wp2;exact bH (results_tmp2 rfl _ _ _) rfl ⟨rfl,rfl⟩)
def ij(k op:Int):Int:=if k=29 then 1 else if k=28 then 2 else if k=31 then(qL op).1 else if k=30 then 11 else 12
def rL(k op:Int):Int:=if k=29 then 2 else if k=28 then 3 else(qL op).2
def lF(k:Int):Bool:=k==26||k==32||k==33||k==34||k==37
def Bv(N:Nd)(m j:Ax)(h:N.k=31->1<=N.op/\N.op<=18)(w:Q):
  B1 S 131 #[jG N m j] w (gy w (Y Z (ij N.k N.op))):=by
 have g:be w (w.alloc (.cells #[Y Z N.k,Y Z N.f,Y Z N.t,Y Z N.l,Y Z N.op,Y Z N.n,V N.x,m,j] 61)):=(ah _ w).alloc (af _) _;unfold jG;by_cases b:N.k=29
 .have p:(N.k==29)=B3:=by simpa using b
  have a:Hid (ij N.k N.op=1):=by show _=_;unfold ij;rw[ae b]
  clear b h;go_in;go_wp2;go_ret;exact⟨by rw[a.out];rfl,g⟩
 have p:(N.k==29)=Br:=by simpa using b
 by_cases c:N.k=28
 .have q:(N.k==28)=B3:=by simpa using c
  have a:Hid (ij N.k N.op=2):=by show _=_;unfold ij;rw[aa b,ae c]
  clear b c h;go_in;go_wp2;go_ret;exact⟨by rw[a.out];rfl,g⟩
 have q:(N.k==28)=Br:=by simpa using c
 by_cases d:N.k=31
 .have r:(N.k==31)=B3:=by simpa using d
  have a:Hid (ij N.k N.op=(qL N.op).1):=by show _=_;unfold ij;rw[aa b,aa c,ae d]
  obtain⟨u,v⟩:=h d;have i:=Bt N.op u v;generalize qL N.op=o at i a;obtain⟨y,z⟩:=o;simp only at i a;clear b c d h;go_in;go_wp2_with (go_at_call 180;refine iI (i _) ?_);go_ret;exact⟨by rw[a.out];rfl,g⟩
 have r:(N.k==31)=Br:=by simpa using d
 by_cases e:N.k=30
 .have s:(N.k==30)=B3:=by simpa using e
  have a:Hid (ij N.k N.op=11):=by show _=_;unfold ij;rw[aa b,aa c,aa d,ae e]
  clear b c d e h;go_in;go_wp2;go_ret;exact⟨by rw[a.out];rfl,g⟩
 have s:(N.k==30)=Br:=by simpa using e
 have a:Hid (ij N.k N.op=12):=by show _=_;unfold ij;rw[aa b,aa c,aa d,aa e]
 go_in;go_wp2;go_ret;exact⟨by rw[a.out];rfl,g⟩
def Lc(N:Nd)(i h:Ax)(e:N.k≠29->N.k≠28->1<=N.op/\N.op<=18)(w:Q):
  B1 S 181 #[jG N i h] w (gy w (Y Z (rL N.k N.op))):=by
 have d:be w (w.alloc (.cells #[Y Z N.k,Y Z N.f,Y Z N.t,Y Z N.l,Y Z N.op,Y Z N.n,V N.x,i,h] 61)):=(ah _ w).alloc (af _) _;unfold jG;by_cases a:N.k=29
 .have m:(N.k==29)=B3:=by simpa using a
  have b:Hid (rL N.k N.op=2):=by show _=_;unfold rL;rw[ae a]
  clear a e;go_in;go_wp2;go_ret;exact⟨by rw[b.out];rfl,d⟩
 have m:(N.k==29)=Br:=by simpa using a
 by_cases c:N.k=28
 .have o:(N.k==28)=B3:=by simpa using c
  have b:Hid (rL N.k N.op=3):=by show _=_;unfold rL;rw[aa a,ae c]
  clear a c e;go_in;go_wp2;go_ret;exact⟨by rw[b.out];rfl,d⟩
 have o:(N.k==28)=Br:=by simpa using c
 have b:Hid (rL N.k N.op=(qL N.op).2):=by show _=_;unfold rL;rw[aa a,aa c]
 have⟨p,q⟩:=e a c;have g:=Bt N.op p q;generalize qL N.op=j at g b;obtain⟨r,s⟩:=j;simp only at g b;go_in;go_wp2_with (go_at_call 180;refine iI (g _) ?_);go_ret;exact⟨by rw[b.out];rfl,d⟩
def abk(k:Int)(w:Q):B1 S 185 #[Y Z k] w (kL w (B6 (lF k))):=by
 unfold lF;cases f1:(k==26)<;>cases f2:(k==32)<;>cases f3:(k==33)<;>cases f4:(k==34)<;>cases f5:(k==37)<;>
  (go_in
   go_wp2;go_ret;exact⟨rfl,rfl⟩)
def akb{α:Type}{L:List α}{k:Nat}{x:α}(h:L[k]?=O x):L.drop k=x::L.drop (k+1):=by
 have a:=(List.getElem?_eq_some_iff.1 h);rw[mI a.1,a.2]
def C3{α:Type}{L:List α}{k:Nat}{x:α}(h:L[k]?=O x):L.take (k+1)=L.take k++[x]:=by
 rw[jc,h];rfl
def Ld{s t:ByteArray}(h:s≠t):(s.toList==t.toList)=Br:=by
 rw[eJ];intro a;apply h;rw[ja,ja]at a;cases s;cases t;simp only at a
 congr 1
 exact Array.toList_inj.1 a
def agF{s t:ByteArray}(h:s=t):(s.toList==t.toList)=B3:=by subst h;simp
def abl(w:Q)(A B:Ax)(c d:List ByteArray)(s:bi w A c)(t:bi w B d)(v:c.length<=1048576)(L:d.length<=1048576):
  B1 S 166 #[A,B] w (gy w (B6 (decide (c=d)))):=by
 obtain⟨G,I,rfl⟩:=s.form;obtain⟨H,J,rfl⟩:=t.form;by_cases y:c.length=d.length
 .obtain⟨i,u⟩:=aJ (decide (c=d));rw[u];have⟨e,j⟩:=aJ c.length;have m:d.length=e:=by rw[<-y];exact j
  have f:=mo j m u;have q:Hid (bi w (U G e I) c/\bi w (U H e J) d):=⟨by rw[<-j];exact s,by rw[<-m];exact t⟩;rw[j]at v⊢;rw[m];go_in;go_wp21
  go_loopw [13] (λp wr=>∃b:Nat,b<=e/\p= Y Z b/\Hid (∀a,a<b->c[a]?=d[a]?)/\be w wr) (λp _=>e-(intOf p).toNat)
  case atStart=>exact⟨0,by omega,rfl,λa K=>by omega,ah _ _⟩
  case round=>
   obtain⟨b,au,rfl,r,h⟩:=hrel;by_cases x:b<e
   .obtain⟨ad,k⟩:=cA f.1 x;have⟨ak,o⟩:=cA f.2.1 x;obtain⟨al,rfl,ao⟩:=(q.1.below h).get k;obtain⟨an,rfl,ap⟩:=(q.2.below h).get o;by_cases n:ad=ak
    .subst n;have C:Hid (∀a,a<b+1->c[a]?=d[a]?):=λa K=>by
      rcases bI a b with g|g
      .exact r a g
      .obtain rfl:a=b:=by omega
       rw[k,o]
     go_wp21
     go_quiet (fail)
     go_wp21
     exact⟨⟨b+1,by omega,by go_num,C,mG h _⟩,by simp[intOf];omega⟩
    .have E:Hid (i=Br):=by
      show i=Br;rw[<-f.out.2.2];refine aE λl=>n ?_;rw[l,o]at k;exact(bz k).symm
     have ar:=Ld n;go_wp21
     go_quiet (fail)
     go_wp21
     go_ret;exact⟨by rw[E.out];rfl,mG h _⟩
   .obtain rfl:b=e:=by omega
    have F:Hid (i=B3):=by
     show i=B3;rw[<-f.out.2.2];refine aI (List.ext_getElem? λa=>?_);rcases bI a b with g|g
     .exact r a g
     .rw[jp (by rw[f.out.1];exact g),jp (by rw[f.out.2.1];exact g)]
    go_wp21
    go_ret;exact⟨by rw[F.out];rfl,h⟩
 .rw[aE (λl=>y (by rw[l]))];have z:¬(c.length:Int)=(d.length:Int):=by omega
  generalize c.length=av at z v⊢;generalize d.length=ax at z L⊢;go_in;go_wp2;go_ret;exact⟨rfl,ah _ _⟩
def Bw(M N:Nd):Bool:=decide (M.op=N.op/\M.n=N.n/\M.x=N.x/\M.nm=N.nm)
def DJ(w:Q)(M N:Nd)(I al J ak:Ax)(L:bi w I M.nm)(ad:bi w J N.nm)(ap:∃a n c,al= U a n c)(ao:∃a n c,ak= U a n c)(ar:M.nm.length<=1048576)(au:N.nm.length<=1048576):
  B1 S 111 #[jG M I al,jG N J ak] w (gy w (B6 (Bw M N))):=by
 have g:∀d e,be w ((w.alloc d).alloc e):=λd e=>((ah _ w).alloc (af _) d).alloc (by simp) e;have k:=λd e=>abl ((w.alloc d).alloc e) I J M.nm N.nm (L.below (g d e)) (ad.below (g d e)) ar au;obtain⟨a5,a9,rfl⟩:=L.form;obtain⟨a6,ba,rfl⟩:=ad.form;obtain⟨a7,bd,bb,rfl⟩:=ap;obtain⟨a8,bf,bc,rfl⟩:=ao;unfold jG Bw;generalize M.nm.length=av at k⊢;generalize N.nm.length=ax at k⊢;by_cases f:M.op=N.op
 .by_cases h:M.n=N.n
  .by_cases i:M.x=N.x
   .have K:decide (M.op=N.op/\M.n=N.n/\M.x=N.x/\M.nm=N.nm)=decide (M.nm=N.nm):=by
     by_cases j:M.nm=N.nm
     .rw[aI j,aI ⟨f,h,i,j⟩]
     .rw[aE j,aE (λb=>j b.2.2.2)]
    rw[K];have H:=agF i;generalize decide (M.nm=N.nm)=a0 at k⊢;obtain⟨m,l,t,p,s,q,u,r,o⟩:=M;obtain⟨y,v,F,A,E,B,G,C,z⟩:=N;simp only at f h H⊢;go_in;go_wp2_with (go_at_call 166;refine(k _ _).mono ?_;rintro K bh ⟨rfl,an⟩);go_ret;exact⟨rfl,(g _ _).trans (an.mono (by simp;omega))⟩
   .rw[aE (λb=>i b.2.2.1)];have H:=Ld i;obtain⟨m,l,t,p,s,q,u,r,o⟩:=M;obtain⟨y,v,F,A,E,B,G,C,z⟩:=N;simp only at f h H⊢;go_in;go_wp2;go_ret;exact⟨rfl,g _ _⟩
  .rw[aE (λb=>h b.2.1)];obtain⟨m,l,t,p,s,q,u,r,o⟩:=M;obtain⟨y,v,F,A,E,B,G,C,z⟩:=N;simp only at f h⊢;go_in;go_wp2;go_ret;exact⟨rfl,g _ _⟩
 .rw[aE (λb=>f b.1)];obtain⟨m,l,t,p,s,q,u,r,o⟩:=M;obtain⟨y,v,F,A,E,B,G,C,z⟩:=N;simp only at f⊢;go_in;go_wp2;go_ret;exact⟨rfl,g _ _⟩
open Go.Lib (strCells strCells_length wpList_append_own_string)
structure Pg (w0:Q) (T:ByteArray) (W:Q):Prop where
 bel:be w0 W
 row:∃(o:Ax) (X:ByteArray) (ov:Bool),W.heap[w0.heap.size]?=O (.cells #[o,.bool ov] 49 (0,0))/\W.ownsRow (w0.heap.size+1) 5 1 o X.size (strCells X)/\X.size<=65536/\(T.size<=65536->ov=Br/\X=T)/\(65536<T.size->ov=B3)
def Pg.lt(h:Pg w0 T W):w0.heap.size<W.heap.size:=by
 obtain⟨d,b,e,a,c⟩:=h.row;exact ai a
def Pg.below{b:Q}(h:Pg w0 T W)(a:be W b):Pg w0 T b:=by
 obtain⟨j,d,k,c,e,f,g,i⟩:=h.row;exact⟨h.bel.trans (a.mono h.bel.size),j,d,k,(a.block _ (ai c)).trans c,de e a,f,g,i⟩
def Is(a:Q)(T s:ByteArray)(w:Q)(h:Pg a T w)(a9:s.size<=100000000):
  B1 S 326 #[A5 (O ⟨a.heap.size,0,R⟩),V s] w λe w'=>e= A9 (B2 #[])/\Pg a (T++s) w'/\Kq a.heap.size w w':=by
 obtain⟨ba,m,q,j,p,F,C,E⟩:=h.row;have G:=h.bel;obtain⟨b,z⟩:∃b,m.size=b:=⟨_,rfl⟩;rw[z]at p F;obtain⟨g,i,rfl⟩:=cg p;obtain⟨ap,ar,au,ax,a0⟩:=eu agD;have ao:=ai j;have a1:w.cell? ⟨a.heap.size,0,R⟩=O (U g b i):=by rw[aj _ _ _ _ _ _ j];rfl
 have a2:w.cell? ⟨a.heap.size,1,R⟩=O (B6 q):=by rw[aj _ _ _ _ _ _ j];rfl
 have a5:∀H,w.frozen? ⟨a.heap.size,H,R⟩=Br:=λH=>cC _ _ _ _ _ j;have A:=K8 j (by decide) p;have c:Hid (w.ownsRow (a.heap.size+1) 5 1 (U g b i) b (strCells m)/\w.heap[a.heap.size]?=O (.cells #[U g b i,B6 q] 49 (0,0))/\m.size=b/\be a w):=⟨p,j,z,G⟩;have r:Hid ((T.size<=65536->q=Br/\m=T)/\(65536<T.size->q=B3)):=⟨C,E⟩;clear p j z h G C E;by_cases a7:b+s.size>65536
 .have al:((b:Int)+(s.size:Int))>65536:=by omega
  have y:Pg a (T++s) (w.setCell ⟨a.heap.size,1,R⟩ (B6 B3)):=by
   refine⟨c.out.2.2.2.setCell (af _) _,U g b i,m,B3,bg _ _ 1 _ _ _ c.out.2.1,?_,by rw[c.out.2.2.1];exact F,λf=>?_,λ_=>rfl⟩
   .rw[c.out.2.2.1];exact c.out.1.kept (row:=O a.heap.size) ⟨rfl,rfl,rfl,by simp[A2],λl n o=>aC _ _ _ _ (λe=>o (by rw[e]))⟩ (by
     cases hv:(B4 g b i).ownBlock with
     |none=>exact .inl rfl
     |some K=>exact .inr (λe=>by cases e;exact(A _ hv).1 rfl))
   .rw[aq]at f;obtain⟨_,d⟩:=r.out.1 (by omega);have:=c.out.2.2.1;rw[d]at this;omega
  go_enter func326,ntmps326;go_wp21
  exact bH (fK rfl _ _ _) rfl ⟨rfl,y,Kq.putP _ _ _ _⟩
 .have al:¬((b:Int)+(s.size:Int))>65536:=by omega
  go_enter func326,ntmps326;go_wp2_with (at_builtin;refine wpList_append_own_string _ rfl _ _ 22 9 rfl (a.heap.size+1) 5 ap underlying22 underlying9 ar au ax a0 _ _ _ rfl c.out.1 s rfl (by unfold maxLen;omega) (by omega) (by omega) ?_;intro bb x B k a8;obtain⟨t,u,rfl⟩:=cg B;have v:=(k.block _ ao (λe=>(A _ e.symm).1 rfl)).trans c.out.2.1;have bc:x.cell? ⟨a.heap.size,0,R⟩=O (U g b i):=(by rw[aj _ _ _ _ _ _ v];rfl);have a6:x.frozen? ⟨a.heap.size,0,R⟩=Br:=cC _ _ _ _ _ v);have y:Pg a (T++s) (x.setCell ⟨a.heap.size,0,R⟩ (U t (b+s.size) u)):=by
   refine⟨(c.out.2.2.2.grown k (by omega) (λl n=>by have:=(A l n).2;omega)).setCell (af _) _,U t (b+s.size) u,m++s,q,bg _ _ 0 _ _ _ v,?_,by rw[aq,c.out.2.2.1];omega,λf=>?_,λf=>?_⟩
   .rw[aq,c.out.2.2.1,zb];exact B.kept (row:=O a.heap.size) ⟨rfl,rfl,rfl,by simp[A2],λl n o=>aC _ _ _ _ (λe=>o (by rw[e]))⟩ (by
     cases hv:(B4 t (b+s.size) u).ownBlock with
     |none=>exact .inl rfl
     |some K=>exact .inr (λe=>by cases e;exact(K8 v (by decide) B _ hv).1 rfl))
   .rw[aq]at f;obtain⟨I,d⟩:=r.out.1 (by omega);exact⟨I,by rw[d]⟩
   .rw[aq]at f;by_cases ad:T.size<=65536
    .obtain⟨_,d⟩:=r.out.1 ad;have:=c.out.2.2.1;rw[d]at this;omega
    .exact r.out.2 (by omega)
  have J:Kq a.heap.size w (x.setCell ⟨a.heap.size,0,R⟩ (U t (b+s.size) u)):=by
   refine⟨k.os,k.tape,k.output,by simp[A2];exact k.size,λl n o an=>?_⟩;rw[aC _ _ _ _ o];refine k.block l n (λe=>?_);have d:(B4 g b i).ownBlock=O l:=e.symm;rcases c.out.1.2 with⟨f,_⟩|⟨L,a3,a4,f,_,ak,_⟩
   .rw[f]at d;simp[A0]at d
   .rw[f]at d;obtain rfl:L=l:=by simpa [A0] using d
    exact an _ _ ak
  go_end0
  exact⟨rfl,y,J⟩
def ph(a:Q)(t:Nat):Ax:= B7 #[A5 (O ⟨a.heap.size,0,R⟩),V (gx t)]
def ju(a:Q)(t:Nat):Ax:= .iface 54 (ph a t)
def qz(b:Nat)(s:ByteArray)(w:Q):(method 438 54 (B7 #[A5 (O ⟨b,0,R⟩),V s]) "loop.example/warp/impl.put").run S w= .ok (329,B7 #[A5 (O ⟨b,0,R⟩),V s]) w:=by kernel_rfl
def It(b:Nat)(s:ByteArray)(w:Q):(method 438 54 (B7 #[A5 (O ⟨b,0,R⟩),V s]) "loop.example/warp/impl.newLine").run S w= .ok (328,B7 #[A5 (O ⟨b,0,R⟩),V s]) w:=by kernel_rfl
def ac7(b:Nat)(s:ByteArray)(w:Q):(method 438 54 (B7 #[A5 (O ⟨b,0,R⟩),V s]) "loop.example/warp/impl.inner").run S w= .ok (327,B7 #[A5 (O ⟨b,0,R⟩),V s]) w:=by kernel_rfl
def akc(a:Q)(t:Nat)(T s:ByteArray)(w:Q)(h:Pg a T w)(i:s.size<=100000000):
  B1 S 329 #[ph a t,V s] w λe w'=>e= A9 (B2 #[])/\Pg a (T++s) w'/\Kq a.heap.size w w':=by
 have d:∀c,be w (w.alloc c):=λc=>(ah _ w).alloc (af _) c;have f:Hid (∀b,be w b->B1 S 326 #[A5 (O ⟨a.heap.size,0,R⟩),V s] b λe w'=>e= A9 (B2 #[])/\Pg a (T++s) w'/\Kq a.heap.size b w'):=λb g=>Is a T s b (h.below g) i;unfold ph;generalize gx t=k;clear h;go_enter func329,ntmps329;go_wp2_with (go_at_call 326;refine(f.out _ (d _)).mono ?_;rintro e l ⟨rfl,p2,j⟩);go_end0
 exact⟨rfl,p2,(Kq.of_below (d _)).trans j⟩
def Le(a:Q)(t:Nat)(ht:t<=1000000)(T:ByteArray)(w:Q)(h:Pg a T w):
  B1 S 328 #[ph a t] w λe w'=>e= A9 (B2 #[])/\Pg a (T++fD t) w'/\Kq a.heap.size w w':=by
 have f:∀d,be w (w.alloc d):=λd=>(ah _ w).alloc (af _) d;have c:Hid (∀b,be w b->B1 S 326 #[A5 (O ⟨a.heap.size,0,R⟩),V (fD t)] b λe w'=>e= A9 (B2 #[])/\Pg a (T++fD t) w'/\Kq a.heap.size b w'):=λb g=>Is a T (fD t) b (h.below g) (by rw[nj];omega);have i:=qr t;unfold ph;unfold fD at c⊢;generalize gx t=k at c i;clear h;go_enter func328,ntmps328;go_wp2_with (go_at_call 326;refine(c.out _ (f _)).mono ?_;rintro e l ⟨rfl,p2,j⟩);go_end0
 exact⟨rfl,p2,(Kq.of_below (f _)).trans j⟩
def aeI(c:Q)(t:Nat)(ht:t<=1000000)(w:Q):
  B1 S 327 #[ph c t] w (gy w (ju c (t+1))):=by
 have d:∀a,be w (w.alloc a):=λa=>(ah _ w).alloc (af _) a;have e:=qr t;have b:gx (t+1)=gx t++⟨#[9]⟩:=rfl;unfold ju ph;rw[b];generalize gx t=f at e;clear b;go_enter func327,ntmps327;go_wp2;go_ret;exact⟨rfl,d _⟩
end Go.Proofs.YthboboahkkhopaaGreatDoor
namespace Go.Proofs
open Go.Shelf
def Tryz.lays156_ren:Go.Shelf.Ren:=⟨λ|156=>174|165=>221|166=>222|169=>224|240=>255|241=>256|276=>277|277=>278|n=>n,λ|31=>58|9=>9|3=>3|4=>4|0=>0|20=>20|72=>241|76=>244|70=>239|37=>22|75=>243|127=>204|164=>285|5=>5|80=>206|n=>n,λ|n=>n⟩
def Tryz.lays156:Go.Proofs.Lays.n156 S Tryz.lays156_ren:={
 mixed:=by kernel_rfl
 f156:=Tryz.func174.trans (congrArg O (by kernel_rfl))
 f165:=Tryz.func221.trans (congrArg O (by kernel_rfl))
 f166:=Tryz.func222.trans (congrArg O (by kernel_rfl))
 f169:=Tryz.func224.trans (congrArg O (by kernel_rfl))
 f240:=Tryz.func255.trans (congrArg O (by kernel_rfl))
 f241:=Tryz.func256.trans (congrArg O (by kernel_rfl))
 f276:=Tryz.func277.trans (congrArg O (by kernel_rfl))
 f277:=Tryz.func278.trans (congrArg O (by kernel_rfl))
 t0:=underlying0
 a0:=isAgg0
 z0:=sizeOf0
 v0:=zeroValue0
 t3:=underlying3
 a3:=isAgg3
 z3:=sizeOf3
 v3:=zeroValue3
 t4:=underlying4
 a4:=isAgg4
 z4:=sizeOf4
 v4:=zeroValue4
 t9:=underlying9
 a9:=isAgg9
 z9:=sizeOf9
 v9:=zeroValue9
 t20:=underlying20
 a20:=isAgg20
 z20:=sizeOf20
 v20:=zeroValue20
 t31:=underlying58
 a31:=isAgg58
 z31:=sizeOf58
 v31:=zeroValue58
 t37:=underlying22
 a37:=isAgg22
 z37:=sizeOf22
 v37:=zeroValue22
 t70:=underlying239
 a70:=isAgg239
 z70:=sizeOf239
 v70:=zeroValue239
 t72:=underlying241
 a72:=isAgg241
 z72:=sizeOf241
 v72:=zeroValue241
 t75:=underlying243
 a75:=isAgg243
 z75:=sizeOf243
 v75:=zeroValue243
 t76:=underlying244
 a76:=isAgg244
 z76:=sizeOf244
 v76:=zeroValue244
 t127:=underlying204
 a127:=isAgg204
 z127:=sizeOf204
 v127:=zeroValue204
 t164:=underlying285
 a164:=isAgg285
 z164:=sizeOf285
 v164:=zeroValue285}
def Tryz.Builder_Extra_156:Builder.Extra S Tryz.lays156_ren:={
 sizeBuilder:=by kernel_rfl
 liesBuilder:=by kernel_rfl
 t5:=underlying5
 a5:=isAgg5
 z5:=sizeOf5
 v5:=zeroValue5
 infoByte:=by kernel_rfl
 cellsByte:=by kernel_rfl
 sizeByte:=by kernel_rfl
 neB5:=by decide}
open Go.RowKit in
def Tryz.strings_Join_none(a:Option Addr)(c:Nat)(b:ByteArray)(w:Q):
  B1 S 174 #[U a 0 c,V b] w λe w'=>e= A9 (V ⟨#[]⟩)/\w'=w:=Any.strings_Join_none Tryz.lays156 Tryz.Builder_Extra_156 a c b w
open Go.RowKit in
def Tryz.strings_Join(b o c:Nat)(a:List ByteArray)(d:ByteArray)(w:Q)(i:∀(j:Nat) x,a[j]?=O x->w.cell? ⟨b,o+j,R⟩=O (V x))(g:b<w.heap.size)(f:a.length<=140737488355328)(h:a.length<=c)(k:(Lib.join (a.map (·.data.toList)) d.data.toList).length<=140737488355328):
  B1 S 174 #[U (O ⟨b,o,R⟩) a.length c,V d] w λe w'=>e= A9 (V ⟨(Lib.join (a.map (·.data.toList)) d.data.toList).toArray⟩)/\Below w.heap.size w w':=Any.strings_Join Tryz.lays156 Tryz.Builder_Extra_156 b o c a d w i g f h k
end Go.Proofs
namespace Go.Proofs.YthboboahkkhopaaGreatDoor
open Go.RowKit Go.Maps Go.WideMaps
variable{T:ByteArray}{W w w0 y:World}{b base n:Nat}{v vt:Value}{xs:List Value}
def Pg.new(a:Q):Pg a B0 (a.alloc (.cells #[U R 0 0,B6 Br] 49)):=
 ⟨(ah _ a).alloc (af _) _,U R 0 0,B0,Br,aB a _,fE _ _ _ _,by decide,λ_=>⟨rfl,rfl⟩,λb=>absurd b (by decide)⟩
def akd(x:ByteArray):B0++x=x:=ByteArray.empty_append
attribute [local go_sem] mi
