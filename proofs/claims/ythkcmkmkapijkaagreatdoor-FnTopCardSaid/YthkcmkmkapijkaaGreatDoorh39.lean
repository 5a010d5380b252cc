import Derived.Test.YthkcmkmkapijkaaGreatDoorh30
import Derived.Test.YthkcmkmkapijkaaGreatDoorh21
import Derived.Test.YthkcmkmkapijkaaGreatDoorh22
import Derived.Test.YthkcmkmkapijkaaGreatDoorh23
import Derived.Test.YthkcmkmkapijkaaGreatDoorh24
import Derived.Test.YthkcmkmkapijkaaGreatDoorh38
import Derived.Test.YthkcmkmkapijkaaGreatDoorh36
set_option linter.all false
set_option maxRecDepth 100000
set_option maxHeartbeats 12800000
open Go.Proofs.Tryz
open List renaming length->Q,set->B1
open Go.Value renaming slice->T,string->A2,tuple->B3
open Option renaming some->V
open Go.Proofs.Tryz renaming prog->X
open Bool renaming true->Y,false->A3
open Go.MakeChecks renaming laidMetH_plain->Ax
open Go.Obj renaming cells->A0
open Go renaming World->A1,Value->Br,Calls->B0,TypeId->B2
open Go.Ending renaming returned->A5
open ByteArray renaming empty->A9
namespace Go.Proofs.YthkcmkmkapijkaaGreatDoor
open Go.ChangeShapes Go.WideShapes Go.ChangeAt Go.WideMaps Go.WideElems Go.RowKit
variable{L g i m n tab:Nat}{N:Nd}{W:World}{s:Bz}
def aym(a:zAV):List (List UInt8):=a.toList.map λb=>match b with| .string s=>s.data.toList|_=>[]
def abt{e d t a}(w:([(e,d)].all λx=>x.2.handleName?.isNone)=Y)
  (u:X.globalNamed e=V g) (m:(X.globals[g]?).map (·.type)=V t) (y:X.underlying t=V (.array n 9)) (p:X.cellsOf 9=1) (q:X.cellsOf t=n)
  (r:d= .agg ((aym a).map λb=> .lit (.string b))) (o:(aym a).map (λb=>Value.string ⟨b.toArray⟩)=a.toList) (h:laidMetH X [(e,d)] W):∃f fr,W.heap[g]?=V (.cells a f fr):=by
 rw[Ax _ _ _ w]at h;obtain⟨F,⟨C,H,j,B,E,G,i,z,c,s,_,_⟩,_,_⟩:=h;obtain rfl:=de<|u.symm.trans i;obtain rfl:=de<|m.symm.trans z;subst r;have k:=Jo y underlying9 p q s;have l:j=a:=by
  apply Array.toList_inj.1;rw[k,o]
 simp[World.var?,i]at c;split at c
 .rename_i A f fr v;cases c;exact⟨f,fr,by rw[<-l];exact v⟩
 .cases c
def aow{a nm d t ms}(n:([(a,DataW.iface nm d)].all λx=>x.2.handleName?.isNone)=Y)
  (m:X.globalNamed a=V g) (k:(X.globals[g]?).map (·.type)=V t) (o:X.underlying t=V (.interface ms)) (h:laidMetH X [(a,.iface nm d)] W):∃c b,W.cell? (aj g 0)=V (.iface c b):=by
 rw[Ax _ _ _ n]at h;obtain⟨_,⟨_,_,f,_,_,_,b,p,q,l,_,_⟩,_,_⟩:=h;obtain rfl:=de<|m.symm.trans b;obtain rfl:=de<|k.symm.trans p;have⟨_,c,e,i,_,_⟩:=iface_of_trod o l;refine⟨c,e,?_⟩;have:=Lq b q 0;rw[this];have j:f.toList[0]?=V (.iface c e):=by rw[i];rfl
 simpa using j
def avH:zLI:=[0,1,56,2,57,49,28,3,61,58,42,50,38,29,17,4,62,47,59,36,45,43,51,22,53,39,33,30,24,18,12,5,63,55,48,27,60,41,37,16,46,35,44,21,52,32,23,11,54,26,40,15,34,20,31,10,25,14,19,9,13,8,7,6]
def ayn:X.globalNamed "math/bits.deBruijn64tab" =V 11:=J
def az9:X.globalNamed "internal/strconv.uint64pow10" =V 7:=J
def aAa:X.globalNamed "strconv.ErrSyntax" =V 12:=J
def aAb:X.globalNamed "strconv.ErrRange" =V 13:=J
def aAc:X.globalNamed "loop.example/warp/impl.wordTexts" =V 2:=J
def aAd:X.globalNamed "loop.example/warp/impl.markTexts" =V 5:=J
def aAe:X.globalNamed "loop.example/warp/impl.binaryTexts" =V 6:=J
def arH(c:laidMetH X [("loop.example/warp/impl.wordTexts",Rows.laid_loop_example_warp_impl_wordTexts)] W)(d:laidMetH X [("loop.example/warp/impl.markTexts",Rows.laid_loop_example_warp_impl_markTexts)] W)(e:laidMetH X [("loop.example/warp/impl.binaryTexts",Rows.laid_loop_example_warp_impl_binaryTexts)] W)(f:laidMetH X [("strconv.ErrSyntax",Rows.laid_strconv_ErrSyntax)] W)(g:laidMetH X [("strconv.ErrRange",Rows.laid_strconv_ErrRange)] W)(a:laidMetH X [("internal/strconv.uint64pow10",Rows.laid_internal_strconv_uint64pow10)] W)(b:laidMetH X [("math/bits.deBruijn64tab",Rows.laid_math_bits_deBruijn64tab)] W):Kh W:=by
 refine⟨⟨?_,?_,?_⟩,⟨?_,?_⟩,?_,?_⟩
 .exact abt J aAc J underlying186 J J R R c
 .exact abt J aAd J underlying303 J J R R d
 .exact abt J aAe J underlying304 J J R R e
 .exact aow J aAa J underlying67 f
 .exact aow J aAb J underlying67 g
 .rw[Ax _ _ _ J]at a;exact Lib.tabIs_of_head az9 J underlying336 underlying40 J J a
 .rw[Ax _ _ _ J]at b;have h:laidMet X [("math/bits.deBruijn64tab",Lib.tabData .u8 avH)] W:=b;exact(Lib.tabIs_of_head ayn J underlying362 underlying5 J J h).cell ayn _ Z
def arI{H:Type}(x:Int×Int×Int):DataW H:= .agg [.lit<|.int .i64 x.1,.lit<|.int .i64 x.2.1,.lit<|.int .i64 x.2.2]
def aox(x:Int×Int×Int):zLV:=[zI x.1,zI x.2.1,zI x.2.2]
def ayo(l:zLV)(h:Q l=3):∃a b c,l=[a,b,c]:=by
 match l,h with
 |[a,b,c],_=>exact⟨a,b,c,R⟩
def arJ{H}{n:B2×Br->H}{j t o fuel}{l:zLV}{x p}(h:DataW.trod n X W j t o fuel 255 l=V (arI x,p)):l=aox x:=by
 have k:X.cellsOf 3=1:=J;have m:X.cellsOf 255=3:=J;have⟨_,_,_,_,a,e,b,c,d⟩:=Go.Deep.trod_struct3 underlying255 h;rw[m]at e;obtain⟨_,_,_,rfl⟩:=ayo l e;simp[k]at b c d;have⟨z0,f,q,_⟩:=Lt underlying3 b;have⟨_,g,r,_⟩:=Lt underlying3 c;have⟨_,i,s,_⟩:=Lt underlying3 d;simp at f g i;subst f g i;unfold arI at a;rw[q,r,s]at a;simp at a;unfold aox;rw[a.1.1,a.1.2.1,a.1.2.2]
def Lb:∀(a)(cs:zLV),Q cs=3*Q a->(∀i x,a[i]?=V x->(cs.drop<|i*3).take 3=aox x)->cs=a.flatMap aox
 |[],cs,b,_=>by simpa using b|x::a,cs,b,h=>by
  have c:=h 0 x R;simp[iq]at c;have e:=Lb a (cs.drop 3) (by rw[tu,b];simp;omega) (λi f d=>by
   have:=h (i+1) f (by simpa using d);rw[List.drop_drop];rw[(O:(i+1)*3=3+i*3)]at this;exact this)
  rw[Cb,<-e,<-c];exact(BE 3 cs).symm
def aoy:List (Int×Int×Int):=[(26,1,2),(10,2,3),(73,3,4),(74,3,4),(75,3,4),(76,3,4),(77,3,4),(78,3,4),(72,4,4),(68,5,6),(69,6,7),(67,7,8),(70,8,9),(71,8,9),(61,9,10),(62,9,10),(63,10,11),(64,10,11),(65,10,11),(66,10,11)]
def aAf:X.globalNamed "loop.example/warp/impl.powers" =V 3:=J
def arK(h:laidMetH X [("loop.example/warp/impl.powers",Rows.laid_loop_example_warp_impl_powers)] W):∃e fr,W.heap[3]?=V (.cells Fg e fr):=by
 rw[Ax _ _ _ J]at h;obtain⟨C,⟨y,F,c,o,B,E,g,v,a,p,_,_⟩,_,_⟩:=h;obtain rfl:=de<|aAf.symm.trans g;obtain rfl:=de<|((J:(X.globals[3]?).map (·.type)=V 280)).symm.trans v;have k:X.cellsOf 255=3:=J;have l:X.cellsOf 280=60:=J;have q:DataW.trod _ X W _ _ _ o 280 c.toList=V (.agg<|aoy.map arI,_):=p;have⟨w,A,_,j,u,z,r⟩:=DataW.trod_array underlying280 q;simp[DataW.agg.injEq]at j;have m:c.toList=aoy.flatMap aox:=by
  refine Lb aoy _ (by rw[u,l];rfl) (λb G i=>?_);have t:b<20:=by have:=(dr.1 i).1;simpa [aoy] using this
  have f:=r b t;rw[k,bm O]at f;have d:(w.map (·.1))[b]?=(aoy.map arI)[b]?:=by rw[j.1]
  rw[cJ,cJ,bm O,i]at d;simp[mw]at d;exact arJ (by rw[f,<-d])
 have n:c=Fg:=by
  apply Array.toList_inj.1;rw[m];rfl
 simp[World.var?,g]at a;split at a
 .rename_i x e fr s;cases a;exact⟨e,fr,by rw[<-n];exact s⟩
 .cases a
end Go.Proofs.YthkcmkmkapijkaaGreatDoor
namespace Go.Proofs.YthkcmkmkapijkaaGreatDoor
open Go.RowKit
variable{L g i m n tab:Nat}{N:Nd}{W:World}{s:Bz}
theorem akf(a):4<=(tg a).2/\(tg a).2<=11:=by
 unfold tg;grind
def ain(k a):2<=uj k a/\uj k a<=11:=by
 have:=akf a;unfold uj;omega
abbrev Cel(W:A1)(b:Nat)(N:Nd)(c a:Br):Prop:=W.cell? (aj b 0)=V (zI N.k)/\W.cell? (aj b 1)=V (zI N.f)/\W.cell? (aj b 2)=V (zI N.t)/\W.cell? (aj b 3)=V (zI N.l)/\W.cell? (aj b 4)=V (zI N.op)/\W.cell? (aj b 5)=V (zI N.n)/\W.cell? (aj b 6)=V (A2 N.x)/\W.cell? (aj b 7)=V c/\W.cell? (aj b 8)=V a
theorem arL{c m o}(a1:N.k≠29->N.k≠28->1<=N.op/\N.op<=18){g ax f j h}(R1:NdR c m i N g f j ax L h)(a6:Q N.ks=2){q r:Nat}(K:N.ks[0]?=V (q:Int))(s:N.ks[1]?=V (r:Int)){l}(bb:0<=l/\l<=50){sign E ao:Bz}(F:Hid (Wr c (T (V m) n o) tab 110 #[pW c,zI (q:Int),zI<|ym N l] E))(a4:Hid (Wr c (T (V m) n o) tab 110 #[pW c,zI (r:Int),zI<|uj N.k N.op] ao)):
  Wr c (T (V m) n o) tab 191 #[pW c,jq N (T g f j)<|T ax L h,A2 sign,zI l] (E++sign++ao):=by
 intro ar af H a7;have a0:=H.lt;have ba:=ain N.k N.op;obtain⟨b,rfl⟩:=R1.ks.ptr;obtain rfl:L=2:=by have:=R1.hL;omega
 have d:=ah R1;have C:=ah λa9 a8=>acv N a9 a8 a1;unfold jq at C⊢;unfold ym at F;generalize uj N.k N.op=ap at *;simp[az]at a7;have a:=ah<|Bx.new H N (T g f j)<|T (V b) 2 h;have⟨t,u,v,w,x,y,z,A,B⟩:=a.cells;have a2:=a.kid0 d.ks K;have a3:=a.kid d.ks s Z;have ad:Hid (∀{ar:Bz}{e:A1},Bx c (T (V m) n o) tab af N (T g f j) (T (V b) 2 h) ar e->Cel e af.heap.size N (T g f j) (T (V b) 2 h)/\e.cell? (aj b.block<|b.off+1)=V (zI (r:Int))):=λa=>⟨a.cells,a.kid d.ks s Z⟩;clear H R1 a1 a6;by_cases p:ap=l;all_goals
  first|have a5:=kqs p|have a5:(ap==l)=A3:=U
  first|rw[ae p]at F|rw[aa p]at F
  clear p;go_in
  repeat (go_wp2_with fail;(first|(go_at_call 274;refine dd (C _ _ _) λe G=>?_;have a:=ah<|a.below G;clear t u v w x y z A B;have⟨t,u,v,w,x,y,z,A,B⟩:=a.cells;have a2:=a.kid0 d.ks K;have a3:=a.kid d.ks s Z)|(refine Bx.stp a blR (by first|exact ah (Hq _)|omega) a0 U ?_;intro e a;have a:=ah a;clear t u v w x y z A B;have⟨t,u,v,w,x,y,z,A,B⟩:=a.cells;have a2:=a.kid0 d.ks K;have a3:=a.kid d.ks s Z)))
  go_wp2_with fail;go_region_held3 (λav=>Cel av af.heap.size N (T g f j) (T (V b) 2 h)/\av.cell? (aj b.block<|b.off+1)=V (zI (r:Int))) (first|exact ad am|exact ad al|exact ad (a.below blW)|go_keep) (first|(go_at_call 274;refine dd (C _ _ _) λe G=>?_;have al:=(a.below blW).below G)|(go_at_call 110;apply Bx.stp (ah al) blR a4 a0 U;intro e am))
  go_wp2_with fail;go_end0
  exact Bx.fin (ah am) (by simp[aB])
def aoz{c o v}(ap:n<=1048576)(af:i<n)(m:N.k=31->1<=N.op/\N.op<=18){f e d h g}(R1:NdR c o i N f d h e L g)(j:N.k=31){least}(ao:¬iu N.k N.op<least)(ar:(rK<|60+N.op).size<=4){u}(s:Hid (Wr c (T (V o) n v) tab 191 #[pW c,jq N (T f d h)<|T e L g,A2<|⟨#[32]⟩++rK (60+N.op)++⟨#[32]⟩,zI<|iu N.k N.op] u)):
  Wr c (T (V o) n v) tab 110 #[pW c,zI (i:Int),zI least] u:=by
 intro _ x b _;have A:=b.lt;have⟨z0,F,G⟩:=b.cells;have⟨_,_,_,_,_,_,_,_,_,_,_⟩:=R1.rd x b.bel;have a:=ah<|Bx.new b N (T f d h)<|T e L g;have al:(i:Int)<(n:Int):=O;have am:(0:Int)<=(i:Int):=O;have ax:=kqf j;have ad:=kqs j;have r:=ah λE C=>ED N E C m;have y:=ah<|GH<|60+N.op;have⟨_,_⟩:=m j;have B:IntKind.i64.wrap (60+N.op)=60+N.op:=by rw[du];omega
 generalize rK (60+N.op)=w at *;have H:¬9223372036854775807<1+w.size:=O;have K:¬9223372036854775807<1+w.size+1:=O;unfold jq at r s;generalize iu N.k N.op=av at *;clear b R1 j m G F;go_in;go_wp2_with (go_at_call 190;refine dd (r _ _ _) λt l=>?_;have a:=ah<|a.below l;obtain⟨_,_,_,_,_,_,_,_,_⟩:=a.cells);go_region_held3 (λz=>Cel z x.heap.size N (T f d h)<|T e L g) (first|exact q.cells|exact p.cells|exact(a.below blW).cells|go_keep) (first|(go_at_call 192;(try rw[B]);refine dd (y _) λt l=>?_;have p:=(a.below blW).below l)|(go_at_call 191;apply Bx.stp (ah p) blR s A O;intro t q))
 go_wp2_with fail;go_end0
 exact Bx.fin (ah q) R
def aoA(b:zLD)(B:Nat)(c:zLI):Prop:=∀d∈c,∃a:Nat,d=(a:Int)/\a<B/\a<Q b/\gh (ab b a).k=Y
theorem akg(c k v F E t B)(an:OkE c k F E t B)(d)(A:dt c v d)(am:aoA F B d)(ar:Q d<=1048576)(g w)(h:Pr c k g t w)(ao:g.size+(cD<|d.map E).size<=140737488355328):
  B0 X 109 #[be c.heap.size 0,v] w λe a=>e=A5 (B3 #[])/\Pr c k (g++cD (d.map E)) t a/\Kq c.heap.size w a:=by
 have l:=Cg h A am an;obtain⟨_,_,rfl⟩:=A.form;have⟨i,z⟩:=aw<|Q d;rw[z]at ar l⊢;have H:=ah z;have⟨b,y⟩:=aw<|d.map E;rw[y]at ao⊢;have a4:Hid (d.map E=b/\Q b=i):=⟨y,U⟩;go_in;go_wp2;go_loopw [8] (λr wr=>∃a:Nat,a<=i/\r=zI a/\Hid (Pr c k (g++cD (b.take a)) t wr/\Kq c.heap.size w wr)) (λr _=>i-(intOf r).toNat)
 .exact⟨0,O,R,by rw[show g++cD (b.take 0)=g from lj];omega,Kq.refl _ _⟩
 .
  obtain⟨a,_,rfl,f⟩:=hrel;by_cases ap:a<i
  .have⟨a3,C⟩:=bg H.out ap;obtain⟨j,rfl,av,_,ax⟩:=l.2.2.1 a3<|db C;obtain⟨K,rfl,L⟩:=(l.2.1.below f.1.bel).get C;have a6:(a:Int)<(i:Int):=O;have a5:(0:Int)<=(a:Int):=O;have a0:b[a]?=V (E j):=U;have ak:=rG b a _ a0;have al:=Ge b<|a+1;have x:=fs ak al;have q:=fs av ax;by_cases af:a=0
   .subst af;have m:cD (b.take<|0+1)=cD (b.take 0)++E j:=U;have n:=x.2;rw[m,az]at n;have o:=fs m n;have G:wr.cell? K=V (zI (j:Int)):=by simpa [Addr.add] using L
    go_wp2_with fail;apply(l.2.2.2.zero j _ _ q.1 q.2 f.1 U).mono;rintro e u ⟨rfl,p2,s⟩;have p:=fs p2 s;go_wp2_with fail;refine⟨⟨1,O,by go_num,?_,f.2.trans p.2⟩,by simp[intOf];omega⟩;rw[show(1:Nat)=0+1 from rfl,o.out.1,<-aB];omega
   .have m:cD (b.take<|a+1)=cD (b.take a)++fj++E j:=U;have n:=x.2;rw[m,az,az]at n;have ad:fj.size=2:=rfl;have o:=jG m n ad;have a7:(0:Int)<(a:Int):=O;go_wp2_with fail;apply(ig c k _ _ _ _ f.1 (by have:=o.2;rw[az];show _+fj.size<=_;omega)).mono;rintro e u ⟨rfl,p2,s⟩;have p:Hid (Pr c k (g++cD (b.take a)++fj) t u/\Kq c.heap.size wr u):=⟨p2,s⟩;go_wp2_with fail;apply(l.2.2.2.zero j _ _ q.1 q.2 p.1 U).mono;rintro e _ ⟨rfl,a2,a1⟩;have G:=fs a2 a1;go_wp2_with fail;refine⟨⟨a+1,O,by go_num,?_,(f.2.trans p.2).trans G.2⟩,by simp[intOf];omega⟩;rw[o.out.1,<-aB,<-aB];omega
  .obtain rfl:a=i:=O;go_wp2_with fail;go_end0
   refine⟨R,?_,f.2⟩;have:=f.1;grind
def vF(l:zLB)(k x)(c:l[k]?=V x):iw (l.take<|k+1)=iw (l.take k)++x:=by
 have⟨a,b⟩:=dr.1 c;unfold iw;rw[List.take_succ_eq_append_getElem a,List.foldl_append,b];rfl
def aoB(l:zLB)(k):(iw<|l.take k).size<=(iw<|l.take<|k+1).size:=by
 by_cases a:k<Q l
 .rw[vF l k _<|bm a,az];omega
 .rw[ci O,ci O];omega
theorem aio(l k):(iw<|l.take k).size<=(iw l).size:=by
 have b:∀a,(iw<|l.take k).size<=(iw<|l.take<|k+a).size:=by
  intro a
  induction a with
  |zero=>grind|succ a c=>exact bK c<|aoB l _
 have:=b<|Q l
 rwa [ci (O:Q l<=k+Q l)]at this
def ayp(b:A1)(d:Br)(g:zLD)(S:Int->Nat->Bz)(B:Nat):Prop:=
 ∀(a tab:Nat)(c:Bz)(W:A1),a<B->jE (ab g a).k=Y->tab+B<=500000->Pr b d c tab W->c.size+(S a tab).size<=140737488355328->
  B0 X 34 #[be b.heap.size 0,zI (a:Int)] W λf e=>f=A5 (B3 #[])/\Pr b d (c++S a tab) tab e/\Kq b.heap.size W e
def ayq(b:zLD)(B:Nat)(c:zLI):Prop:=∀d∈c,∃a:Nat,d=(a:Int)/\a<B/\a<Q b/\jE (ab b a).k=Y
theorem akh(a y f S B)(ap:ayp a y f S B)(ao:dE a y f)(bj:Q f<=1048576)(i)(av:i<Q f)(am:ayq f B (ab f i).ks)(a0:(ab f i).ks.length<=1048576)(tab)(b7:tab+B<500000)
  (d) (w) (h:Pr a y d tab w) (E:d.size+(Ab S (ab f i).ks tab).size<=140737488355328):
  B0 X 107 #[be a.heap.size 0,zI (i:Int)] w λe u=>e=A5 (B3 #[])/\Pr a y (d++Ab S (ab f i).ks tab) tab u/\Kq a.heap.size w u:=by
 have bn:=aap av;obtain⟨_,n,rfl⟩:=ao.form;obtain⟨o,rfl,_,_,af⟩:=ao.get bn;have⟨z0,_,_⟩:=h.cells;have bb:=ag h.bel af.c8;have v:=af.hk;have⟨r,bk⟩:=aw<|(ab f i).ks;rw[bk]at am a0 E v⊢;obtain⟨_,_,rfl⟩:=v.form;have⟨l,bf⟩:=aw<|Q f;have⟨g,an⟩:=aw<|Q r;rw[bf]at z0 h ap bj av⊢;rw[an]at bb v a0;have p:=Lx h v am ap an;have b5:(i:Int)<(l:Int):=O;have b6:(0:Int)<=(i:Int):=O;have⟨ad,k⟩:=aw<|Ab S r tab;rw[k]at E⊢;unfold Ab at k;by_cases ak:r=[]
 .have b:g=0:=U;rw[ae ak]at k;subst k b;go_in;go_wp2_with fail;apply(ig a _ d _ _ _ p.1 E).mono;rintro e z ⟨rfl,x,F⟩;go_wp2;exact aA (fE R _ _ _) R ⟨R,x,F⟩
 .rw[aa ak]at k;have b0:0<g:=by
   grind
  have b1:((g:Int)==0)=A3:=U;obtain⟨c,ax⟩:∃c,(r.map λb=>gA (tab+1)++S b (tab+1))=c:=⟨_,R⟩;rw[ax]at k;have a7:Hid (⟨#[123]⟩++iw c++gA tab++⟨#[125]⟩=ad/\(r.map λb=>gA (tab+1)++S b (tab+1))=c/\Q c=g):=⟨k,ax,U⟩;have bt:d.size+(1+(iw c).size+(tab+1)+1)<=140737488355328:=by
   have e:ad.size=1+(iw c).size+(tab+1)+1:=by rw[<-k,az,az,az,so];rfl
   omega
  have a8:=ah bt;go_in;go_wp2_with fail;apply(ig a _ d _ _ _ p.1 U).mono;rintro e z ⟨rfl,x,F⟩;have⟨bx,bz,H⟩:=x.cells;have bA:=H 2;have b8:=x.putTab<|tab+1;have A:Hid (Pr a (T (V o) l n) (d++⟨#[123]⟩) ((tab+1:Nat):Int) (z.setCell (aj a.heap.size 2)<|zI<|(tab:Int)+1)/\Kq a.heap.size w (z.setCell (aj a.heap.size 2)<|zI<|(tab:Int)+1)):=⟨U,F.trans<|Kq.putP _ _ _ _⟩;go_wp2_with fail;generalize z.setCell (aj a.heap.size 2) (zI<|(tab:Int)+1)=bE at A⊢;go_loopw [32] (λG wr=>∃b:Nat,b<=g/\G=zI b/\Hid (Pr a (T (V o) l n) (d++⟨#[123]⟩++iw (c.take b)) ((tab+1:Nat)) wr/\Kq a.heap.size w wr)) (λG _=>g-(intOf G).toNat)
  .exact⟨0,O,R,by rw[show d++⟨#[123]⟩++iw (c.take 0)=d++⟨#[123]⟩ from lj];exact A.1,A.2⟩
  .
   obtain⟨b,b2,rfl,m⟩:=hrel;by_cases bl:b<g
   .obtain⟨bD,a3⟩:=bg O bl;obtain⟨s,rfl,bo,_,br⟩:=p.2.2.1 bD<|db a3;obtain⟨a9,rfl,ba⟩:=(p.2.1.below m.1.bel).get a3;have b4:(b:Int)<(g:Int):=O;have b3:(0:Int)<=(b:Int):=O;have bs:c[b]?=V (gA (tab+1)++S s (tab+1)):=U;have al:=vF c b _ bs;have bc:=aio c<|b+1;have bd:(iw<|c.take b).size+(tab+2+(S s<|tab+1).size)<=(iw c).size:=by rw[al,az,az,so]at bc;omega
    have a6:=fs al bd;have K:=fs bo br;have ar:b=0->wr.cell? a9=V (zI (s:Int)):=λe=>by subst e;simpa [Addr.add] using ba
    have bw:∀j,Pr a (T (V o) l n) (d++⟨#[123]⟩++iw (c.take b)++gA (tab+1)) ((tab+1:Nat):Int) j->Kq a.heap.size wr j->B0 X 34 #[be a.heap.size 0,zI (s:Int)] j λe u=>e=A5 (B3 #[])/\Hid (Pr a (T (V o) l n) (d++⟨#[123]⟩++iw (c.take<|b+1)) ((tab+1:Nat):Int) u/\Kq a.heap.size w u):=by
     intro j t q;apply(p.2.2.2.1 s _ _ j K.1 K.2 O t U).mono;rintro e a5 ⟨rfl,L,C⟩;refine⟨R,?_,(m.2.trans q).trans C⟩;rw[a6.out.1,<-aB,<-aB];exact L
    have L:=ah bw;have a4:=acu a _ _ _ wr m.1 O U;by_cases bh:b=0
    .subst bh;have bF:=ar R;go_wp2_with fail;apply a4.mono;rintro e j ⟨rfl,t,q⟩;have ks:=L.out j t q;go_wp2_with fail;apply ks.mono;rintro e a5 ⟨rfl,C⟩;go_wp2;exact⟨⟨1,O,by go_num,C⟩,by simp[intOf];omega⟩
    .clear ar;go_wp2_with fail;apply a4.mono;rintro e j ⟨rfl,t,q⟩;have ks:=L.out j t q;go_wp2_with fail;apply ks.mono;rintro e a5 ⟨rfl,C⟩;go_wp2;exact⟨⟨_,O,by go_num,C⟩,by simp[intOf];omega⟩
   .obtain rfl:b=g:=O;have⟨bx,bz,H⟩:=m.1.cells;have a3:wr.cell? (aj a.heap.size 2)=V (zI<|(tab:Int)+1):=U;have bA:=H 2;have s:=m.1.putTab tab;rw[ci U]at s;have j:Hid (Pr a (T (V o) l n) (d++⟨#[123]⟩++iw c) (tab:Int) (wr.setCell (aj a.heap.size 2)<|zI (tab:Int))/\Kq a.heap.size w (wr.setCell (aj a.heap.size 2)<|zI (tab:Int))):=⟨s,m.2.trans<|Kq.putP _ _ _ _⟩;have ar:(tab:Int)+1-1=(tab:Int):=O;go_wp2_with fail;generalize wr.setCell (aj a.heap.size 2) (zI (tab:Int))=al at j⊢;apply(acu a _ _ tab _ j.1 O (by have:=a8.out;rw[az,az];show d.size+1+_+_<=_;omega)).mono;rintro e t ⟨rfl,K,u⟩;have q:Hid (Pr a (T (V o) l n) (d++⟨#[123]⟩++iw c++gA tab) (tab:Int) t/\Kq a.heap.size w t):=⟨K,j.2.trans u⟩;go_wp2_with fail;apply(ig a _ _ _ _ _ q.1 U).mono;rintro e _ ⟨rfl,L,C⟩;go_wp2_with fail;go_end0
    refine⟨R,?_,q.2.trans C⟩;rw[<-a7.out.1,<-aB,<-aB,<-aB];exact L
open Go.Maps Go.WideMaps
structure Mp (w0:A1) (p1:Addr) (n c1:Nat) (ns:zLD):Prop where
 nds:dE w0 (.slice (V p1) n c1) ns
 cap:D5 w0 p1 ns
 len:Q ns=n
 big:n<=3000
 sz:Szd ns
 n0:∀i:Int, -9223372036854775808<=(ab ns i).n
 n1:∀i:Int,(ab ns i).n<=9223372036854775807
abbrev vT(b:Addr)(n a:Nat):Br:=T (V b) n a
def OkB(c:A1)(i:Addr)(n k:Nat)(b:zLD)(f:Nat):Prop:=
 ∀(a tab:Nat)(j:Bz),a<f->(ab b a).k=7->tab+f<=500000->∀{e d:zOA}{m h L g:Nat},NdR c i a (ab b a) e m h d L g->Wr c (vT i n k) tab 112 #[pW c,jq (ab b a) (T e m h)<|T d L g,A2 j] (uL b f a j tab)
structure OkA (w0:A1) (p1:Addr) (n c1:Nat) (ns:zLD) (f:Nat):Prop where
 e:∀tab:Nat,tab+f<=500000->OkE w0 (vT p1 n c1) ns (λk=>sI ns f k tab) tab f
 s:ayp w0 (vT p1 n c1) ns (λk t=>ry ns f k t) f
 b:OkB w0 p1 n c1 ns f
def OkA.zero(f e n c d):OkA f e n c d 0:=
 ⟨λ_ _ b _ _ _ a=>absurd a O,λb _ _ _ a=>absurd a O,λb _ _ a=>absurd a O⟩
section
variable {w0 : World} {p1 : Addr} {n c1 : Nat} {ns : zLD} (M : Mp w0 p1 n c1 ns) {f : Nat} (A : OkA w0 p1 n c1 ns f)
def Wr.expr0(a:OkA w0 p1 n c1 ns f){q}(j:tab+f<=500000)(i:q<f)(g:gh (ab ns q).k=Y):Wr w0 (vT p1 n c1) tab 110 #[pW w0,zI (q:Int),zI 0] (sI ns f q tab):=
 λb c d h=>(a.e tab j).zero q b c i g d h
def Wr.blk(a:Mp w0 p1 n c1 ns)(e:OkA w0 p1 n c1 ns f){q}(r:tab+f<500000)(w:q<=f)(b:q<Q ns)(m:(ab ns q).k=1):Wr w0 (vT p1 n c1) tab 107 #[pW w0,zI (q:Int)] (Ab (λk t=>ry ns f k t) (ab ns q).ks tab):=by
 intro g h i o;have⟨p,_⟩:=jf<|a.sz.nb q b;have j:=vw p m;refine akh w0 _ ns _ f e.s a.nds (by rw[a.len];have:=a.big;omega) q b (λ_ u=>?_) O tab r g h i o;obtain⟨d,l,rfl⟩:=pq u;have⟨v,c⟩:=ij (a.sz.nb q b) b d l;have:=Iu _ 0 j d O O;rw[c.id]at this⊢;exact⟨v,R,by have:=c.lt;omega,c.len,this⟩
def Wr.exs(b:OkA w0 p1 n c1 ns f)(l:tab+f<=500000){a}(h:aoA ns f a)(j:Q a<=1048576)(v)(m:dt w0 v a):Wr w0 (vT p1 n c1) tab 109 #[pW w0,v] (cD<|a.map λk=>sI ns f k tab):=
 λc d g i=>akg w0 _ v ns _ tab f (b.e tab l) a m h j c d g i
theorem Wr.bod(a:Mp w0 p1 n c1 ns)(g:OkA w0 p1 n c1 ns f){q}(p:tab+f<500000)(s:q<=f)(b:q<Q ns)(m:(ab ns q).k=36):Wr w0 (vT p1 n c1) tab 111 #[pW w0,zI (q:Int)] (CH ns (λk t=>ry ns f k t) (ab ns q) tab):=by
 have⟨o,_⟩:=jf<|a.sz.nb q b;have⟨i,d,j,l⟩:=ahA o m;have⟨_,c⟩:=ij (a.sz.nb q b) b 0 O;have⟨_,_,_,_,_,_,h⟩:=CJ a.nds a.cap b;have:=a.len;have:=a.big;have:=c.lt;unfold CH Fl;rw[c.id]at d⊢;refine afd a.nds a.cap a.len O O O h<|.bod j ?_ i c.at_<|Wr.blk a g p O c.len d;obtain e|e:=l
 .grind
 .refine .inr ⟨e,?_⟩;rw[ae e];cases (ab ns q).nm with
  |nil=>grind|cons r u=>exact .inr ⟨Nat.succ_pos _,R⟩
def xh(e:Mp w0 p1 n c1 ns)(d:i<Q ns)(q:i<=f){a}(h:∀j,a<=j->j<a+m->gh (ab ns<|dA (ab ns i) j).k=Y)(r:a+m<=(ab ns i).ks.length):aoA ns f (((ab ns i).ks.drop a).take m):=by
 intro _ o;have⟨j,l,c⟩:=iD o;rw[mA,tu]at l;rw[List.getElem_take,List.getElem_drop]at c;have⟨p,b⟩:=ij (e.sz.nb i d) d (a+j) O;have g:=yD (N:=ab ns i) (j:=a+j) O;rw[g,b.id]at c;have:=h (a+j) O O;rw[b.id]at this;exact⟨p,c.symm,by have:=b.lt;omega,b.len,this⟩
end
section
variable {w0 : World} {p1 : Addr} {n c1 : Nat} {ns : zLD} {f : Nat}
def Wr.bas(a:Mp w0 p1 n c1 ns)(b:OkA w0 p1 n c1 ns f){q}(m:tab+f<=500000)(j:q<f)(l:q<Q ns)(h:gh (ab ns q).k=Y):Wr w0 (vT p1 n c1) tab 194 #[pW w0,zI (q:Int)] (Hn ns (λk=>sI ns f k tab) q):=
 λc d g i=>al9 w0 _ ns _ tab f (b.e tab m) a.nds (by rw[a.len];have:=a.big;omega) q j l h c d g i
theorem aee(c:Mp w0 p1 n c1 ns)(h:OkA w0 p1 n c1 ns f)(tab i)(bf:tab+f<500000)(a3:i<=f)(x:i<Q ns)(bd:gh (ab ns i).k=Y)(least)(o:¬iu (ab ns i).k (ab ns i).op<least):
  Wr w0 (vT p1 n c1) tab 110 #[pW w0,zI (i:Int),zI least] (prE ns (λq=>sI ns f q tab) (λq t=>ry ns f q t) (ab ns i) tab):=by
 have bj:=c.big;have bl:=c.len;have⟨s,_⟩:=jf<|c.sz.nb i x;have p:=λu F=>ij (c.sz.nb i x) x u F;have ax:=λbb=>(ng s).2.2 bb;have bk:=aL bd;have bn:=Ho (ab ns i).k (ab ns i).op;have⟨a8,m,ba,a7,a6,a9,C⟩:=CJ c.nds c.cap x;have d:=@ana w0 p1 n c1 ns c.nds c.cap c.len O tab i O _ O ax _ _ _ _ _ _ C;have a0:∀a2:Bz,((ab ns i).k=28\/(ab ns i).k=29\/(ab ns i).k=31)->Wr w0 (vT p1 n c1) tab 191 #[pW w0,jq (ab ns i) (T a8 m ba)<|T a7 a6 a9,A2 a2,zI<|iu (ab ns i).k (ab ns i).op] (D3 ns (λq=>sI ns f q tab) (ab ns i) a2<|iu (ab ns i).k (ab ns i).op):=by
  intro a2 _;have⟨g,e,A⟩:=ng s;have⟨a,b⟩:=p 0 O;have⟨G,l⟩:=p 1 O;have j:=gI 2 0 e 0 O O;have r:=gI 2 0 e 1 O O;have:=ain (ab ns i).k (ab ns i).op;have z:=b.lt;have a5:=l.lt;unfold D3;rw[b.id]at j⊢;rw[l.id]at r⊢;exact arL O C g b.at_ l.at_ O (λv d w y=>h.e tab O a _ v d O j (by unfold ym;omega) (by unfold ym;omega) w y) (λv d w y=>h.e tab O G _ v d O r O O w y)
 unfold prE;by_cases al:(ab ns i).k=28
 .rw[ae al];exact d<|.inf (.inl ⟨al,R⟩) o<|a0 _ O
 rw[aa al];by_cases am:(ab ns i).k=29
 .rw[ae am];exact d<|.inf (.inr ⟨am,R⟩) o<|a0 _ O
 rw[aa am];by_cases H:(ab ns i).k=31
 .rw[ae H];exact aoz O O ax C H o (Iy<|ax H)<|a0 _ O
 rw[aa H];by_cases K:(ab ns i).k=30
 .rw[ae K];have⟨g,e,A⟩:=ou s;have⟨a,b⟩:=p 0 O;have z:=b.lt;have af:=b.len;unfold unB unS;rw[b.id]at e⊢;have B:=ah λv d w y=>h.e tab O a 11 v d O e O O w y;refine d<|.nod (.inl ⟨K,R⟩) o ?_;have:=A K;by_cases E:(ab ns i).op=21
  .rw[ae E];exact d<|.un (.inl ⟨E,R⟩) g b.at_ B
  rw[aa E];by_cases L:(ab ns i).op=22
  .rw[ae L];exact d<|.un (.inr<|.inl ⟨L,R⟩) g b.at_ B
  rw[aa L];by_cases ad:(ab ns i).op=20
  .rw[ae ad];exact d<|.un (.inr<|.inr ⟨ad,R⟩) g b.at_ B
  rw[aa ad];refine Hy c.nds c.cap c.len O C<|.neg g b.at_ (O:_=_) ⟨O,?_⟩ B;unfold yo;grind
 rw[aa K];by_cases ap:(ab ns i).k=32
 .rw[ae ap];have⟨g,e,A⟩:=ng s;have⟨a,b⟩:=p 0 O;have⟨G,l⟩:=p 1 O;have j:=gI 2 0 e 0 O O;have r:=gI 2 0 e 1 O O;have z:=b.lt;have a5:=l.lt;rw[b.id]at j⊢;rw[l.id]at r⊢;exact d<|.idx ap o g b.at_ l.at_ (Wr.bas c h O O b.len j)<|Wr.expr0 h O O r
 rw[aa ap];by_cases ar:(ab ns i).k=33
 .rw[ae ar];have⟨g,e,A⟩:=ou s;have⟨a,b⟩:=p 0 O;have z:=b.lt;rw[b.id]at e⊢;exact d<|.fld ar o g b.at_<|Wr.bas c h O O b.len e
 rw[aa ar];by_cases L:(ab ns i).k=34
 .rw[ae L];have⟨g,e⟩:=Gm s L;have⟨a,b⟩:=p 0 O;have j:=gI _ 0 e 0 O O;have z:=b.lt;have B:=xh c x a3 (a:=1) (m:=(ab ns i).ks.length-1) (λu A _=>gI _ 0 e u O O) O;rw[ci U]at B;rw[b.id]at j⊢;exact d<|.cal L o g b.at_ (Wr.bas c h O O b.len j) λad E=>Wr.exs h O B U ad E
 rw[aa L];by_cases ad:(ab ns i).k=35
 .rw[ae ad];have g:=Da s ad;refine d<|.nod (.inr<|.inl ⟨ad,R⟩) o<|ajp c.nds c.cap c.len O C.ks O λ_ bh=>?_;obtain⟨u,F,rfl⟩:=pq bh;have⟨af,B⟩:=p u F;have e:=adx _ 0 g u O O;rw[B.id]at e⊢;refine⟨af,R,B.len,?_⟩;have⟨a4,_⟩:=jf<|c.sz.nb af B.len;have a1:=λu F=>ij (c.sz.nb af B.len) B.len u F;have bo:=B.lt;unfold uK;by_cases ao:(ab ns af).k=41
  .have⟨av,E,bc⟩:=ng a4;have⟨a,b⟩:=a1 0 O;have⟨G,l⟩:=a1 1 O;have j:=gI 2 0 E 0 O O;have r:=gI 2 0 E 1 O O;have z:=b.lt;have a5:=l.lt;rw[b.id]at j⊢;rw[l.id]at r⊢;exact .inl ⟨ao,av,a,G,_,_,b.at_,l.at_,Wr.expr0 h O O j,Wr.expr0 h O O r,ae ao⟩
  .have⟨av,E,bc⟩:=ou a4;have⟨a,b⟩:=a1 0 O;have z:=b.lt;rw[aa ao];rw[b.id]at E⊢;refine .inr ⟨av,a,_,b.at_,Wr.expr0 h O O E,?_⟩;grind
 rw[aa ad];by_cases j:(ab ns i).k=36
 .rw[ae j];exact d<|.fn j o<|Wr.bod c h bf a3 x j
 rw[aa j];by_cases l:(ab ns i).k=37
 .rw[ae l];have⟨g,e,A⟩:=ou s;have⟨a,b⟩:=p 0 O;have z:=b.lt;rw[b.id]at e⊢;exact d<|.one l o g b.at_<|Wr.expr0 h O O e
 rw[aa l];exact d<|.nod (.inr<|.inr ⟨O,R⟩) o λv d w y=>ajn w0 _ _ _ _ v tab d w O (c.n0 i) (c.n1 i) (λ_=>yC<|c.sz.nb i x) y
def aki(a:Mp w0 p1 n c1 ns)(e:OkA w0 p1 n c1 ns f)(u:f<Q ns)(tab)(x:tab+(f+1)<=500000):OkE w0 (vT p1 n c1) ns (λk=>sI ns (f+1) k tab) tab (f+1):=by
 intro k l g h _ i _ _ j b;have t:=a.big;have v:=a.len;have⟨r,_⟩:=jf<|a.sz.nb k O;have q:=λo=>(ng r).2.2 o;have p:sI ns (f+1) k tab=prE ns (λd=>sI ns f d tab) (λd s=>ry ns f d s) (ab ns k) tab:=by rw[sI]
 unfold je at b⊢;simp[p]at b⊢;by_cases c:iu (ab ns k).k (ab ns k).op<l
 .rw[ae c]at b⊢;have w:=Ho (ab ns k).k (ab ns k).op;have⟨_,_,_,_,_,_,m⟩:=CJ a.nds a.cap (O:k<Q ns);exact ana a.nds a.cap a.len O O O q m (.par c<|aee a e tab k O O O i 0 O) g h j b
 .rw[aa c]at b⊢;exact aee a e tab k O O O i l c g h j b
end
section
variable {w0 : World} {p1 : Addr} {n c1 : Nat} {ns : zLD} {f : Nat}
def Jb(a:Mp w0 p1 n c1 ns)(e:OkA w0 p1 n c1 ns f)(tab i)(A:tab+f<500000)(al:i<=f)(o:i<Q ns)(G:(ab ns i).k=7)(B:Bz){s r x v}(R1:NdR w0 p1 i (ab ns i) s m x r L v):
  Wr w0 (vT p1 n c1) tab 112 #[pW w0,jq (ab ns i) (T s m x)<|T r L v,A2 B] (yp ns (λq=>sI ns f q tab) (λq t=>ry ns f q t) (λq w=>uL ns f q w tab) (ab ns i) B tab):=by
 have af:=a.big;have am:=a.len;have⟨H,_⟩:=jf<|a.sz.nb i o;have p:=λK F=>ij (a.sz.nb i o) o K F;have⟨_,_,y,z,E⟩:=ahB H G;have⟨_,c⟩:=p 0 O;have⟨ad,b⟩:=p 1 O;have ao:=c.lt;have ap:=b.lt;rw[c.id]at y;rw[b.id]at z;have l:=ah<|Wr.expr0 e (tab:=tab) O O y;have j:=ah<|Wr.blk a e A O b.len z;have C:=@afd w0 p1 n c1 ns a.nds a.cap a.len O tab i O _ O _ _ _ _ _ _ R1;unfold yp;rw[c.id,b.id];obtain g|g:=cG (ab ns i).ks.length 3
 .rw[ae g,λ_=>lj];exact C<|.br2 O c.at_ b.at_ l j
 .rw[aa O];have⟨u,d⟩:=p 2 O;have wc:=d.lt;have ar:=d.len;rw[d.id]at E⊢;by_cases h:(ab ns u).k=7
  .rw[ae h];exact Hy a.nds a.cap a.len O R1<|.bre O c.at_ b.at_ d.at_ l j O λ_ _ _ _ _ _ R1=>e.b u tab _ O h O R1
  .rw[aa h,<-aB];exact Hy a.nds a.cap a.len O R1<|.br3 O c.at_ b.at_ d.at_ l j O<|Wr.blk a e A O d.len O
theorem aoC(h:Q N.nm=1):N.nm[0]?=V (nm0 N):=by
 unfold nm0;grind
theorem aoD(d:Mp w0 p1 n c1 ns)(h:OkA w0 p1 n c1 ns f)(tab i)(A:tab+f<500000)(z:i<=f)(p:i<Q ns)(a4:jE (ab ns i).k=Y):
  Wr w0 (vT p1 n c1) tab 34 #[pW w0,zI (i:Int)] (prS ns (λq=>sI ns f q tab) (λq t=>ry ns f q t) (λ_ w=>yp ns (λq=>sI ns f q tab) (λq t=>ry ns f q t) (λq w=>uL ns f q w tab) (ab ns i) w tab) (ab ns i) tab):=by
 have a6:=d.big;have a8:=d.len;have⟨r,_⟩:=jf<|d.sz.nb i p;have v:=λs a2=>ij (d.sz.nb i p) p s a2;have a0:(ab ns i).ks.length<=1048576:=O;have⟨_,_,_,_,_,_,ap⟩:=CJ d.nds d.cap p;have l:=@afd w0 p1 n c1 ns d.nds d.cap d.len O tab i O _ O _ _ _ _ _ _ ap;have a7:=aL a4;have ax:∀k:Int,k=34->gh k=Y:=λk a1=>by rw[a1];rfl
 unfold prS;by_cases G:(ab ns i).k=1
 .rw[ae G];exact l<|.blk G<|Wr.blk d h A z p G
 rw[aa G];by_cases F:(ab ns i).k=2
 .rw[ae F];have⟨g,c⟩:=aaH r F;by_cases B:(ab ns i).ks=[]
  .rw[ae B,λa5=>lj];exact l<|.let0 c F U
  .rw[aa B];have o:=xh d p z (λs e y=>gI _ 0 g s O O) O;rw[iq,ci O]at o;exact l<|.let1 c F (List.length_pos_iff.2 B) λx u=>Wr.exs h O o a0 x u
 rw[aa F];by_cases H:(ab ns i).k=3
 .rw[ae H];have⟨g,c,e⟩:=De r H;have⟨a,b⟩:=v 0 O;have C:=b.lt;rw[b.id]at c⊢;exact l<|.cst H g e (aoC e) b.at_<|Wr.expr0 h O O c
 rw[aa H];by_cases K:(ab ns i).k=4
 .rw[ae K];have⟨g,c,e⟩:=aaI r K;have⟨a,b⟩:=v 0 O;have C:=b.lt;rw[b.id]at c⊢;exact l<|.fns K g e (aoC e) b.at_<|Wr.bod d h A O b.len c
 rw[aa K];by_cases L:(ab ns i).k=5
 .rw[ae L];have⟨g,c,e,y⟩:=afs r L;obtain⟨m,E⟩:∃m:Nat,(ab ns i).n=m:=⟨(ab ns i).n.toNat,O⟩;have ad:(ab ns i).n.toNat=m:=O;rw[ad]at e y⊢;have o:=xh d p z (λs al am=>ank _ 0 e s O O) O;rw[iq]at o;have j:=xh d p z (λs al am=>gI _ m y s O O) O;rw[ci U]at j;exact l<|.set L O E (λx u=>Wr.exs h O o U x u) λx u=>Wr.exs h O j U x u
 rw[aa L];by_cases an:(ab ns i).k=6
 .rw[ae an];have⟨g,c⟩:=E4 r O;have⟨a,b⟩:=v 0 O;have C:=b.lt;rw[b.id]at c⊢;exact l<|.one an g b.at_<|Wr.expr0 h O O<|ax _ c
 rw[aa an];by_cases ad:(ab ns i).k=7
 .rw[ae ad];exact l<|.iff ad<|Jb d h tab i A z p ad _ ap
 rw[aa ad];by_cases af:(ab ns i).k=8
 .rw[ae af];have⟨g,c,e⟩:=Df r af;have⟨a,b⟩:=v 0 O;have⟨ak,j⟩:=v 1 O;have C:=b.lt;have ao:=j.lt;rw[b.id]at c⊢;rw[j.id]at e⊢;exact l<|.whl af g b.at_ j.at_ (Wr.expr0 h O O c)<|Wr.blk d h A O j.len e
 rw[aa af];by_cases av:(ab ns i).k=9\/(ab ns i).k=10
 .rw[ae av];by_cases ar:(ab ns i).k=10
  .rw[aa O];have⟨g,c,e,y⟩:=Gn r ar;rw[g];have o:=xh d p z (a:=0) (m:=1) (λs al am=>U) O;rw[iq]at o;have⟨ak,j⟩:=v 1 O;have ao:=j.lt;show Wr _ _ _ _ _ (_++_++_++_++_++Ab _ (ab ns<|dA (ab ns i) 1).ks tab);rw[j.id]at e⊢;exact l<|.fr y (.inr ⟨ar,R,R⟩) g j.at_ (λx u=>Wr.exs h O o U x u)<|Wr.blk d h A O j.len e
  .have E:(ab ns i).k=9:=O;rw[ae E];have⟨g,c,e,y⟩:=aaJ r E;obtain⟨k,a3⟩:∃k,(ab ns i).ks.length=k+1:=⟨(ab ns i).ks.length-1,O⟩;rw[(O:(ab ns i).ks.length-1=k)]at c e⊢;have o:=xh d p z (λs al am=>gI _ 0 c s O O) O;rw[iq]at o;have⟨ak,j⟩:=v k O;have ao:=j.lt;rw[j.id]at e⊢;exact l<|.fr O (.inl ⟨E,R,O⟩) a3 j.at_ (λx u=>Wr.exs h O o U x u)<|Wr.blk d h A O j.len e
 rw[aa av];by_cases al:(ab ns i).k=11
 .rw[ae al];exact l<|.brk al
 rw[aa al];by_cases am:(ab ns i).k=12
 .rw[ae am];exact l<|.nxt am
 rw[aa am];by_cases E:(ab ns i).k=13
 .rw[ae E];have g:=afu r E;by_cases B:(ab ns i).ks=[]
  .rw[ae B,λa5=>lj];exact l<|.ret0 E U
  .rw[aa B];have o:=xh d p z (λs e y=>gI _ 0 g s O O) O;rw[iq,ci O]at o;exact l<|.ret1 E (List.length_pos_iff.2 B) λx u=>Wr.exs h O o a0 x u
 rw[aa E];by_cases o:(ab ns i).k=14
 .rw[ae o];have⟨g,c,e,y⟩:=aaK r o;have⟨a,b⟩:=v 0 O;have⟨ak,j⟩:=v 1 O;have C:=b.lt;have ao:=j.lt;rw[b.id]at c⊢;rw[j.id]at e⊢;exact l<|.try_ y o g b.at_ j.at_ (Wr.blk d h A O b.len c)<|Wr.blk d h A O j.len e
 rw[aa o];by_cases e:(ab ns i).k=15
 .rw[ae e];have⟨g,c⟩:=Dg r e;have⟨a,b⟩:=v 0 O;have C:=b.lt;rw[b.id]at c⊢;exact l<|.thr e g b.at_<|Wr.expr0 h O O c
 rw[aa e,ae O];have⟨g,c⟩:=E4 r O;have⟨a,b⟩:=v 0 O;have C:=b.lt;rw[b.id]at c⊢;exact l<|.dfr (O:_=_) g b.at_<|Wr.expr0 h O O<|ax _ c
def aoE(d:Mp w0 p1 n c1 ns)(c:OkA w0 p1 n c1 ns f)(m:f<Q ns):OkA w0 p1 n c1 ns (f+1):=
 ⟨λb i=>aki d c m b i,
  λj b e g o p i h a=>by
  simp[ry]at a⊢;exact aoD d c b j O O O p e g h a,
  λj b q o l i _ _ _ _ _ _ k e g h a=>by
  simp[uL]at a⊢;exact Jb d c b j O O O l q k e g h a⟩
def okA(a:Mp w0 p1 n c1 ns):∀f,f<=Q ns->OkA w0 p1 n c1 ns f|0,_=>OkA.zero w0 p1 n c1 ns|f+1,h=>aoE a (okA a f O) O
end
open Go.Lib (strCells strCells_length)
theorem abu(a:Bz):strCells a=B8 (uH a.data.toList):=by
 unfold strCells B8 uH
 simp_all
def Lc{w d b}{a:Bz}(c:w.ownsRow d 5 1 (bI g n b) n (strCells a)):
  (convert 22 9<|bI g n b).run X w= .ok (A2 a) w:=by
 rw[abu]at c;rw[lK c,uI]
def jv(a:zLD):Bz:=if(bH a).1=0 then yq a else zE0
theorem D5.below{w b i a}(h:D5 w b a)(k:dE w (T (V b) n i) a)(l:Below w.heap.size w W):D5 W b a:=by
 intro o c d e g m;have⟨_,j,_,p,f⟩:=k.get g;cases j;have:=ag l f.c8;rw[this]at m;obtain rfl:p=T d (Q c.ks) e:=U;exact h o c d e g f.c8
theorem Bp{a}(h:(bH a).1=0):0<Q a/\Q a<=3000/\(ab a<|(Q a:Int)-1).k=1:=by
 have c:=yB h;have:=c.len;unfold bH at h;by_cases e:iL a=Y
 .grind
 .have b:iL a=A3:=U;have f:=jJ b;refine⟨O,O,?_⟩;by_cases d:(a.getD (Q a-1) zNd).k=1
  .unfold ab;rw[(O:((Q a:Int)-1).toNat=Q a-1)];grind
  omega
def Pr.new(a b):Pr a b A9 0 (a.alloc<|A0 #[b,fe,zI 0] 87):=
 ⟨(ay _ a).alloc eE _,fe,au a _,onN⟩
theorem abv(w g n c a)(h:dE w (T (V g) n c) a)(bD:D5 w g a)(am:Q a=n)(cf:n<=1000000000000)(ca:∀N∈a,iE N)(bF:∀N∈a,oC N)(q:(bH a).1=0->(fK a).size<=6000000000):
  B0 X 11 #[.agg #[T (V g) n c]] w λe b=>e=A5 (A2<|jv a)/\Below w.heap.size w b:=by
 have bl:=ah q;clear q;have a7:=λC=>(ay _ w).alloc eE C;have m:=Cg h bD bF am;have bb:=λC=>Bh _ _ a (h.below<|a7 C) O ca;have⟨ap,a6⟩:=aw<|(bH a).1;have⟨l,br⟩:=aw<|(bH a).2;rw[a6,br]at bb;have G:=ah a6;go_in;go_wp2_with fail;have bh:=au w<|A0 #[T (V g) n c] 26;have cp:(w.alloc<|A0 #[T (V g) n c] 26).heap.size=w.heap.size+1:=dC _ _;refine dd (bb _) λw1 A=>?_;have E:=(A.block _ O).trans bh;have B:=(a7 _).trans<|A.mono O;by_cases a5:ap=0
 .subst a5;have a1:=dB E;have ch:=ai E;have bn:((0:Int)!=0)=A3:=rfl;have al:Below w1.heap.size w1 (w1.alloc<|A0 #[zI 0,zI l] 49):=(ay _ w1).alloc O _;have p:=B.trans<|al.mono B.size;have af:=ag al a1;have⟨_,b8,bc⟩:=Bp G.out;have am:=m.2.2.2;obtain⟨b,rfl⟩:∃b,n=b+1:=⟨n-1,O⟩;have bs:ab a ((Q a:Int)-1)=ab a (b:Int):=U;rw[bs]at bc;have⟨_,_,_,a0,j,a3,L⟩:=CJ m.1 m.2.1 (O:b<Q a);have a4:=(L.rd _<|p.trans<|(blR.alloc O<|A0 #[T (V g) (b+1) c,fe,zI 0] 87).mono p.size).c8;have cb:((b:Int)+1)-1=(b:Int):=O;have cl:(0:Int)<=(b:Int):=O;have cm:(b:Int)<(b:Int)+1:=O;have y:Mp (w1.alloc<|A0 #[zI 0,zI l] 49) g (b+1) c a:=by
   refine⟨m.1.below p,m.2.1.below m.1 p,am,O,aaG G,λd=>?_,λd=>?_⟩;all_goals
    unfold ab;rw[ed];cases e:a[d.toNat]? with
    |none=>decide|some N=>have:=(m.2.2.1 N<|db e).n;grind
  have b4:=bl.out G.out;have ax:=Pr.new (w1.alloc<|A0 #[zI 0,zI l] 49)<|T (V g) (b+1) c;have H:=ah ax;have a2:((w1.alloc<|A0 #[zI 0,zI l] 49).alloc<|A0 #[T (V g) (b+1) c,fe,zI 0] 87).cell? ⟨w.heap.size,0,none⟩=V (T (V g) (b+1) c):=ag (blR.alloc O _) af;generalize bx:w1.alloc (A0 #[zI 0,zI l] 49)=o at y H ax a2 af a4 p al;have bf:=okA y _ eE;have⟨b5,_⟩:=jf<|y.sz.nb b O;have bA:=vw b5 bc;have cg:=L.hL;have⟨r,a8⟩:=aw<|(ab a b).ks;obtain⟨f,b1⟩:∃f,(r.map λd=>ry a (Q a) d 0++(⟨#[10]⟩))=f:=⟨_,R⟩;have b3:fK a=iw f:=by unfold fK;grind
  have b7:∀t∈r,∃i:Nat,t=(i:Int)/\i<Q a/\jE (ab a i).k=Y:=by
   intro t q;rw[<-a8]at q;obtain⟨u,v,rfl⟩:=pq q;have⟨x,k⟩:=ij (y.sz.nb b O) O u v;have:=Iu _ 0 bA u O O;rw[k.id]at this⊢;exact⟨x,R,k.len,this⟩
  have b0:dt o (T a0 j a3) r:=by rw[<-a8];exact L.ks.below p
  have k:Hid (OkA o g (b+1) c a (Q a)/\dt o (T a0 j a3) r/\(∀t∈r,∃i:Nat,t=(i:Int)/\i<Q a/\jE (ab a i).k=Y)/\Q r=j/\(r.map λd=>ry a (Q a) d 0++(⟨#[10]⟩:Bz))=f/\fK a=iw f/\(fK a).size<=6000000000/\Q a<=3000/\Q f=j):=⟨bf,b0,b7,U,b1,b3,b4,b8,U⟩;have cc:j<=200:=O;have F:=ah p;subst bx;go_wp2_with fail;have a9:(w1.alloc<|A0 #[.int .i64 0,.int .i64 l] 49).heap.size=w1.heap.size+1:=dC _ _;generalize w1.alloc (A0 #[zI 0,zI l] 49)=o at H k F af a2 a4 a9⊢;have K:=ah a9;go_loopw [25] (λao wr=>∃d:Nat,d<=j/\ao=zI d/\Hid (Pr o (T (V g) (b+1) c) (iw<|f.take d) 0 wr)) (λao _=>j-(intOf ao).toNat)
  .exact⟨0,O,R,H⟩
  .
   obtain⟨d,_,rfl,u⟩:=hrel;by_cases b2:d<j
   .have⟨t,ar⟩:=bg k.2.2.2.1 b2;obtain⟨i,rfl,bz,bE⟩:=k.2.2.1 t<|db ar;obtain⟨_,rfl,_⟩:=(k.2.1.below u.bel).get ar;have ce:(d:Int)<(j:Int):=O;have cd:(0:Int)<=(d:Int):=O;have b6:f[d]?=V (ry a (Q a) i 0++⟨#[10]⟩):=U;have z:=vF f d _ b6;have ad:=aio f<|d+1;have bo:=k.2.2.2.2.2.2.1;rw[k.out.2.2.2.2.2.1]at bo;rw[z]at ad;simp[az]at ad;have q:(iw<|f.take d).size+((ry a (Q a) i 0).size+1)<=6000000000:=by
     have e:(⟨#[10]⟩:Bz).size=1:=rfl;omega
    have v:=k.1.s i 0 _ wr bz bE O u U;have x:=ah z;simp only at v;have⟨_,bt⟩:=aw<|ry a (Q a) i 0;rw[bt]at v x q;rw[K.out]at v;go_wp2_with fail;apply v.mono;rintro e _ ⟨rfl,b9,_⟩;have bj:=ah b9;go_wp2_with fail;have ba:=ig o _ _ ⟨#[10]⟩ _ _ bj U;rw[K.out]at ba;apply ba.mono;rintro e _ ⟨rfl,bd,_⟩;rw[aB,<-x.out]at bd;have bk:=ah bd;go_wp2;exact⟨⟨_,O,by go_num,bk⟩,by simp[intOf];omega⟩
   .obtain rfl:d=j:=O;have bt:f.take d=f:=ci U;rw[bt,<-k.out.2.2.2.2.2.1]at u;have ad:=F.out.trans<|u.bel.mono F.size;have⟨C,bz,v⟩:=u.row;have ar:Hid (jv a=ite (65536<(fK a).size) A9 (fK a)):=by show _=_;unfold jv yq;grind
    have ba:=k.2.2.2.2.2.2.1;have⟨D,bk⟩:=aw<|fK a;rw[bk]at v ar ba;have⟨z,bE⟩:=aw D.size;rw[bE]at v ar ba;obtain⟨bd,bj,rfl⟩:=aF v;have b9:wr.cell? (aj o.heap.size 1)=V (T bd z bj):=crV bz;rw[K.out]at b9;by_cases cd:65536<z
    .have x:Hid (jv a=A9):=U;have A:(65536:Int)<(z:Int):=O;go_wp2;go_ret;exact⟨by rw[x.out];rfl,ad⟩
    .have x:Hid (jv a=D):=U;have A:¬(65536:Int)<(z:Int):=O;obtain⟨a5,e⟩|⟨_,_,e⟩:=aC v
     .cases e;have bo:D=zE0:=by
       apply nK
       simp_all
      have b6:(convert 22 9 fe).run X wr= .ok nh wr:=by rfl
      go_wp2;go_ret;exact⟨by rw[x.out,bo];rfl,ad⟩
     .cases e;have b6:=Lc v;go_wp2;go_ret;exact⟨by rw[x.out];rfl,ad⟩
 .have bn:(ap !=0)=Y:=U;have a1:=dB E;have b:Hid (jv a=zE0):=by show _=_;unfold jv;grind
  go_wp2;go_ret;exact⟨by rw[b.out];rfl,B.trans<|((ay _ w1).alloc O _).mono B.size⟩
def AB(w b n c a)(h:dE w (T (V b) n c) a)(g:D5 w b a)(j:Q a=n)(i:n<=1000000000000)(l:∀N∈a,iE N)(f:∀N∈a,oC N):
  B0 X 11 #[.agg #[T (V b) n c]] w λe d=>e=A5 (A2<|jv a)/\Below w.heap.size w d:=
 abv w b n c a h g j i l f λd=>afE (aaG d) (λk=>by
  unfold ab;rw[ed];cases e:a[k.toNat]? with
  |none=>decide|some N=>exact(f N<|db e).n.2) (Bp d).2.1 (Bp d).1
end Go.Proofs.YthkcmkmkapijkaaGreatDoor
namespace Go.Proofs.YthkcmkmkapijkaaGreatDoor
open Go.RowKit Go.Maps Go.WideMaps
variable{L g i m n tab:Nat}{N:Nd}{W:World}{s:Bz}
abbrev rtA(s:Bz)(a:zOA)(m c:Nat):zAV:=#[zI 1,zI 0,zI (s.size:Nat),zI 1,zI 0,zI 0,nh,fe,T a m c]
theorem Sq.new{c d tk}{e:zAV}{fr}(f:W.heap[c]?=V (A0 e 58 fr))(l:TkR e tk n)(m:n<=1048576){o b}(k:(W.alloc o).alloc (A0 #[bI c n d,zI 0,fe] 103)=b):Hid (Sq ⟨W.heap.size,W.heap.size+1,c,d,n,tk⟩ b none [] b 0 [] .nil [] [] []):=by
 have⟨_,i,j,_⟩:=Eu k;have:=ai f;have p:=(j.block _ this).trans f;have h:b.heap[W.heap.size+1]?=V (pC ⟨W.heap.size,W.heap.size+1,c,d,n,tk⟩ ((0:Nat):Int) fe):=i;refine⟨⟨U,U,U,m⟩,⟨e,fr,p,l⟩,⟨_,h,onN⟩,⟨λ_ a=>?_,λg a=>(by cases a)⟩,λ_ a=>(by cases a),Ac.nil _ _,R,blR,λ_ _ _ _=>rfl,λg a=>(by cases a),zo,λg a=>(by cases a),.nil⟩;have:=(nbI h).1 a;simp[Value.ownBlock]at this
theorem ar4(s:Bz)(W r x n j tk)(bd:zAV)(fr)(b2:W.heap[r]?=V (A0 bd 58 fr))(bD:TkR bd tk n)(b1:n<=1048576)(cy:s.size<=1048576){R1}(hS:CL ⟨W.heap.size,W.heap.size+1,r,x,n,tk⟩ 43 #[pV ⟨W.heap.size,W.heap.size+1,r,x,n,tk⟩,zI 6] 0 R1 j)(cu:R1.sz<=40000000):
  B0 X 15 #[A2 s,bI r n x] W λe d=>∃v L,e=A5 (.agg #[v])/\Lw d W.heap.size v L/\L.map Mb.N=(one ⟨1,0,(s.size:Nat),1,0,0,zE0,[],[]⟩ R1).flat 0/\Below W.heap.size W d:=by
 have⟨_,bh⟩:=aw<|(W.alloc<|A0 #[fe] 26).alloc<|A0 #[bI r n x,zI 0,fe] 103;have S:=Sq.new b2 bD b1 bh;obtain⟨w,bf⟩:∃w:Pe,(⟨W.heap.size,W.heap.size+1,r,x,n,tk⟩)=w:=⟨_,R⟩;rw[bf]at S hS;have a0:Hid (w.pb=W.heap.size+1):=by rw[<-bf];rfl
 have bj:Hid (w.base=W.heap.size):=U;rw[(U:pV w=be (W.heap.size+1) 0)]at hS;obtain⟨cf, -,bw,b4⟩:=Eu bh;have a7:=fs cf bw;have a9:=Sq.box (cs:=#[zI 1,zI 0,zI s.size,zI 1,zI 0,zI 0,nh,s0,s0]) (t:=37) S;rw[b4]at a9;go_in;go_wp2_with fail;apply Sq.cq a9 hS U;rintro _ _ a8 a6 _ ⟨h,k,rfl,rfl⟩ S;have cz:=Sq.rd S;have⟨p,b0⟩:=aw<|Q a6;rw[b0]at S⊢;replace S:=Sq.set (q:=8) (u:=T h p k) S;go_wp2_with fail;generalize World.setCell _ _ _=b at S⊢;have⟨v,B,ao⟩:=S.row;obtain⟨af,an,rfl⟩:=aF ao;have ar:=B;rw[a0.out]at B;have al:b.cell? (aj (W.heap.size+1) 2)=V (T af (Q a8) an):=crV B;have⟨f,bk⟩:=aw<|Q a8;rw[bk]at al B ao ar;have a1:b.heap[W.heap.size+1+1]?=V (A0 (rtA s h p k) 37 (0,0)):=Sq.hd S;refine wp_region_held_drew (S:=λK=>K.heap[W.heap.size+1+1]?=V _) byR a1 (λl=>?_);simp[iC,fh];apply aI 0 (be (W.heap.size+1) 0) R R l (λd m=>by go_simp);simp[B1];apply aI 1 (be (W.heap.size+1) 0) R R l (λd m=>by go_simp);simp[B1];apply aI 2 (be (W.heap.size+1) 0) R R l (λd m=>by go_simp);simp[B1];apply aI 3 (be (W.heap.size+1) 2) R R l (λd m=>by go_simp);simp[B1];apply L7 5 21 (.agg #[zI 1,zI 0,zI s.size,zI 1,zI 0,zI 0,nh,fe,T h p k]) R R J J J (λ_ _ _ ax=>ax) byR l (λd m=>by have cB:=aE (N:=⟨1,0,s.size,1,0,0,_,[],a6⟩) m;go_simp);simp[Act.put,cC];have bA:=al;refine uG (S:=λK=>K.cell? _=V _) (C:=λj=>!(j==7||j==8||j==9||j==10)) (i:=4) (v:=T af f an) R (BG J) (λ_ _ _ ax=>ax) ?hC _ _ _ _ (BH R J) (List.contains_iff_mem.1 J) (Or.inl ⟨byR,λd m=>by go_simp⟩) l bA ?_
 .
  intro j _ c a;simp only[Bool.not_eq_false',zn,qo]at a;obtain((rfl|rfl)|rfl)|rfl:=a
  .obtain rfl:=de c;exact⟨{on:=4,ground:=Ground.data},I,R,R⟩
  all_goals
   obtain rfl:=de c;exact⟨{on:=4,ground:=Ground.phase},I,R,R⟩
 simp only[Act.put,cA,cH,cC];refine fi (i:=6) J R (λz c=>?_);go_simp;have ba:∀bo,Below b.heap.size b (b.drew.alloc bo):=λbo=>blW.alloc I _;refine c _ _ (((ba _).block _<|ai a1).trans a1) (λ_=>ag (ba _) al) ?_;simp only[cA,cH,cC];have A:=eC<|dj b<|A0 #[zI 1,zI 0,zI s.size,zI 1,zI 0,zI 0,nh,fe,T h p k] 37;have bs:(b.alloc<|A0 (rtA s h p k) 37).drew.heap[b.heap.size]?=_:=au b _;generalize World.drew (World.alloc _ _)=ch at A bs⊢;have br:=Sq.below S A;have cc:=(A.block _<|ai ar).trans ar;have cx:=br.low;have cw:f<=40000000:=by have q:=Sq.ln S;simp only[jl,Fo.sz_app,Fo.sz]at q;omega
 have⟨b5,b7,b8,b9,ca⟩:=dw CA;refine fi (i:=7) J R (λz c=>?_);apply step_append_lies _ byR _ _ _ byR _ 37 b5 _ 9 _ underlying24 b7 b8 b9 ca R Z _ f _ byR (cj ao A) _ 1 1 (zK ⟨1,0,s.size,1,0,0,_,[],a6⟩ s0 _).toList byR R (World.news_of_block bs) (by intro u bn;simp at bn;obtain rfl|rfl|rfl|rfl|rfl|rfl|rfl|rfl|rfl:=bn<;>rfl) Z byM O O _ R;intro ap am a5 cb bF bE _;obtain⟨a4,F⟩:=br.push cc (by rw[bk]) ⟨_,s0,_⟩ (by rw[uC];exact cb) bF bE (.inl ⟨R,R⟩) (.inr<|.head _) R;rw[a0.out]at a4 F;have bt:_=V (Obj.cells (rtA s h p k) 37 (0,0)):=Sq.hd a4;have H:=bt;rw[jg U]at H;have cl:a5.cell? (aj (W.heap.size+1) 2)=V (T af f an):=crV F;have cr:a5.frozen? (aj (W.heap.size+1) 2)=A3:=frR F;have a3:=aD a5 _ 2 _ _ (bI ap (f+1) am) F;have g:=ah a4;apply c _ _ H (λa=>by cases a);simp only[Act.put,cA,cH,cC];refine fi (i:=8) J R (λz c=>?_);go_simp;apply c _ _ H (λa=>by cases a);simp only[cA,cH,cC];refine fi (i:=9) J R (λz c=>?_);go_simp;apply c _ _ H (λa=>by cases a);simp only[cA,cH,cC];refine fi (i:=10) J R (λz c=>?_);go_simp;apply c _ _ bt (λa=>by cases a);refine yd byR ?_ _;generalize World.setCell _ _ _=ad at g a3⊢;have cm:ad.cell? (aj (W.heap.size+1) 2)=V (bI ap (f+1) am):=crV a3;have o:=(g.fz W.heap.size O U I).trans a7.out.1;have cn:ad.cell? (aj W.heap.size 0)=V fe:=crV o;have cp:ad.frozen? (aj W.heap.size 0)=A3:=frR o;have cg:=ah a3;go_wp2_with fail;have⟨ce,cd,a2⟩:=g.row;rw[a0.out]at cd;obtain rfl:ce=bI ap (f+1) am:=U;have⟨_,bx,bz,_⟩:=g.ac;rw[bj.out]at a2;have y:=g.each;have bc:=g.bl;rw[bj.out]at bc y;exact aA (fD R _ _ _ _ _ _ _ R (aD _ _ 0 _ _ _ o) underlying26 R byR) R ⟨_,R,_,⟨wE a2 (gG a2 o Z) 0 _,λG E=>⟨wE (y G E).1 (gG (y G E).1 o Z) 0 _,wE (y G E).2 (gG (y G E).2 o Z) 0 _⟩⟩,by rw[bx,ga,bz];rfl,a7.out.2.trans<|bc.setCell eE _⟩
def Eo(z:Int):Prop:= -9223372036854775808<=z/\z<=9223372036854775807
theorem uv(z)(a:0<=z)(b:z<=1000000):Eo z:=⟨O,O⟩
theorem atg(s p):Eo (rdI s p).n:=by
 have a:Eo 0:=uv _ Z Z;unfold rdI;split
 .exact a
 split
 .split
  .show Eo (xm s p).2.1;unfold xm;split
   .grind [Eo,wrap64]
   .split
    .rename_i c b;split at b
     .cases b
     .have:=alk _ _ _ _ b;exact⟨by grind [Int],by grind [Int]⟩
    .exact a
  .exact a
 split
 .split<;>exact a
 split<;>exact a
theorem aip(x):∀L,bgL x L=Y↔∃k∈L,bgC (aq x 0) k=Y\/bgT x k=Y
 |[]=>by simp[bgL]|k::r=>by
  rw[bgL];constructor
  .intro h;split at h
   .grind
   split at h
   .grind
   .have⟨c,a,b⟩:=(aip x r).1 h;grind
  .rintro ⟨c,a,b⟩;split
   .rfl
   split
   .rfl
   .rename_i d e;obtain rfl|a:=dI.1 a
    .grind
    .exact(aip x r).2 ⟨c,a,b⟩
theorem aiq{x k}:bgT x k=Y↔x.size<=(rK k).size/\∀i,i<x.size->aq x i=aq (rK k) i:=by
 unfold bgT;rw[dF,tr,qo,iH,iH];refine and_congr_right (λ_=>?_);have b:((rK k).extract 0 x.size).size=x.size:=byS;have a:∀i,i<x.size->aq ((rK k).extract 0 x.size) i=aq (rK k) i:=λi _=>by simp_all [gq,qp]
 grind [ByteArray.ext,Array.toList_inj,amL]
theorem aoG(a b):∀f n,a.size<n+f->n<=a.size->n<=b.size->(∀i,i<n->aq a i=aq b i)->(cmL a b f n<=a.size/\cmL a b f n<=b.size)/\(∀i,i<cmL a b f n->aq a i=aq b i)/\¬(cmL a b f n<a.size/\cmL a b f n<b.size/\aq a (cmL a b f n)=aq b (cmL a b f n))
 |0,n,h,c,d,e=>O|f+1,n,h,c,d,e=>by
  rw[cmL];split
  .rename_i g;refine aoG a b f _ O O O (λi j=>?_);grind
  grind
theorem air{a b}:m<=cmF a b↔m<=a.size/\m<=b.size/\∀i,i<m->aq a i=aq b i:=by
 obtain⟨⟨_,_⟩,_,_⟩:=aoG a b (a.size+1) 0 O O O O;grind [cmF]
theorem aoH(x):∀(L)(a),m<=rcF x L a↔m<=a\/∃k∈L,m<=bnF k x
 |[],a=>by simp[rcF]|k::L,a=>by
  show m<=rcF x L (max a<|bnF k x)↔_;rw[aoH];grind
theorem aoI(s):∀f p i,p<=i->i<pJ s f p->bi (aq s i)=Y\/co (aq s i)=Y
 |0,p,i,b,a=>by grind [pJ]|f+1,p,i,b,a=>by
  rw[pJ]at a;split at a
  .rename_i g;obtain rfl|q:=jx b
   .exact g
   .exact aoI s f _ i q a
  .omega
theorem aoJ(s):∀f p,s.size<p+f->¬(bi (aq s<|pJ s f p)=Y\/co (aq s<|pJ s f p)=Y)
 |0,p,h=>by grind [pJ,GJ]|f+1,p,h=>by
  rw[pJ];split
  .exact aoJ s f _ O
  omega
theorem af8(s):∀f p m,m<=f->(∀i,i<m->bi (aq s<|p+i)=Y)->p+m<=pJ s f p
 |0,p,m,h,g=>by rw[pJ];omega|f+1,p,0,h,g=>by
  rw[pJ];split
  .have:=af8 s f (p+1) 0 O O;omega
  .omega|f+1,p,m+1,h,g=>by
  rw[pJ,ae<|.inl<|g 0 O];have:=af8 s f (p+1) m O (λi _=>U);omega
def fx1:∀k:Fin 79,bi (aq (di (k.val:Int)) 0)=Y->∀i:Fin 6,i.val<(di (k.val:Int)).size->bi (aq (di (k.val:Int)) i.val)=Y:=by decide+kernel
def fx2:∀k:Fin 79,co (aq (di (k.val:Int)) 0)=A3/\aq (di (k.val:Int)) 0≠34/\(k.val<=4->(di (k.val:Int)).size=0):=by decide+kernel
def fx4:∀k:Fin 79,k.val≠7->bi (aq (di (k.val:Int)) 0)=A3->(di (k.val:Int)).size<=3/\∀m:Fin 4,1<=m.val->m.val<=(di (k.val:Int)).size->∃i:Fin 30,bB lE i.val=(di (k.val:Int)).extract 0 m.val:=by decide+kernel
def avI:∀i j:Fin 30,j.val<=i.val->aq (bB lE j.val) 0=aq (bB lE i.val) 0->(bB lE i.val).size<=(bB lE j.val).size:=by decide+kernel
theorem avJ:∀i:Fin 30,(bB lE i.val).size≠0:=by decide+kernel
theorem aoK(q):∀f k i,k<=i->i<k+f->q (bB lE i)=Y->∃j,A7 q f k=V j/\j<=i/\q (bB lE j)=Y
 |0,k,i,h1,a,h=>O|f+1,k,i,h1,a,h=>by
  rw[A7];split
  .grind
  .rename_i g;obtain rfl|h1:=jx h1
   .grind
   .exact aoK q f _ i h1 O h
theorem avK(h:0<=aq s i):i<s.size:=by
 grind [Nat.lt_or_ge,dH]
theorem avL(h:i<s.size):0<=aq s i:=by grind [aq]
theorem ar6{p}(A:aq s p≠10){k}(C:1<=k/\k<=78)(B:k≠7)(x:1<=m)(y:m<=(di k).size)(c:∀i,i<m->aq s (p+i)=aq (di k) i):p+m<=(rdI s p).a:=by
 obtain⟨k,rfl⟩:∃f:Fin 79,k=f.val:=⟨⟨k.toNat,O⟩,U⟩;have u:=c 0 O;rw[jy]at u;have o:=λi d=>avK (by rw[c i d];exact avL O);have E:=o (m-1) O;obtain⟨_,_,_⟩:=fx2 k;have G:=amI k.val;unfold rdI;by_cases n:bi (aq s p)=Y
 .rw[ae n];have f:=fx1 k U;exact af8 s _ p m O (λi d=>by rw[c i d];exact f ⟨i,O⟩ U)
 rw[aa n,aa U,aa O];obtain⟨_,t⟩:=fx4 k O U;obtain⟨i,d⟩:=t ⟨m,O⟩ x y;have F:=λb e=>gq s p _ b O<|o b e;have H:((di (k.val:Int)).extract 0 m).size=m:=byS;have K:∀b,b<m->aq (s.extract p s.size) b=aq ((di (k.val:Int)).extract 0 m) b:=λb e=>by simp_all [gq,qp]
 have q:Lib.hasPrefix (s.extract p s.size).data.toList (bB lE i.val).data.toList=Y:=by
  grind [ae4,pB]
 have j:=aat (s.extract p s.size) U;obtain⟨b,e,v,w⟩:=aoK (λz=>Lib.hasPrefix _ z.data.toList) 30 0 _ O O q;unfold Ht at j;rw[e]at j;obtain⟨_,_,r,_⟩:=j;rw[aa r];have l:∀(i:Fin 30),Lib.hasPrefix (s.extract p s.size).data.toList (bB lE i.val).data.toList=Y->aq (s.extract p s.size) 0=aq (bB lE i.val) 0:=λi h=>by
  have c:=amh i;unfold inB at c;rw[ae4 _ _ (aL c).1]at h;unfold pB at h;obtain g|g:=(aL h).1;all_goals (grind [absurd,avJ])
 have f:=avI i _ v<|(l ⟨b,O⟩ w).symm.trans<|l i q;grind
section
variable {s : Bz} {p r : Nat} {K : zLI}
theorem af9(d:∀m,1<=m->m<=r->p+m<=s.size/\yu K (s.extract p<|p+m)=Y)(e:∀m,1<=m->m<r->A6 s p m=A3)(g:p+(r+1)<=s.size->yu K (s.extract p<|p+(r+1))=Y->1<=r/\A6 s p r=Y):∀f n,n<=r->r<n+f->(n=r->1<=r->A6 s p r=A3)->wrL s p K f n=r
 |0,n,a,b,_=>O|f+1,n,a,b,c=>by
  rw[wrL];obtain q|q:=cG n r
  .obtain⟨k,i⟩:=d (n+1) O q;rw[ae ⟨O,i⟩];obtain q2|q2:=cG (n+1) r
   .rw[aa U];exact af9 d e g f _ q O O
   .have h:n+1=r:=O;split
    .exact h
    .rename_i j;exact af9 d e g f _ O O (λ_ _=>U)
  grind
theorem av0(v:ue s p)(an:∀k∈K,1<=k/\k<=78)(a5:co (aq s p)=Y->2 ∉ K/\3 ∉ K)(a6:aq s p=34->4 ∉ K)(F:aq s p≠10):wrL s p K (s.size+1) 0=rcF (s.extract p (rdI s p).a) K (cmF (s.extract p (rdI s p).a) Az):=by
 have⟨L,B⟩:=abr s p v.lt;have a8:=v.lt;have⟨a,ap⟩:=aw<|(rdI s p).a;have o:=λ{k:Int} e f {m:Nat} x n d=>ar6 F (k:=k) e f (m:=m) x n d;rw[ap]at L B o⊢;have w:(s.extract p a).size=a-p:=byS;have d:∀b,b<a-p->aq (s.extract p a) b=aq s (p+b):=λb l=>gq s p a b B;have ao:rcF (s.extract p a) K (cmF (s.extract p a) Az)<=a-p:=by rw[<-w];exact af3 _ _ _<|Ja _ _ _ _ O
 have g:=λm=>aoH (s.extract p a) (m:=m) K<|cmF (s.extract p a) Az;generalize rcF (s.extract p a) K (cmF (s.extract p a) Az)=A at ao g;have a3:Az.size=2:=rfl;have E:∀m,p+m<=s.size->(s.extract p<|p+m).size=m/\∀b,b<m->aq (s.extract p<|p+m) b=aq s (p+b):=λm ax=>⟨byS,λb l=>gq s p _ b ax⟩;refine af9 (λm x n=>⟨O,?_⟩) (λm x n=>?_) (λam u=>?_) _ 0 O O O
 .obtain⟨t,j⟩:=E m O;unfold yu;obtain h|⟨k,e,h⟩:=(g m).1 n
  .have⟨ak,al,i⟩:=air.1 h;have r:=i 0 O;rw[d 0 O]at r;obtain rfl|rfl:=(O:m=1\/m=2)
   .rw[ae ⟨t,by rw[j 0 O,r];rfl⟩]
   .have C:=i 1 O;rw[d 1 O]at C;exact absurd ⟨r,C⟩ v.nd
  .split
   .rfl
   refine(aip _ K).2 ⟨k,e,?_⟩;unfold bnF at h;rw[aa O]at h;have ad:aq (s.extract p a) 0=aq (s.extract p<|p+m) 0:=U;split at h
   .rename_i G;split at h
    .rename_i ar;left;rw[ad]at ar;unfold bgC;rw[tr];grind [bnC]
    .omega
   .have⟨ak,al,i⟩:=air.1 h;have f:k≠7:=λc=>by
     subst c;have:=i 0 O;rw[d 0 O]at this;exact F this
    grind [aiq,ag5]
 .unfold A6;by_cases a7:bi (aq s p)=Y
  .have c:a=pJ s (s.size+1) p:=by grind [rdI]
   have y:=aoI s (s.size+1) p (p+m) O O;grind [lk,aq]
  grind
 .obtain⟨t,j⟩:=E _ am;unfold yu at u;split at u
  .rename_i af;have q:=af.2;rw[j 0 O]at q;have y:=o (k:=62) Z Z (m:=1) O Z (λb l=>by obtain rfl:b=0:=O;exact q);have:=(g 1).2<|.inl<|air.2 ⟨O,O,λb l=>by obtain rfl:b=0:=O;rw[d 0 O];exact q⟩;omega
  .obtain⟨k,e,h⟩:=(aip _ K).1 u;rw[j 0 O,jy]at h;obtain h|h:=h
   .unfold bgC at h;rw[tr]at h;obtain⟨rfl,h⟩|⟨a4,h⟩|⟨rfl,h⟩:=h
    .have c:a=pJ s (s.size+1) p:=by grind [rdI]
     have a9:=aam s p h;have y:=(g<|a-p).2<|.inr ⟨1,e,by unfold bnF;rw[aa O,ae O,ae (by rw[d 0 O];exact h),w];omega⟩;have a0:=aoJ s (s.size+1) p O;rw[<-c]at a0;obtain rfl:A=a-p:=O;grind [A6,lk]
    all_goals grind
   .have⟨z,H⟩:=aiq.1 h;rw[t]at z H;have f:k≠7:=λc=>by
     subst c;have:(rK 7).size=0:=by decide+kernel
     omega
    rw[ag5 k f]at z H;have av:=an k e;have y:=o av f O z (λb l=>U);have G:¬(k=1\/k=2\/k=3\/k=4):=λc=>by
     have:=(fx2 ⟨k.toNat,O⟩).2.2 U;grind
    have:=(g<|A+1).2<|.inr ⟨k,e,by unfold bnF;rw[aa O,aa G,air,w];grind⟩;omega
end
theorem Ep(a):∀(j)(k),k∈pA a j↔1<=k/\k<=(j:Int)/\kJ a k=Y
 |0,k=>by grind [pA]|j+1,k=>by
  rw[pA];split
  .rename_i g;rw[dg,Ep,ic];grind
  .rename_i g;rw[Ep];grind
theorem aga(s p):(co (aq s p)=Y/\(xw s p=2\/xw s p=3))\/(aq s p=34/\xw s p=4)\/(xw s p=0/\co (aq s p)=A3/\aq s p≠34):=by
 grind [xw]
theorem af4.at_{s R1 z}(h:af4 s R1 z):z=R1.2.2:=by
 have⟨b,f,n,ap,av,L,i,j,F,C⟩:=h.ex;have am:pA f 78=Cs n:=j.sim.nm _ O;have t:∀k,1<=k->k<=78->kJ f k=(feedL n k).2:=λk r w=>j.sim.may r w;have ar:kJ f 2=kJ f 3:=by rw[t 2 O O,t 3 O O];exact asv n j.sim.o2 j.n23
 have u:(co (aq s b)=Y->kJ f 2=A3\/kJ f 3=A3)->(aq s b=34->kJ f 4=A3)->aq s b≠10->z=(wrongF s b (Cs n):Nat):=λan ao G=>by
  have ax:=av0 (K:=Cs n) i (λk d=>by grind [Ep]) (λc=>by
   grind [Ep]) (λc=>by grind [Ep]) G
  grind [wrongF,Bo]
 cases d:(rdI s b).ok with
 |true=>
  have⟨l,g⟩:=C d;rw[j.stop i d l g];unfold rdI at l g d;refine u (λc=>?_) (λc=>?_) (λc=>?_)
  .have B:¬bi (aq s b)=Y:=λp=>by grind [bi,co]
   rw[aa B,ae c]at g d;split at d
   .rename_i p;rw[ae p]at g;grind [xm]
   grind
  .rw[c]at g d;rw[aa Z,aa Z,ae rfl]at g d;grind
  .apply l;have e:aq (s.extract b s.size) 0=10:=by rw[gq s b _ 0 O (by have:=i.lt;omega)];exact c
   have q:qA (s.extract b s.size)=7:=by grind [qA]
   rw[c,aa Z,aa Z,aa Z,aa O];exact q|false=>
  obtain⟨p,rfl,af,m⟩:=j.step i;have l:¬tG s b=7:=λe=>by grind [afa]
  have y:tG s b=xw s b:=by grind [tG]
  rw[aa l,y]at m;have x:aq s b≠10:=λc=>by
   have e:aq (s.extract b s.size) 0=10:=by rw[gq s b _ 0 O (by have:=i.lt;omega)];exact c
   have q:qA (s.extract b s.size)=7:=by grind [qA]
   unfold rdI at d;rw[c,aa Z,aa Z,aa Z,aa O]at d;cases d
  split at m
  .rename_i o;rw[aa U]at m;rw[<-m,F];show(b:Int)+_=(((rdI s b).a:Nat):Int);have⟨H,v⟩:=abr s b i.lt;have E:(s.extract b (rdI s b).a).size=(rdI s b).a-b:=byS;have al:=Gx f<|s.extract b (rdI s b).a;have ak:(rdI s b).a-b<=Bo f (s.extract b (rdI s b).a):=by
    by_cases r:(rdI s b).a-b=0
    .omega
    unfold Bo;refine(aoH _ _ _).2<|.inr ⟨xw s b,?_,?_⟩
    .rw[Ep];have ad:=aau s b;grind [C0]
    .have A:aq (s.extract b (rdI s b).a) 0=aq s b:=gq s b _ 0 v;unfold bnF;rw[aa O,E,A];obtain⟨c,e|e⟩|⟨c,e⟩|⟨e,_⟩:=aga s b
     .simp_all [bnC,aq]
     .simp_all [bnC,aq]
     .simp_all [bnC,aq]
     .rw[e]at o;cases o
   omega
  .rename_i o;rw[<-m];unfold C0 at o;refine u (λc=>?_) (λc=>?_) x
   .rcases aga s b with⟨_,e|e⟩|⟨h,e⟩|⟨_,h,_⟩
    .grind
    .grind
    .rw[h]at c;exact absurd c Z
    grind
   .rcases aga s b with⟨h,_⟩|⟨h,e⟩|⟨_,_,h⟩
    .rw[c]at h;exact absurd h Z
    all_goals grind
