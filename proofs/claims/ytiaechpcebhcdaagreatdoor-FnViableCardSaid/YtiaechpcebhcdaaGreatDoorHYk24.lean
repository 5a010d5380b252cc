import Derived.Test.YtiaechpcebhcdaaGreatDoorHYk08
import Derived.Test.YtiaechpcebhcdaaGreatDoorHYk22
set_option linter.all false
set_option maxRecDepth 100000
set_option maxHeartbeats 25600000
open Go.Value renaming slice->Q,int->A2,pointer->A6,string->B2,tuple->B4
open Option renaming some->V,none->A0
open List renaming length->Ax,set->B0
open Go.IntKind renaming i64->A3
open Go.AllReadyH renaming cons->A5,nil->A9
open Go renaming wpAnyH_ready->Br,World->B1,Value->B3,Calls->B5
namespace Go.Proofs.YtiaechpcebhcdaaGreatDoor
open Go.RowKit
variable{L M i n:Nat}{N:Nd}{ak an:Option Addr}{w0:World}
theorem agf(op:Int):4<=(pwF op).2/\(pwF op).2<=11:=by
 unfold pwF;grind
def aep(k op:Int):2<=yy k op/\yy k op<=11:=by
 have:=agf op;unfold yy;omega
abbrev Cel(W:B1)(b:Nat)(N:Nd)(vn vk:B3):Prop:=W.cell? ⟨b,0,A0⟩=V (A2 A3 N.k)/\W.cell? ⟨b,1,A0⟩=V (A2 A3 N.f)/\W.cell? ⟨b,2,A0⟩=V (A2 A3 N.t)/\W.cell? ⟨b,3,A0⟩=V (A2 A3 N.l)/\W.cell? ⟨b,4,A0⟩=V (A2 A3 N.op)/\W.cell? ⟨b,5,A0⟩=V (A2 A3 N.n)/\W.cell? ⟨b,6,A0⟩=V (B2 N.x)/\W.cell? ⟨b,7,A0⟩=V vn/\W.cell? ⟨b,8,A0⟩=V vk
theorem amo{g:Addr}{h tab:Nat}(am:N.k≠29->N.k≠28->1<=N.op/\N.op<=18){e ck:Nat}(R:NdR w0 g i N an M e ak L ck)(a0:Ax N.ks=2){q r:Nat}(C:N.ks[0]?=V (q:Int))(l:N.ks[1]?=V (r:Int)){f:Int}(a5:0<=f/\f<=50){ao E ad:Bz}(z:Hid (Wr w0 (Q (V g) n h) tab 180 #[pW w0,A2 A3 (q:Int),A2 A3 (G9 N f)] E))(av:Hid (Wr w0 (Q (V g) n h) tab 180 #[pW w0,A2 A3 (r:Int),A2 A3 (yy N.k N.op)] ad)):
  Wr w0 (Q (V g) n h) tab 217 #[pW w0,jA N (Q an M e) (Q ak L ck),B2 ao,A2 A3 f] (E++ao++ad):=by
 intro af G B a1;have al:=B.lt;have a4:=aep N.k N.op;obtain⟨b,rfl⟩:=R.ks.ptr;obtain rfl:L=2:=by have:=R.hL;omega
 have c:=aj R;have y:=aj λa3 a2=>LG N a3 a2 am;unfold jA at y⊢;unfold G9 at z;generalize yy N.k N.op=Rr at *;simp only[ax]at a1;have a:=aj (Bx.new B N (Q an M e) (Q (V b) 2 ck));have⟨m,o,p,s,t,u,v,w,x⟩:=a.cells;have ap:=a.kid0 c.ks C;have ar:=a.kid c.ks l Z;have F:Hid (∀{af:Bz}{d:B1},Bx w0 (Q (V g) n h) tab G N (Q an M e) (Q (V b) 2 ck) af d->Cel d G.heap.size N (Q an M e) (Q (V b) 2 ck)/\d.cell? ⟨b.block,b.off+1,A0⟩=V (A2 A3 (r:Int))):=λa=>⟨a.cells,a.kid c.ks l Z⟩;clear B R am a0;by_cases j:Rr=f;all_goals
  first|have aL:=kqs j|have aL:(Rr==f)=false:=U
  first|rw[ab j]at z|rw[aa j]at z
  clear j;go_in
  repeat (go_wp2_with fail;(first|(go_at_call 244;refine dm (y _ _ _) λd A=>?_;have a:=aj (a.below A);clear m o p s t u v w x;obtain⟨m,o,p,s,t,u,v,w,x⟩:=a.cells;have ap:=a.kid0 c.ks C;have ar:=a.kid c.ks l Z)|(refine Bx.stp a (ai _ _) (by with_reducible first|exact aj (Ef _)|omega) al U ?_;intro d a;have a:=aj a;clear m o p s t u v w x;obtain⟨m,o,p,s,t,u,v,w,x⟩:=a.cells;have ap:=a.kid0 c.ks C;have ar:=a.kid c.ks l Z)))
  go_wp2_with fail;go_region_held3 (λag=>Cel ag G.heap.size N (Q an M e) (Q (V b) 2 ck)/\ag.cell? ⟨b.block,b.off+1,A0⟩=V (A2 A3 (r:Int))) (first|exact F K|exact F H|exact F (a.below (bu (ai _ _)))|go_keep) (first|(go_at_call 244;refine dm (y _ _ _) λd A=>?_;have H:=(a.below (bu (ai _ _))).below A)|(go_at_call 180;refine Bx.stp (aj H) (ai _ _) av al U ?_;intro d K))
  go_wp2_with fail;go_end0
  exact Bx.fin (aj K) (by simp only[dJ])
def aiJ{g:Addr}{q:Nat}{tab:Nat}(al:n<=1048576)(H:i<n)(f:N.k=31->1<=N.op/\N.op<=18){c ck:Nat}(R:NdR w0 g i N an M c ak L ck)(d:N.k=31){r:Int}(ag:¬lr N.k N.op<r)(am:(eI (60+N.op)).size<=4){p:Bz}(m:Hid (Wr w0 (Q (V g) n q) tab 217 #[pW w0,jA N (Q an M c) (Q ak L ck),B2 (⟨#[32]⟩++eI (60+N.op)++⟨#[32]⟩),A2 A3 (lr N.k N.op)] p)):
  Wr w0 (Q (V g) n q) tab 180 #[pW w0,A2 A3 (i:Int),A2 A3 r] p:=by
 intro C t b af;have w:=b.lt;have⟨z0,A,B⟩:=b.cells;have⟨ao,ap,ar,av,aL,a0,a1,a2,a3,_,_⟩:=R.rd t b.bel;have a:=aj (Bx.new b N (Q an M c) (Q ak L ck));have K:(i:Int)<(n:Int):=O;have ad:(0:Int)<=(i:Int):=O;have a7:=kqf d;have G:=kqs d;have l:=aj λz y=>BJ N z y f;have u:=aj (uf (60+N.op));have⟨a4,a5⟩:=f d;have x:IntKind.i64.wrap (60+N.op)=60+N.op:=by rw[bJ];omega
 generalize eI (60+N.op)=s at *;have E:¬9223372036854775807<1+s.size:=O;have F:¬9223372036854775807<1+s.size+1:=O;unfold jA at l m;generalize lr N.k N.op=a6 at *;clear b R d f B A;go_in;go_wp2_with (go_at_call 216;refine dm (l _ _ _) λo e=>?_;have a:=aj (a.below e);obtain⟨a8,a9,ba,bb,bc,bd,bf,bg,bh⟩:=a.cells);go_region_held3 (λv=>Cel v t.heap.size N (Q an M c) (Q ak L ck)) (first|exact j.cells|exact h.cells|exact(a.below (bu (ai _ _))).cells|go_keep) (first|(go_at_call 59;(try rw[x]);refine dm (u _) λo e=>?_;have h:=(a.below (bu (ai _ _))).below e)|(go_at_call 217;refine Bx.stp (aj h) (ai _ _) m w O ?_;intro o j))
 go_wp2_with fail;go_end0
 exact Bx.fin (aj j) rfl
section
variable (w0 : World) (vt : Value) (t : Nat)
inductive Hn (p1:Addr) (n i:Nat) (ns:List Nd) (N:Nd) (vn vk:Value):FuncId->Array Value->Bz->Prop
 |blk {Y:Bz}:Hid (N.k=1)->Hid (WB w0 vt t i Y)->Hn p1 n i ns N vn vk 110 #[pW w0,.int .i64 (i:Int)] (Y)
 |let0:List.length N.nm<=200->Hid (N.k=2)->List.length N.ks=0->Hn p1 n i ns N vn vk 110 #[pW w0,.int .i64 (i:Int)] (⟨#[108,101,116,32]⟩++gx N.nm)
 |let1 {X:Bz}:List.length N.nm<=200->Hid (N.k=2)->0<List.length N.ks->Hid (WX w0 vt t N.ks X)->Hn p1 n i ns N vn vk 110 #[pW w0,.int .i64 (i:Int)] (⟨#[108,101,116,32]⟩++gx N.nm++(⟨#[32,61,32]⟩++X))
 |cst {s E:Bz}{q:Nat}:Hid (N.k=3)->List.length N.ks=1->List.length N.nm=1->N.nm[0]?=some s->N.ks[0]?=some (q:Int)->Hid (WE w0 vt t q E)->Hn p1 n i ns N vn vk 110 #[pW w0,.int .i64 (i:Int)] (⟨#[99,111,110,115,116,32]⟩++s++⟨#[32,61,32]⟩++E)
 |fns {s Y:Bz}{q:Nat}:Hid (N.k=4)->List.length N.ks=1->List.length N.nm=1->N.nm[0]?=some s->N.ks[0]?=some (q:Int)->Hid (WD w0 vt t q Y)->Hn p1 n i ns N vn vk 110 #[pW w0,.int .i64 (i:Int)] (⟨#[102,110,32]⟩++s++Y)
 |set {X Z1:Bz}{m:Nat}:Hid (N.k=5)->1<=m/\m<List.length N.ks->Hid (N.n=(m:Int))->Hid (WX w0 vt t (N.ks.take m) X)->Hid (WX w0 vt t (N.ks.drop m) Z1)->Hn p1 n i ns N vn vk 110 #[pW w0,.int .i64 (i:Int)] (X++⟨#[32,61,32]⟩++Z1)
 |one {E:Bz}{q:Nat}:Hid (N.k=6)->List.length N.ks=1->N.ks[0]?=some (q:Int)->Hid (WE w0 vt t q E)->Hn p1 n i ns N vn vk 110 #[pW w0,.int .i64 (i:Int)] (E)
 |iff {Y:Bz}:Hid (N.k=7)->Hid (Wr w0 vt t 182 #[pW w0,jA N vn vk,.string ⟨#[105,102,32]⟩] Y)->Hn p1 n i ns N vn vk 110 #[pW w0,.int .i64 (i:Int)] (Y)
 |whl {E Y:Bz}{q r:Nat}:Hid (N.k=8)->List.length N.ks=2->N.ks[0]?=some (q:Int)->N.ks[1]?=some (r:Int)->Hid (WE w0 vt t q E)->Hid (WB w0 vt t r Y)->Hn p1 n i ns N vn vk 110 #[pW w0,.int .i64 (i:Int)] (⟨#[119,104,105,108,101,32]⟩++E++⟨#[32]⟩++Y)
 |fr {X Y Z1:Bz}{k q:Nat}:List.length N.nm<=200->Hid (N.k=9)/\Z1=⟨#[32,61,32]⟩/\(k=2\/k=3)\/Hid (N.k=10)/\Z1=⟨#[32,105,110,32]⟩/\k=1->List.length N.ks=k+1->N.ks[k]?=some (q:Int)->Hid (WX w0 vt t (N.ks.take k) X)->Hid (WB w0 vt t q Y)->Hn p1 n i ns N vn vk 110 #[pW w0,.int .i64 (i:Int)] (⟨#[102,111,114,32]⟩++gx N.nm++Z1++X++⟨#[32]⟩++Y)
 |brk:Hid (N.k=11)->Hn p1 n i ns N vn vk 110 #[pW w0,.int .i64 (i:Int)] (⟨#[98,114,101,97,107]⟩)
 |nxt:Hid (N.k=12)->Hn p1 n i ns N vn vk 110 #[pW w0,.int .i64 (i:Int)] (⟨#[110,101,120,116]⟩)
 |ret0:Hid (N.k=13)->List.length N.ks=0->Hn p1 n i ns N vn vk 110 #[pW w0,.int .i64 (i:Int)] (⟨#[114,101,116,117,114,110]⟩)
 |ret1 {X:Bz}:Hid (N.k=13)->0<List.length N.ks->Hid (WX w0 vt t N.ks X)->Hn p1 n i ns N vn vk 110 #[pW w0,.int .i64 (i:Int)] (⟨#[114,101,116,117,114,110]⟩++(⟨#[32]⟩++X))
 |try_ {X Y:Bz}{q r:Nat}:List.length N.nm<=200->Hid (N.k=14)->List.length N.ks=2->N.ks[0]?=some (q:Int)->N.ks[1]?=some (r:Int)->Hid (WB w0 vt t q X)->Hid (WB w0 vt t r Y)->Hn p1 n i ns N vn vk 110 #[pW w0,.int .i64 (i:Int)] (⟨#[116,114,121,32]⟩++X++⟨#[32,99,97,116,99,104,32]⟩++gx N.nm++⟨#[32]⟩++Y)
 |thr {E:Bz}{q:Nat}:Hid (N.k=15)->List.length N.ks=1->N.ks[0]?=some (q:Int)->Hid (WE w0 vt t q E)->Hn p1 n i ns N vn vk 110 #[pW w0,.int .i64 (i:Int)] (⟨#[116,104,114,111,119,32]⟩++E)
 |dfr {E:Bz}{q:Nat}:Hid (N.k=16)->List.length N.ks=1->N.ks[0]?=some (q:Int)->Hid (WE w0 vt t q E)->Hn p1 n i ns N vn vk 110 #[pW w0,.int .i64 (i:Int)] (⟨#[100,101,102,101,114,32]⟩++E)
 |bod {Y Z1:Bz}{q:Nat}:List.length N.nm<=200->(N.op≠1/\Z1=ByteArray.empty\/Hid (N.op=1)/\(List.length N.nm=0/\Z1=⟨#[46,46,46]⟩\/0<List.length N.nm/\Z1=⟨#[44,32]⟩++⟨#[46,46,46]⟩))->List.length N.ks=1->N.ks[0]?=some (q:Int)->Hid (WB w0 vt t q Y)->Hn p1 n i ns N vn vk 181 #[pW w0,.int .i64 (i:Int)] (⟨#[40]⟩++gx N.nm++Z1++⟨#[41,32]⟩++Y)
 |br2 {word E Y:Bz}{q r:Nat}:List.length N.ks=2->N.ks[0]?=some (q:Int)->N.ks[1]?=some (r:Int)->Hid (WE w0 vt t q E)->Hid (WB w0 vt t r Y)->Hn p1 n i ns N vn vk 182 #[pW w0,jA N vn vk,.string word] (word++E++⟨#[32]⟩++Y)
end
theorem acv{e:B1}{g:Addr}{n o:Nat}{ns:List Nd}(bg:fj e (Q (V g) n o) ns)(bn:Co e g ns)(bv:Ax ns=n)(bt:n<=1048576){tab i:Nat}(bo:i<n){N:Nd}(bs:Ax N.ks<=1048576){t s:Option Addr}{l p L ck:Nat}(R:NdR e g i N t l p s L ck){f:FuncId}{args:Array B3}{y:Bz}(ag:Hn e (Q (V g) n o) tab g n i ns N (Q t l p) (Q s L ck) f args y):
  Wr e (Q (V g) n o) tab f args y:=by
 intro w a7 k u;have ap:=k.lt;have⟨z0,bD,bE⟩:=k.cells;have ad:=R.hL;have af:=R.hM;have bh:=R.cap;have a:=aj (Bx.new k N (Q t l p) (Q s L ck));have⟨av,aL,a0,a1,a2,a3,a4,a5,a6,_,_⟩:=R.rd a7 k.bel;have bp:(i:Int)<(n:Int):=O;have br:(0:Int)<=(i:Int):=O;cases ag
 case' let1|ret1=>have ar:(0:Int)<(L:Int):=O
 case' let1 hX=>have r:=aj (hX _ R.ks)
 case' ret1 hX=>have r:=aj (hX _ R.ks)
 case' iff hX=>unfold jA at hX
 case' set b _ hm _ hX hZ=>
  obtain⟨m,rfl⟩:=R.ks.ptr;have r:=aj (hX (Q (V m) b ck) (R.ks.take b O));have bc:=aj (hZ (Q (V (m.add b)) (L-b) (ck-b)) (R.ks.drop b _ O O));have al:¬ck=0:=O;have am:(b:Int)<=(ck:Int):=O;have bj:(b:Int)<=(L:Int):=O;have bk:¬ck=b:=O;have bl:(0:Int)<=(b:Int):=O
 case' fr v _ _ d _ _ hX _=>
  obtain⟨m,rfl⟩:=R.ks.ptr;have r:=aj (hX (Q (V m) v ck) (R.ks.take v O));have al:¬ck=0:=O;have am:(v:Int)<=(ck:Int):=O;obtain⟨d,rfl,rfl|rfl⟩|⟨d,rfl,rfl⟩:=d
 case' bod d _ _ _=>
  obtain⟨d,rfl⟩|⟨d,⟨ao,rfl⟩|⟨ao,rfl⟩⟩:=d;all_goals first|have K:=kqs d.out|have K:(N.op==1)=false:=U
  all_goals try have ar:(0:Int)<(l:Int):=O
 all_goals
  try simp only[ax]at u
  try (have h:=R.ks.ptr;obtain⟨m,rfl⟩:=h)
  try (have h:=R.nm.ptr;obtain⟨bw,rfl⟩:=h)
  try have bd:Hid (Wr e (Q (V g) n o) tab 178 #[pW e,Q _ l p] (gx N.nm)):=λw x k u=>afu e _ _ N.nm w tab x k R.nm O u
  have c:=aj R;try have bx:=kqf (by with_reducible assumption:Hid (N.k=_)).out
  try have bf:=kqs (by with_reducible assumption:Hid (N.k=_)).out
  try (have h:=ad.symm.trans (by with_reducible assumption:Ax N.ks=_);subst h)
  try (have h:=af.symm.trans (by with_reducible assumption:Ax N.nm=_);subst h)
  have⟨z,A,B,C,E,q,F,G,H⟩:=a.cells
  (try have a8:=a.kid0 c.ks Cm)
  (try have a9:=a.kid c.ks (j:=1) Cm Z)
  (try have ba:=a.kid c.ks (j:=2) Cm Z)
  (try have bb:=a.kid c.ks (j:=3) Cm Z)
  (try rw[(by with_reducible assumption:Hid (N.n=_)).out]at q)
  try have bA:=a.name0 c.nm Cm
  try unfold jA
  go_in
  repeat (go_wp2_with fail;refine Bx.stp a (ai _ _) (by with_reducible first|exact aj (Ef _)|assumption) ap (by(try simp only[ax]);omega) ?_;intro x a;have a:=aj a;clear z A B C E q F G H;(try clear av aL a0 a1 a2 a3 a4 a5 a6 z0);obtain⟨z,A,B,C,E,q,F,G,H⟩:=a.cells;(try have a8:=a.kid0 c.ks Cm);(try have a9:=a.kid c.ks (j:=1) Cm Z);(try have ba:=a.kid c.ks (j:=2) Cm Z);(try have bb:=a.kid c.ks (j:=3) Cm Z);(try rw[(by with_reducible assumption:Hid (N.n=_)).out]at q))
  go_wp2_with fail;first|go_end0|refine aD (iI rfl _ _ _) rfl ?_
  exact Bx.fin a (by simp only[dJ,ByteArray.empty_append])
section
variable (w0 : World) (vt : Value) (t : Nat)
inductive BrO (p1:Addr) (n i:Nat) (ns:List Nd) (N:Nd) (vn vk:Value):FuncId->Array Value->Bz->Prop
 |br3 {word E Y Z1:Bz}{q r c:Nat}:List.length N.ks=3->N.ks[0]?=some (q:Int)->N.ks[1]?=some (r:Int)->N.ks[2]?=some (c:Int)->Hid (WE w0 vt t q E)->Hid (WB w0 vt t r Y)->c<n/\(nodeI ns c).k≠7->Hid (WB w0 vt t c Z1)->BrO p1 n i ns N vn vk 182 #[pW w0,jA N vn vk,.string word] (word++E++⟨#[32]⟩++Y++⟨#[32,101,108,115,101,32]⟩++Z1)
 |bre {word E Y Z1:Bz}{q r c:Nat}:List.length N.ks=3->N.ks[0]?=some (q:Int)->N.ks[1]?=some (r:Int)->N.ks[2]?=some (c:Int)->Hid (WE w0 vt t q E)->Hid (WB w0 vt t r Y)->c<n/\(nodeI ns c).k=7->Hid (∀an M cn ak L ck,NdR w0 p1 c (nodeI ns c) an M cn ak L ck->Wr w0 vt t 182 #[pW w0,jA (nodeI ns c) (.slice an M cn) (.slice ak L ck),.string ⟨#[32,101,108,105,102,32]⟩] Z1)->BrO p1 n i ns N vn vk 182 #[pW w0,jA N vn vk,.string word] (word++E++⟨#[32]⟩++Y++Z1)
 |neg {A E:Bz}{c:Nat}:List.length N.ks=1->N.ks[0]?=some (c:Int)->Hid (N.op=19)->c<n/\((nodeI ns c).k=30/\((nodeI ns c).op=19/\A=⟨#[45]⟩++⟨#[32]⟩\/(nodeI ns c).op≠19/\A=⟨#[45]⟩)\/(nodeI ns c).k≠30/\A=⟨#[45]⟩)->Hid (Wr w0 vt t 180 #[pW w0,.int .i64 (c:Int),.int .i64 11] E)->BrO p1 n i ns N vn vk 218 #[pW w0,jA N vn vk] (A++E)
end
theorem E8{c:Addr}{m:Nat}{ns:List Nd}(v:fj w0 (Q (V c) n m) ns)(w:Co w0 c ns)(bh:Ax ns=n)(br:n<=1048576){tab:Nat}{av ck:Nat}(R:NdR w0 c i N an M av ak L ck){f:FuncId}{args:Array B3}{a6:Bz}(bf:BrO w0 (Q (V c) n m) tab c n i ns N (Q an M av) (Q ak L ck) f args a6):
  Wr w0 (Q (V c) n m) tab f args a6:=by
 intro bk a8 a0 bg;have a7:=a0.lt;have bd:=R.hL;have bn:=R.cap;have a:=aj (Bx.new a0 N (Q an M av) (Q ak L ck));cases bf
 case' br3 b _ _ _ _ _ _ g hX=>
  have⟨s,q,u,r,p,t,l⟩:=Ae v w (O:b<Ax ns);obtain⟨g,a1⟩:=g;have aL:((nodeI ns b).k==7)=false:=U
 case' bre b _ _ _ _ _ _ g hX=>
  obtain⟨s,q,u,r,p,t,l⟩:=Ae v w (O:b<Ax ns);obtain⟨g,a1⟩:=g;have aL:=kqs a1;clear a1;have ba:=aj (hX _ _ _ _ _ _ l);unfold jA at ba;clear hX
 case' neg b _ _ ho g hX=>
  obtain⟨s,q,u,r,p,t,l⟩:=Ae v w (O:b<Ax ns);have bl:=kqf ho.out;obtain⟨g,⟨a2,⟨x,rfl⟩|⟨x,rfl⟩⟩|⟨a2,rfl⟩⟩:=g;all_goals first|have aL:=kqs a2|have aL:((nodeI ns b).k==30)=false:=U
  all_goals first|have bc:=kqs x|have bc:((nodeI ns b).op==19)=false:=by simpa using x|skip
  all_goals clear a2;try clear x
 all_goals
  try simp only[ax]at bg
  have bp:(b:Int)<(n:Int):=O;have bo:(0:Int)<=(b:Int):=O;generalize nodeI ns b=a5 at *;have ar:=aj l;obtain⟨o,rfl⟩:=R.ks.ptr;have d:=aj R;have bj:=bd.symm.trans (by omega:Ax N.ks=_);subst bj;obtain⟨K,ad,af,ag,al,am,ao,ap,h⟩:=a.cells;have a3:=a.kid0 d.ks O
  (try have a9:=a.kid d.ks (j:=1) Cm Z)
  (try have a4:=a.kid d.ks (j:=2) Cm Z)
  obtain⟨y,z,A,B,C,E,F,G,H,_,_⟩:=ar.rd _ a.pr.bel;have z0:=a.pr.cells.1;clear a0 R l v w bh;unfold jA;go_in
  repeat (go_wp2_with fail;refine Bx.stp a (by first|exact ai _ _|exact bu (de _ _)) (by with_reducible first|exact aj (Ef _)|assumption) a7 (by(try simp only[ax]);omega) ?_;intro bb a;have a:=aj a;clear K ad af ag al am ao ap h;obtain⟨K,ad,af,ag,al,am,ao,ap,h⟩:=a.cells;have a3:=a.kid0 d.ks Cm;(try have a9:=a.kid d.ks (j:=1) Cm Z);(try have a4:=a.kid d.ks (j:=2) Cm Z);obtain⟨y,z,A,B,C,E,F,G,H,_,_⟩:=ar.rd _ a.pr.bel;have z0:=a.pr.cells.1)
  go_wp2_with fail;first|go_region_held3 (λe=>e.cell? ⟨w0.heap.size,0,A0⟩=V (Q (V c) n m)/\e.cell? ⟨a8.heap.size,8,A0⟩=V (Q (V o) 1 ck)/\e.cell? o=V (A2 A3 (b:Int))/\NdC e (c.add (b*9)) a5 (Q s q u) (Q r p t)) (first|exact⟨z0,h,a3,y,z,A,B,C,E,F,G,H⟩|((repeat' refine And.intro ?_ ?_)<;>go_keep)) (fail)|go_region_held3 (λe=>e.cell? ⟨w0.heap.size,0,A0⟩=V (Q (V c) n m)/\e.cell? ⟨a8.heap.size,8,A0⟩=V (Q (V o) 3 ck)/\e.cell? ⟨o.block,o.off+2,A0⟩=V (A2 A3 (b:Int))/\NdC e (c.add (b*9)) a5 (Q s q u) (Q r p t)) (first|exact⟨z0,h,a4,y,z,A,B,C,E,F,G,H⟩|((repeat' refine And.intro ?_ ?_)<;>go_keep)) (fail)
  repeat (go_wp2_with fail;refine Bx.stp a (by first|exact ai _ _|exact bu (de _ _)) (by with_reducible first|exact aj (Ef _)|assumption) a7 (by(try simp only[ax]);omega) ?_;intro bb a;have a:=aj a;clear K ad af ag al am ao ap h;obtain⟨K,ad,af,ag,al,am,ao,ap,h⟩:=a.cells;have a3:=a.kid0 d.ks Cm;(try have a9:=a.kid d.ks (j:=1) Cm Z);(try have a4:=a.kid d.ks (j:=2) Cm Z);obtain⟨y,z,A,B,C,E,F,G,H,_,_⟩:=ar.rd _ a.pr.bel;have z0:=a.pr.cells.1)
  go_wp2_with fail;first|go_end0|refine aD (iI rfl _ _ _) rfl ?_
  exact Bx.fin a (by simp only[dJ])
def Bl(l:List Bz)(k:Nat)(x:Bz)(c:l[k]?=V x):jz (l.take (k+1))=jz (l.take k)++x:=by
 obtain⟨a,b⟩:=List.getElem?_eq_some_iff.1 c;unfold jz;rw[List.take_succ_eq_append_getElem a,List.foldl_append,b];rfl
def aiK(l:List Bz)(k:Nat):(jz (l.take k)).size<=(jz (l.take (k+1))).size:=by
 by_cases a:k<Ax l
 .rw[Bl l k _ (bi a),ax];omega
 .rw[dH O,dH O];omega
theorem aeq(l:List Bz)(k:Nat):(jz (l.take k)).size<=(jz l).size:=by
 have b:∀a,(jz (l.take k)).size<=(jz (l.take (k+a))).size:=by
  intro a
  induction a with
  |zero=>grind
  |succ a c=>exact aK c (aiK l (k+a))
 have:=b (Ax l)
 rwa [dH (O:Ax l<=k+Ax l)]at this
def ar7(c:B1)(f:B3)(ns:List Nd)(S:Int->Nat->Bz)(B:Nat):Prop:=
 ∀(a b:Nat)(d:Bz)(e:B1),a<B->ll (nodeI ns a).k=true->b+B<=500000->Pr c f d b e->d.size+(S a b).size<=140737488355328->
  B5 Tryz.prog 110 #[A6 (V ⟨c.heap.size,0,A0⟩),A2 A3 (a:Int)] e λh g=>h= .returned (B4 #[])/\Pr c f (d++S a b) b g/\Kq c.heap.size e g
def ar8(ns:List Nd)(B:Nat)(b:List Int):Prop:=∀c∈b,∃a:Nat,c=(a:Int)/\a<B/\a<Ax ns/\ll (nodeI ns a).k=true
theorem agh(a:B1)(v:B3)(ns:List Nd)(S:Int->Nat->Bz)(B:Nat)(ao:ar7 a v ns S B)(an:fj a v ns)(bk:Ax ns<=1048576)(i:Nat)(ar:i<Ax ns)(al:ar8 ns B (nodeI ns i).ks)(aL:(nodeI ns i).ks.length<=1048576)(tab:Nat)(cl:tab+B<500000)
  (T:Bz) (w:B1) (h:Pr a v T tab w) (C:T.size+(Ha S (nodeI ns i).ks tab).size<=140737488355328):
  B5 Tryz.prog 177 #[A6 (V ⟨a.heap.size,0,A0⟩),A2 A3 (i:Int)] w λe m=>e= .returned (B4 #[])/\Pr a v (T++Ha S (nodeI ns i).ks tab) tab m/\Kq a.heap.size w m:=by
 have bo:=I8 ar;obtain⟨b6,j,rfl⟩:=an.form;obtain⟨k,rfl,cp,cn,af⟩:=an.get bo;have⟨z0,ct,cu⟩:=h.cells;have bc:=aq h.bel af.c8;have t:=af.hk;have⟨r,bl⟩:=aw ((nodeI ns i).ks);rw[bl]at al aL C t⊢;obtain⟨b7,b8,rfl⟩:=t.form;have⟨f,bh⟩:=aw (Ax ns);have⟨g,am⟩:=aw (Ax r);rw[bh]at z0 h ao bk ar⊢;rw[am]at bc t aL;have n:=It h t al ao am;have cg:(i:Int)<(f:Int):=O;have ch:(0:Int)<=(i:Int):=O;have⟨ad,l⟩:=aw (Ha S r tab);rw[l]at C⊢;unfold Ha at l;by_cases ag:r=[]
 .have bg:g=0:=U;rw[ab ag]at l;subst l bg;go_in;go_wp2_with fail;refine(gw a _ T _ _ _ n.1 C).mono ?_;rintro e x ⟨rfl,u,E⟩;go_wp2;exact aD (iI rfl _ _ _) rfl ⟨rfl,u,E⟩
 .rw[aa ag]at l;have cb:0<g:=by
   grind
  have cc:((g:Int)==0)=false:=U;obtain⟨c,av⟩:∃c,(r.map λb=>mF (tab+1)++S b (tab+1))=c:=⟨_,rfl⟩;rw[av]at l;have a8:Hid (⟨#[123]⟩++jz c++mF tab++⟨#[125]⟩=ad/\(r.map λb=>mF (tab+1)++S b (tab+1))=c/\Ax c=g):=⟨l,av,U⟩;have bt:T.size+(1+(jz c).size+(tab+1)+1)<=140737488355328:=by
   have e:ad.size=1+(jz c).size+(tab+1)+1:=by rw[<-l,ax,ax,ax,ue];rfl
   omega
  have a9:=aj bt;go_in;go_wp2_with fail;refine(gw a _ T ⟨#[123]⟩ _ _ n.1 U).mono ?_;rintro e x ⟨rfl,u,E⟩;have⟨b0,b1,G⟩:=u.cells;have b2:=G 2;have cm:=u.putTab ((tab:Int)+1);have y:Hid (Pr a (Q (V k) f j) (T++⟨#[123]⟩) ((tab+1:Nat):Int) (x.setCell ⟨a.heap.size,2,A0⟩ (A2 A3 ((tab:Int)+1)))/\Kq a.heap.size w (x.setCell ⟨a.heap.size,2,A0⟩ (A2 A3 ((tab:Int)+1)))):=⟨U,E.trans (Kq.putP _ _ _ _)⟩;go_wp2_with fail;generalize x.setCell ⟨a.heap.size,2,A0⟩ (A2 A3 ((tab:Int)+1))=b4 at y⊢;go_loopw [32] (λF wr=>∃b:Nat,b<=g/\F= A2 A3 b/\Hid (Pr a (Q (V k) f j) (T++⟨#[123]⟩++jz (c.take b)) ((tab+1:Nat):Int) wr/\Kq a.heap.size w wr)) (λF _=>g-(intOf F).toNat)
  case atStart=>exact⟨0,O,rfl,by rw[show T++⟨#[123]⟩++jz (c.take 0)=T++⟨#[123]⟩ from ByteArray.append_empty];exact y.1,y.2⟩
  case round=>
   obtain⟨b,cd,rfl,o⟩:=hrel;by_cases bn:b<g
   .obtain⟨b3,a0⟩:=dh n.2.2.2.2 bn;obtain⟨p,rfl,bp,ck,br⟩:=n.2.2.1 b3 (da a0);obtain⟨ba,rfl,bb⟩:=(n.2.1.below o.1.bel).get a0;have cf:(b:Int)<(g:Int):=O;have ce:(0:Int)<=(b:Int):=O;have bs:c[b]?=V (mF (tab+1)++S p (tab+1)):=U;have ak:=Bl c b _ bs;have bd:=aeq c (b+1);have bf:(jz (c.take b)).size+(tab+2+(S p (tab+1)).size)<=(jz c).size:=by rw[ak,ax,ax,ue]at bd;omega
    have a7:=fD ak bf;have K:=fD bp br;have ap:b=0->wr.cell? ba=V (A2 A3 (p:Int)):=λe=>by subst e;simpa [Addr.add] using bb
    have bE:∀d,Pr a (Q (V k) f j) (T++⟨#[123]⟩++jz (c.take b)++mF (tab+1)) ((tab+1:Nat):Int) d->Kq a.heap.size wr d->B5 Tryz.prog 110 #[A6 (V ⟨a.heap.size,0,A0⟩),A2 A3 (p:Int)] d λe m=>e= .returned (B4 #[])/\Hid (Pr a (Q (V k) f j) (T++⟨#[123]⟩++jz (c.take (b+1))) ((tab+1:Nat):Int) m/\Kq a.heap.size w m):=by
     intro d s q;refine(n.2.2.2.1 p (tab+1) _ d K.1 K.2 O s U).mono ?_;rintro e a5 ⟨rfl,bx,bv⟩;refine⟨rfl,?_,(o.2.trans q).trans bv⟩;rw[a7.out.1,<-dJ,<-dJ];exact bx
    have L:Hid (∀d,Pr a (Q (V k) f j) (T++⟨#[123]⟩++jz (c.take b)++mF (tab+1)) ((tab+1:Nat):Int) d->Kq a.heap.size wr d->B5 Tryz.prog 110 #[A6 (V ⟨a.heap.size,0,A0⟩),A2 A3 (p:Int)] d λe m=>e= .returned (B4 #[])/\Hid (Pr a (Q (V k) f j) (T++⟨#[123]⟩++jz (c.take (b+1))) ((tab+1:Nat):Int) m/\Kq a.heap.size w m)):=bE;have a3:=K6 a (Q (V k) f j) (T++⟨#[123]⟩++jz (c.take b)) (tab+1) wr o.1 O U;by_cases bj:b=0
    .subst bj;have b9:=ap rfl;go_wp2_with fail;refine a3.mono ?_;rintro e d ⟨rfl,s,q⟩;have ks:=L.out d s q;go_wp2_with fail;refine ks.mono ?_;rintro e a5 ⟨rfl,z⟩;go_wp2;exact⟨⟨1,O,by go_num,z⟩,by simp[intOf];omega⟩
    .clear ap;go_wp2_with fail;refine a3.mono ?_;rintro e d ⟨rfl,s,q⟩;have ks:=L.out d s q;go_wp2_with fail;refine ks.mono ?_;rintro e a5 ⟨rfl,z⟩;go_wp2;exact⟨⟨b+1,O,by go_num,z⟩,by simp[intOf];omega⟩
   .obtain rfl:b=g:=O;have⟨b0,b1,G⟩:=o.1.cells;have cr:wr.cell? ⟨a.heap.size,2,A0⟩=V (A2 A3 ((tab:Int)+1)):=U;have b2:=G 2;have a4:=o.1.putTab (tab:Int);rw[dH U]at a4;have A:Hid (Pr a (Q (V k) f j) (T++⟨#[123]⟩++jz c) (tab:Int) (wr.setCell ⟨a.heap.size,2,A0⟩ (A2 A3 (tab:Int)))/\Kq a.heap.size w (wr.setCell ⟨a.heap.size,2,A0⟩ (A2 A3 (tab:Int)))):=⟨a4,o.2.trans (Kq.putP _ _ _ _)⟩;have ca:(tab:Int)+1-1=(tab:Int):=O;go_wp2_with fail;generalize wr.setCell ⟨a.heap.size,2,A0⟩ (A2 A3 (tab:Int))=b5 at A⊢;refine(K6 a _ _ tab _ A.1 O (by have:=a9.out;rw[ax,ax];show T.size+1+_+_<=_;omega)).mono ?_;rintro e a6 ⟨rfl,bA,k7⟩;have H:Hid (Pr a (Q (V k) f j) (T++⟨#[123]⟩++jz c++mF tab) (tab:Int) a6/\Kq a.heap.size w a6):=⟨bA,A.2.trans k7⟩;go_wp2_with fail;refine(gw a _ _ ⟨#[125]⟩ _ _ H.1 U).mono ?_;rintro e cq ⟨rfl,bD,bw⟩;go_wp2_with fail;go_end0
    refine⟨rfl,?_,H.2.trans bw⟩;rw[<-a8.out.1,<-dJ,<-dJ,<-dJ];exact bD
def Jt:List Bz:=[⟨#[32]⟩,⟨#[32,32]⟩,⟨#[9]⟩,⟨#[13]⟩,⟨#[32,9,32]⟩]
def aao:List Bz:=[⟨#[10]⟩,⟨#[32,45,45,122,10]⟩,⟨#[13,10,10]⟩]
def sepL:List Bz:=[⟨#[10]⟩,⟨#[59]⟩,⟨#[10,10]⟩,⟨#[32,59,32]⟩,⟨#[10,45,45,122,10]⟩,⟨#[59,59]⟩]
def PcT(s:Bz)(T:Tk)(b:Bz):Prop:=T.k≠6/\((T.k=5/\b∈sepL)\/(T.k≠5/\∃a,(a∈Jt\/(opn T.k=true/\a∈aao))/\b=s.extract T.f.toNat T.t.toNat++a))
inductive LoC (s:Bz):List Tk->Bz->Prop where
 |nil:LoC s [] ⟨#[]⟩
 |cons {T:Tk}{b y:Bz}{ts:List Tk}:PcT s T b->LoC s ts y->LoC s (T::ts) (b++y)
def LoR(s:Bz)(ts:List Tk)(t:Bz):Prop:=∃i,LoC s (ts.take i) t/\(Ax ts<=i\/∃a,ts[i]?=V a/\a.k=6)
theorem LoR.cons{s b a:Bz}{T:Tk}{ts:List Tk}(h:LoR s ts a)(d:PcT s T b):LoR s (T::ts) (b++a):=by
 obtain⟨e,c,f⟩:=h;refine⟨e+1,.cons d c,?_⟩;grind
open Go.Maps Go.WideMaps
inductive Enp (E:Pe) (i:Nat):Fo->Nat->Prop
 |item {x:Fo}{j:Nat}:(E.tk i).k≠48->(E.tk i).k≠44->CX E 0 i x j->1<=j->j<=E.n->Enp E i (one (lj 40 (E.tk i) (E.tk (j-1)).t) x) j
 |named {x:Fo}{j:Nat}:Hid ((E.tk i).k=48)->(E.tk (i+1)).k=1->(E.tk (i+2)).k=47->i+2<E.n->CX E 0 (i+3) x j->1<=j->j<=E.n->Enp E i (one (nd 42 (E.tk i) (E.tk (j-1)).t 0 0 (E.tk (i+1)).x []) x) j
 |pair {x y:Fo}{k j:Nat}:Hid ((E.tk i).k=44)->CX E 0 (i+1) x k->(E.tk k).k=45->(E.tk (k+1)).k=47->k+1<E.n->CX E 0 (k+2) y j->1<=j->j<=E.n->Enp E i (one (lj 41 (E.tk i) (E.tk (j-1)).t) (x.app y)) j
def ar9{W:B1}{o:Obj}(k j:Nat)(h:k<W.heap.size):(W.alloc o).cell? ⟨k,j,A0⟩=W.cell? ⟨k,j,A0⟩:=World.cell?_alloc_past _ _ _ h
section
variable {E : Pe} {i j : Nat}
def Ju{X:Fo}(q:(E.tk i).k≠6)(v:i<E.n)(u:Enp E i X j):CI E 243 #[pV E] i X j:=by
 intro o x y s m;have a:=aj s;have B:=a.cells;have t:=a.tkw v q;unfold TkW at t;have G:=a.lo;have F:(i:Int)<(E.n:Int):=O;have C:(0:Int)<=(i:Int):=O;have K:IntKind.i64.wrap (i:Int)=(i:Int):=by rw[bJ];omega
 go_in;go_wp2_with fail;go_region_held3 (λw=>∀k j,k<o.heap.size->w.cell? ⟨k,j,A0⟩=o.cell? ⟨k,j,A0⟩) (first|exact ar9|exact λ_ _ _=>rfl) (fail)
 replace a:=Sq.below (Sq.box (cs:=qi (E.tk i).k (E.tk i)) (t:=48) a) (bu (ai _ _));generalize World.drew _=b at a⊢;have c:=Sq.rd a;go_wp2_with fail;refine dm (Sq.node a) λb a=>?_;replace a:=Sq.box (cs:=ndA 40 0 0 ⟨#[]⟩ (E.tk i) s0 s0) (t:=100) a;go_wp2_with fail;cases u
 case item=>
  rw[dj]at m;refine dm (Sq.isN a lG) λb a=>?_;go_wp2_with fail;refine dm (Sq.isN a lG) λb a=>?_;go_wp2_with fail;refine Sq.cq a lG O ?_;rintro b _ e _ _ ⟨f,rfl,rfl,rfl⟩ a;have d:=Sq.ln a;simp only[Fo.sz_app,Fo.sz]at d;have c:=Sq.rd a;go_wp2_with (at_builtin;refine Sq.apG tI (Sq.nil a) I rfl rfl _ _ rfl rfl rfl rfl ?_;intro l h b a;have c:=Sq.rd a);refine(Sq.add (Sq.set a) (.inl ⟨rfl,rfl⟩) (.inr (.head _)) O).mono ?_;rintro p b ⟨f,rfl,e,a⟩;go_wp2;go_ret;exact⟨_,_,_,_,rfl,⟨_,rfl,rfl,rfl⟩,Sq.fin a⟩
 case named=>
  rw[dj]at m;refine dm (Sq.isY a (by assumption:Hid ((E.tk i).k=48)).out) λb a=>?_;go_wp2_with fail;refine dm (Sq.take a lG) λb a=>?_;go_wp2_with fail;refine dm (Sq.take (Sq.box a) lG) λb a=>?_;have L:=Sq.rd a;have ad:=Sq.rd (Sq.tail a);have H:¬(E.tk i).k=6:=q;have g:=a.bd;simp only[wI,List.nodup_cons,gG,not_or]at g;have z:=g.1.1;have A:=dy g.1.1;go_wp2_with fail;refine Sq.cq (Sq.set (Sq.set (Sq.swapB a))) lG O ?_;rintro b _ e _ _ ⟨f,rfl,rfl,rfl⟩ a;have d:=Sq.ln a;simp only[Fo.sz_app,Fo.sz]at d;have c:=Sq.rd a;go_wp2_with (at_builtin;refine Sq.apG tI (Sq.nil a) I rfl rfl _ _ rfl rfl rfl rfl ?_;intro l h b a;have c:=Sq.rd a);refine(Sq.add (Sq.set a) (.inl ⟨rfl,rfl⟩) (.inr (.head _)) O).mono ?_;rintro p b ⟨f,rfl,e,a⟩;go_wp2;go_ret;exact⟨_,_,_,_,rfl,⟨_,rfl,rfl,rfl⟩,Sq.fin a⟩
 case pair=>
  have r:=(by assumption:Hid ((E.tk i).k=44));rw[dj,Fo.sz_app]at m;refine dm (Sq.isN a (by rw[r.out];decide)) λb a=>?_;go_wp2_with fail;refine dm (Sq.isY a r.out) λb a=>?_;go_wp2_with fail;refine Sq.cq a lG O ?_;rintro b _ e _ _ ⟨f,rfl,rfl,rfl⟩ a;have d:=Sq.ln a;simp only[Fo.sz_app,Fo.sz]at d;go_wp2_with fail;refine dm (Sq.take a lG) λb a=>?_;go_wp2_with fail;refine dm (Sq.take a lG) λb a=>?_;have c:=Sq.rd a;go_wp2_with (at_builtin;refine Sq.apG tI (Sq.nil (Sq.set a)) I rfl rfl _ _ rfl rfl rfl (by simp[World.setCell]) ?_;intro l h b a;have c:=Sq.rd a);refine Sq.cq (Sq.set a) lG O ?_;rintro b _ e _ _ ⟨f,rfl,rfl,rfl⟩ a;have d:=Sq.ln a;simp only[Fo.sz_app,Fo.sz]at d;have c:=Sq.rd a;go_wp2_with (at_builtin;refine Sq.apG tI a I rfl rfl _ _ rfl rfl rfl rfl ?_;intro l h b a;have c:=Sq.rd a);refine(Sq.add (Sq.set a) (.inl ⟨rfl,rfl⟩) (.inr (.head _)) O).mono ?_;rintro p b ⟨f,rfl,e,a⟩;go_wp2;go_ret;exact⟨_,_,_,_,rfl,⟨_,rfl,rfl,rfl⟩,Sq.fin a⟩
def amp{x:Fo}(g:(E.tk i).k=18)(w:(E.tk (i+1)).k=1)(K:(E.tk (i+2)).k=40)(h:i+2<E.n)(z:CBd E (E.tk (i+2)) (i+2) x j)(af:1<=j)(ag:j<=E.n):CI E 94 #[pV E] i (one (nd 4 (E.tk i) (E.tk (j-1)).t 0 0 z0 [(E.tk (i+1)).x]) x) j:=by
 intro G C F v y;have S:=aj v;rw[dj]at y;go_in;go_wp2_with fail;refine dm (Sq.kind S g) λc S=>?_;go_wp2_with fail;refine dm (Sq.kind S g) λc S=>?_;go_wp2_with fail;refine dm (Sq.kind S g) λc S=>?_;go_wp2_with fail;refine dm (Sq.take S g) λc S=>?_;go_wp2_with fail;refine dm (Sq.node (Sq.box S)) λc S=>?_;replace S:=Sq.box (cs:=ndA 4 0 0 ⟨#[]⟩ (E.tk i) s0 s0) (t:=100) S;go_wp2_with fail;refine dm (Sq.take S w) λc S=>?_;have A:=Sq.rd S;go_wp2_with fail;replace S:=Sq.litm (m:=c.heap.size+1) (xs:=[B2 (E.tk (i+1)).x]) (t:=9) (Sq.below (Sq.set (q:=7) (u:= Q (V ⟨c.heap.size+1,0,A0⟩) 1 1) S) (de _ (.cells (qi 1 (E.tk (i+1))) 48))) (by simp[World.setCell]);generalize World.alloc (World.alloc _ _) _=am at S⊢;have o:=S.cells;have t:=S.tkw (q:=i+2) h O;have p:=S.lo.2.2.2;rw[(O:((i+1+1:Nat):Int)=(i:Int)+2)]at o;have ad:(i:Int)+2<(E.n:Int):=O;have L:(0:Int)<=(i:Int)+2:=O;have ak:((i:Int)+2).toNat=i+2:=O;have al:IntKind.i64.wrap ((i:Int)+2)=(i:Int)+2:=by rw[bJ];omega
 refine wp_region_held_drew (S:=λl=>l.cell? ⟨E.pb,0,A0⟩=V (Q (V ⟨E.tb,0,A0⟩) E.n E.cap)/\TkW E (i+2) l) J ⟨o.1,t⟩ (λa=>?_);unfold TkW at *;simp only[iB,db,fx,Nat.reduceAdd,iA,jb,jc,dI,dt];refine bB 0 (A6 (V ⟨E.pb,0,A0⟩)) rfl rfl a (λe d=>by go_simp) ?_;simp only[B0];refine bB 1 (A6 (V ⟨E.pb,0,A0⟩)) rfl rfl a (λe d=>by go_simp) ?_;simp only[B0];refine bB 2 (A6 (V ⟨E.pb,0,A0⟩)) rfl rfl a (λe d=>by go_simp) ?_;simp only[B0];refine bB 3 (A6 (V ⟨E.pb,0,A0⟩)) rfl rfl a (λe d=>by go_simp) ?_;simp only[B0];refine bB 4 (Q (V ⟨E.tb,0,A0⟩) E.n E.cap) rfl rfl a (λe d=>by go_simp) ?_;simp only[B0];refine bB 5 (A6 (V ⟨E.pb,0,A0⟩)) rfl rfl a (λe d=>by go_simp) ?_;simp only[B0];refine bB 6 (A6 (V ⟨E.pb,0,A0⟩)) rfl rfl a (λe d=>by go_simp) ?_;simp only[B0];refine bB 7 (A6 (V ⟨E.pb,1,A0⟩)) rfl rfl a (λe d=>by go_simp) ?_;simp only[B0];refine Br (rs:=[8]) J I (A5 rfl (λf b=>?_) A9);go_simp;refine b.out _ _ a (λa=>?_);try simp only[bF,bG,bI]
 refine Br (rs:=[9]) J I (A5 rfl (λf b=>?_) A9);go_simp;refine b.out _ _ a (λa=>?_);try simp only[bF,bG,bI]
 refine Br (rs:=[10]) J I (A5 rfl (λf b=>?_) A9);go_simp;refine b.out _ _ a (λa=>?_);try simp only[bF,bG,bI]
 refine Br (rs:=[11]) J I (A5 rfl (λf b=>?_) A9);go_simp;refine dm (Dg _ _ (E.tk (i+2)) _) λc s=>?_;replace S:=Sq.below (Sq.below S (bu (ai _ _))) s;refine b.out _ _ ⟨S.cells.1,S.tkw h O⟩ (λa=>?_);try simp only[bF,bG,bI]
 refine Br (rs:=[12]) J I (A5 rfl (λf b=>?_) A9);go_simp;refine Sq.cq S z O ?_;rintro c _ r _ _ ⟨B,rfl,rfl,rfl⟩ S;refine b.out _ _ ⟨S.cells.1,S.tkw h O⟩ (λa=>?_);try simp only[bF,bG,bI]
 refine Br (rs:=[13]) J I (A5 rfl (λf b=>?_) A9);go_simp;refine b.out _ _ a (λa=>?_);refine wpAnyH_done J ?_ _;have A:=Sq.rd S;have p:=Sq.ln S;simp only[Fo.sz_app,Fo.sz]at p;go_wp2_with fail;refine(Sq.add (Sq.lit2 (Sq.set S)) (nm:=[(E.tk (i+1)).x]) (.inr (.tail _ (.head _))) (.inr (.head _)) O).mono ?_;rintro H c ⟨B,rfl,r,S⟩;go_wp2;go_ret;exact⟨_,_,_,_,rfl,⟨_,rfl,rfl,rfl⟩,Sq.fin S⟩
end
