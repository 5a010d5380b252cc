import Derived.Test.YtnoembpaejlaeaaGreatDoorHLk10
import Derived.Test.YtnoembpaejlaeaaGreatDoorHLk12
set_option linter.all false
set_option maxRecDepth 100000
set_option maxHeartbeats 25600000
open Go.Value renaming slice->O,int->A2,string->A9,ownBlock->B3,string->B5,slice->Ck,pointer->Fs,tuple->F1,iface->G0,bool->G2,agg->G3
open Option renaming some->U,none->V
open Go.Proofs.Tryz renaming prog->Ax
open Go.IntKind renaming i64->A0
open Go renaming Value->A3,Calls->B1,World->B2,TypeId->B7,wpList_append_own_at->C2,maxLen->F2
open Go.Ending renaming returned->A5
open Go.RowKit renaming Hid->Br,Below->E1,intOf->F0
open Go.Obj renaming cells->B0
open Bool renaming false->B4,true->Ce
open Go.World renaming news_of_block->B6,setCell->E2
namespace Go.Proofs.YtnoembpaejlaeaaGreatDoor
open Go.RowKit
variable{E:Pe}{L M i j k m n:Nat}{M':List (Value×List ByteArray)}{N:Nd}{Q:Exit->Act->World->Prop}{R X:Fo}{T:Bxs}{W w w0:World}{a:Act}{ak an:Option Addr}{args:Array Value}{f:FuncId}{kn vs:List Value}{kv:Value}{ns:List ByteArray}{o:Oper}{ops:Array Oper}{r:Bool}{t:Tk}
def aeu(op:Int):4<=(zr op).2/\(zr op).2<=11:=by
 unfold zr
 repeat' split
 all_goals exact⟨by decide,by decide⟩
def ac0(k op:Int):2<=tF k op/\tF k op<=11:=by
 have:=aeu op;unfold tF
 repeat' split
 all_goals omega
abbrev Cel(W:B2)(b:Nat)(N:Nd)(vn vk:A3):Prop:=W.cell? ⟨b,0,V⟩=U (A2 A0 N.k)/\W.cell? ⟨b,1,V⟩=U (A2 A0 N.f)/\W.cell? ⟨b,2,V⟩=U (A2 A0 N.t)/\W.cell? ⟨b,3,V⟩=U (A2 A0 N.l)/\W.cell? ⟨b,4,V⟩=U (A2 A0 N.op)/\W.cell? ⟨b,5,V⟩=U (A2 A0 N.n)/\W.cell? ⟨b,6,V⟩=U (B5 N.x)/\W.cell? ⟨b,7,V⟩=U vn/\W.cell? ⟨b,8,V⟩=U vk
def akh{h:Addr}{j tab:Nat}(al:N.k≠29->N.k≠28->1<=N.op/\N.op<=18){e ck:Nat}(R:NdR w0 h i N an M e ak L ck)(av:N.ks.length=2){q r:Nat}(C:N.ks[0]?=U (q:Int))(l:N.ks[1]?=U (r:Int)){f:Int}(a3:0<=f/\f<=50){sign E J:ByteArray}(z:Br (Wr w0 (O (U h) n j) tab 98 #[pW w0,A2 A0 (q:Int),A2 A0 (yw N f)] E))(ar:Br (Wr w0 (O (U h) n j) tab 98 #[pW w0,A2 A0 (r:Int),A2 A0 (tF N.k N.op)] J)):
  Wr w0 (O (U h) n j) tab 170 #[pW w0,jl N (O an M e) (O ak L ck),B5 sign,A2 A0 f] (E++sign++J):=by
 intro K G B ax;have af:=B.lt;have a2:=ac0 N.k N.op;obtain⟨b,rfl⟩:=R.ks.ptr;obtain rfl:L=2:=by have:=R.hL;omega
 have c:=aq R;have y:=aq λa1 a0=>Jn N a1 a0 al;unfold jl at y⊢;unfold yw at z;generalize tF N.k N.op=Rr at *;simp only[ay]at ax;have a:=aq (Bx.new B N (O an M e) (O (U b) 2 ck));obtain⟨m,o,p,s,t,u,v,w,x⟩:=a.cells;have ao:=a.kid0 c.ks C;have ap:=a.kid c.ks l (by decide);have F:Br (∀{K:ByteArray}{d:B2},Bx w0 (O (U h) n j) tab G N (O an M e) (O (U b) 2 ck) K d->Cel d G.heap.size N (O an M e) (O (U b) 2 ck)/\d.cell? ⟨b.block,b.off+1,V⟩=U (A2 A0 (r:Int))):=λa=>⟨a.cells,a.kid c.ks l (by decide)⟩;clear B R al av;by_cases g:Rr=f;all_goals
  first|have au:=kqs g|have au:(Rr==f)=B4:=by simpa using g
  first|rw[ab g]at z|rw[aa g]at z
  clear g;go_in
  repeat (go_wp2_with fail;(first|(go_at_call 213;refine du (y _ _ _) λd A=>?_;have a:=aq (a.below A);clear m o p s t u v w x;obtain⟨m,o,p,s,t,u,v,w,x⟩:=a.cells;have ao:=a.kid0 c.ks C;have ap:=a.kid c.ks l (by decide))|(refine Bx.stp a (ai _ _) (by with_reducible first|exact aq (Dn _)|assumption) af (by(try simp only[ay]);omega) ?_;intro d a;have a:=aq a;clear m o p s t u v w x;obtain⟨m,o,p,s,t,u,v,w,x⟩:=a.cells;have ao:=a.kid0 c.ks C;have ap:=a.kid c.ks l (by decide))))
  go_wp2_with fail;go_region_held3 (λad=>Cel ad G.heap.size N (O an M e) (O (U b) 2 ck)/\ad.cell? ⟨b.block,b.off+1,V⟩=U (A2 A0 (r:Int))) (first|exact F I|exact F H|exact F (a.below (bH (ai _ _)))|go_keep) (first|(go_at_call 213;refine du (y _ _ _) λd A=>?_;have H:=(a.below (bH (ai _ _))).below A)|(go_at_call 98;refine Bx.stp (aq H) (ai _ _) ar af (by(try simp only[ay]);omega) ?_;intro d I))
  go_wp2_with fail;go_end0
  exact Bx.fin (aq I) (by simp only[dh])
def ahx{g:Addr}{q:Nat}{tab:Nat}(ad:n<=1048576)(G:i<n)(f:N.k=31->1<=N.op/\N.op<=18){c ck:Nat}(R:NdR w0 g i N an M c ak L ck)(d:N.k=31){least:Int}(K:¬im N.k N.op<least)(af:(Cx (60+N.op)).size<=4){p:ByteArray}(m:Br (Wr w0 (O (U g) n q) tab 170 #[pW w0,jl N (O an M c) (O ak L ck),B5 (⟨#[32]⟩++Cx (60+N.op)++⟨#[32]⟩),A2 A0 (im N.k N.op)] p)):
  Wr w0 (O (U g) n q) tab 98 #[pW w0,A2 A0 (i:Int),A2 A0 least] p:=by
 intro B s b J;have v:=b.lt;obtain⟨z0,z,A⟩:=b.cells;obtain⟨al,ao,ap,ar,au,av,ax,a0,a1,_,_⟩:=R.rd s b.bel;have a:=aq (Bx.new b N (O an M c) (O ak L ck));have H:(i:Int)<(n:Int):=by omega
 have I:(0:Int)<=(i:Int):=by omega
 have a5:=kqf d;have F:=kqs d;have l:=aq λy x=>Aw N y x f;have t:=aq (LG (60+N.op));obtain⟨a2,a3⟩:=f d;have w:IntKind.i64.wrap (60+N.op)=60+N.op:=by rw[dt];omega
 generalize Cx (60+N.op)=r at *;have C:¬9223372036854775807<1+r.size:=by omega
 have E:¬9223372036854775807<1+r.size+1:=by omega
 unfold jl at l m;generalize im N.k N.op=a4 at *;clear b R d f A z;go_in;go_wp2_with (go_at_call 169;refine du (l _ _ _) λo e=>?_;have a:=aq (a.below e);obtain⟨a6,a7,a8,a9,ba,bb,bd,bf,bh⟩:=a.cells);go_region_held3 (λu=>Cel u s.heap.size N (O an M c) (O ak L ck)) (first|exact j.cells|exact h.cells|exact(a.below (bH (ai _ _))).cells|go_keep) (first|(go_at_call 171;(try rw[w]);refine du (t _) λo e=>?_;have h:=(a.below (bH (ai _ _))).below e)|(go_at_call 170;refine Bx.stp (aq h) (ai _ _) m v (by omega) ?_;intro o j))
 go_wp2_with fail;go_end0
 exact Bx.fin (aq j) rfl
section
variable (w0 : World) (vt : Value) (t : Nat)
inductive F8 (p1:Addr) (n i:Nat) (ns:List Nd) (N:Nd) (vn vk:Value):FuncId->Array Value->ByteArray->Prop
 |blk {Y:ByteArray}:Hid (N.k=1)->Hid (WB w0 vt t i Y)->F8 p1 n i ns N vn vk 49 #[pW w0,.int .i64 (i:Int)] (Y)
 |let0:N.nm.length<=200->Hid (N.k=2)->N.ks.length=0->F8 p1 n i ns N vn vk 49 #[pW w0,.int .i64 (i:Int)] (⟨#[108,101,116,32]⟩++fc N.nm)
 |let1 {X:ByteArray}:N.nm.length<=200->Hid (N.k=2)->0<N.ks.length->Hid (WX w0 vt t N.ks X)->F8 p1 n i ns N vn vk 49 #[pW w0,.int .i64 (i:Int)] (⟨#[108,101,116,32]⟩++fc N.nm++(⟨#[32,61,32]⟩++X))
 |cst {s E:ByteArray}{q:Nat}:Hid (N.k=3)->N.ks.length=1->N.nm.length=1->N.nm[0]?=some s->N.ks[0]?=some (q:Int)->Hid (WE w0 vt t q E)->F8 p1 n i ns N vn vk 49 #[pW w0,.int .i64 (i:Int)] (⟨#[99,111,110,115,116,32]⟩++s++⟨#[32,61,32]⟩++E)
 |fns {s Y:ByteArray}{q:Nat}:Hid (N.k=4)->N.ks.length=1->N.nm.length=1->N.nm[0]?=some s->N.ks[0]?=some (q:Int)->Hid (WD w0 vt t q Y)->F8 p1 n i ns N vn vk 49 #[pW w0,.int .i64 (i:Int)] (⟨#[102,110,32]⟩++s++Y)
 |set {X Z:ByteArray}{m:Nat}:Hid (N.k=5)->1<=m/\m<N.ks.length->Hid (N.n=(m:Int))->Hid (WX w0 vt t (N.ks.take m) X)->Hid (WX w0 vt t (N.ks.drop m) Z)->F8 p1 n i ns N vn vk 49 #[pW w0,.int .i64 (i:Int)] (X++⟨#[32,61,32]⟩++Z)
 |one {E:ByteArray}{q:Nat}:Hid (N.k=6)->N.ks.length=1->N.ks[0]?=some (q:Int)->Hid (WE w0 vt t q E)->F8 p1 n i ns N vn vk 49 #[pW w0,.int .i64 (i:Int)] (E)
 |iff {Y:ByteArray}:Hid (N.k=7)->Hid (Wr w0 vt t 100 #[pW w0,jl N vn vk,.string ⟨#[105,102,32]⟩] Y)->F8 p1 n i ns N vn vk 49 #[pW w0,.int .i64 (i:Int)] (Y)
 |whl {E Y:ByteArray}{q r:Nat}:Hid (N.k=8)->N.ks.length=2->N.ks[0]?=some (q:Int)->N.ks[1]?=some (r:Int)->Hid (WE w0 vt t q E)->Hid (WB w0 vt t r Y)->F8 p1 n i ns N vn vk 49 #[pW w0,.int .i64 (i:Int)] (⟨#[119,104,105,108,101,32]⟩++E++⟨#[32]⟩++Y)
 |fr {X Y Z:ByteArray}{k q:Nat}:N.nm.length<=200->Hid (N.k=9)/\Z=⟨#[32,61,32]⟩/\(k=2\/k=3)\/Hid (N.k=10)/\Z=⟨#[32,105,110,32]⟩/\k=1->N.ks.length=k+1->N.ks[k]?=some (q:Int)->Hid (WX w0 vt t (N.ks.take k) X)->Hid (WB w0 vt t q Y)->F8 p1 n i ns N vn vk 49 #[pW w0,.int .i64 (i:Int)] (⟨#[102,111,114,32]⟩++fc N.nm++Z++X++⟨#[32]⟩++Y)
 |brk:Hid (N.k=11)->F8 p1 n i ns N vn vk 49 #[pW w0,.int .i64 (i:Int)] (⟨#[98,114,101,97,107]⟩)
 |nxt:Hid (N.k=12)->F8 p1 n i ns N vn vk 49 #[pW w0,.int .i64 (i:Int)] (⟨#[110,101,120,116]⟩)
 |ret0:Hid (N.k=13)->N.ks.length=0->F8 p1 n i ns N vn vk 49 #[pW w0,.int .i64 (i:Int)] (⟨#[114,101,116,117,114,110]⟩)
 |ret1 {X:ByteArray}:Hid (N.k=13)->0<N.ks.length->Hid (WX w0 vt t N.ks X)->F8 p1 n i ns N vn vk 49 #[pW w0,.int .i64 (i:Int)] (⟨#[114,101,116,117,114,110]⟩++(⟨#[32]⟩++X))
 |try_ {X Y:ByteArray}{q r:Nat}:N.nm.length<=200->Hid (N.k=14)->N.ks.length=2->N.ks[0]?=some (q:Int)->N.ks[1]?=some (r:Int)->Hid (WB w0 vt t q X)->Hid (WB w0 vt t r Y)->F8 p1 n i ns N vn vk 49 #[pW w0,.int .i64 (i:Int)] (⟨#[116,114,121,32]⟩++X++⟨#[32,99,97,116,99,104,32]⟩++fc N.nm++⟨#[32]⟩++Y)
 |thr {E:ByteArray}{q:Nat}:Hid (N.k=15)->N.ks.length=1->N.ks[0]?=some (q:Int)->Hid (WE w0 vt t q E)->F8 p1 n i ns N vn vk 49 #[pW w0,.int .i64 (i:Int)] (⟨#[116,104,114,111,119,32]⟩++E)
 |dfr {E:ByteArray}{q:Nat}:Hid (N.k=16)->N.ks.length=1->N.ks[0]?=some (q:Int)->Hid (WE w0 vt t q E)->F8 p1 n i ns N vn vk 49 #[pW w0,.int .i64 (i:Int)] (⟨#[100,101,102,101,114,32]⟩++E)
 |bod {Y Z:ByteArray}{q:Nat}:N.nm.length<=200->(N.op≠1/\Z=ByteArray.empty\/Hid (N.op=1)/\(N.nm.length=0/\Z=⟨#[46,46,46]⟩\/0<N.nm.length/\Z=⟨#[44,32]⟩++⟨#[46,46,46]⟩))->N.ks.length=1->N.ks[0]?=some (q:Int)->Hid (WB w0 vt t q Y)->F8 p1 n i ns N vn vk 99 #[pW w0,.int .i64 (i:Int)] (⟨#[40]⟩++fc N.nm++Z++⟨#[41,32]⟩++Y)
 |br2 {word E Y:ByteArray}{q r:Nat}:N.ks.length=2->N.ks[0]?=some (q:Int)->N.ks[1]?=some (r:Int)->Hid (WE w0 vt t q E)->Hid (WB w0 vt t r Y)->F8 p1 n i ns N vn vk 100 #[pW w0,jl N vn vk,.string word] (word++E++⟨#[32]⟩++Y)
end
def abb{e:B2}{h:Addr}{n o:Nat}{ns:List Nd}(ad:eK e (O (U h) n o) ns)(ap:Do e h ns)(av:ns.length=n)(bD:n<=1048576){tab i:Nat}(bv:i<n){N:Nd}(bA:N.ks.length<=1048576){t s:Option Addr}{l p L ck:Nat}(R:NdR e h i N t l p s L ck){f:FuncId}{args:Array A3}{y:ByteArray}(af:F8 e (O (U h) n o) tab h n i ns N (O t l p) (O s L ck) f args y):
  Wr e (O (U h) n o) tab f args y:=by
 intro w a9 g u;have au:=g.lt;obtain⟨z0,bh,bj⟩:=g.cells;have J:=R.hL;have K:=R.hM;have bo:=R.cap;have a:=aq (Bx.new g N (O t l p) (O s L ck));obtain⟨a0,a1,a2,a3,a4,a5,a6,a7,a8,_,_⟩:=R.rd a9 g.bel;have bw:(i:Int)<(n:Int):=by omega
 have bx:(0:Int)<=(i:Int):=by omega
 cases af
 case' let1|ret1=>have ax:(0:Int)<(L:Int):=by omega
 case' let1 hX=>have r:=aq (hX _ R.ks)
 case' ret1 hX=>have r:=aq (hX _ R.ks)
 case' iff hX=>unfold jl at hX
 case' set b _ hm _ hX hZ=>
  obtain⟨m,rfl⟩:=R.ks.ptr;have r:=aq (hX (O (U m) b ck) (R.ks.take b (by omega)));have bk:=aq (hZ (O (U (m.add b)) (L-b) (ck-b)) (R.ks.drop b _ (by omega) (by omega)));have al:¬ck=0:=by omega
  have ao:(b:Int)<=(ck:Int):=by omega
  have br:(b:Int)<=(L:Int):=by omega
  have bs:¬ck=b:=by omega
  have bt:(0:Int)<=(b:Int):=by omega
 case' fr v _ _ d _ _ hX _=>
  obtain⟨m,rfl⟩:=R.ks.ptr;have r:=aq (hX (O (U m) v ck) (R.ks.take v (by omega)));have al:¬ck=0:=by omega
  have ao:(v:Int)<=(ck:Int):=by omega
  clear hX;obtain⟨d,rfl,rfl|rfl⟩|⟨d,rfl,rfl⟩:=d
 case' bod d _ _ _=>
  obtain⟨d,rfl⟩|⟨d,⟨ar,rfl⟩|⟨ar,rfl⟩⟩:=d;all_goals first|have I:=kqs d.out|have I:(N.op==1)=B4:=by simpa using d
  all_goals try have ax:(0:Int)<(l:Int):=by omega
 all_goals
  try simp only[ay]at u
  try (have k:=R.ks.ptr;obtain⟨m,rfl⟩:=k)
  try (have k:=R.nm.ptr;obtain⟨bE,rfl⟩:=k)
  try have bl:Br (Wr e (O (U h) n o) tab 96 #[pW e,O _ l p] (fc N.nm)):=λw x g u=>adu e _ _ N.nm w tab x g R.nm (by omega) u
  have c:=aq R;try have b0:=kqf (by with_reducible assumption:Br (N.k=_)).out
  try have bn:=kqs (by with_reducible assumption:Br (N.k=_)).out
  try (have k:=J.symm.trans (by with_reducible assumption:N.ks.length=_);subst k)
  try (have k:=K.symm.trans (by with_reducible assumption:N.nm.length=_);subst k)
  obtain⟨z,A,B,C,E,q,F,G,H⟩:=a.cells
  (try have ba:=a.kid0 c.ks (by with_reducible assumption))
  (try have bb:=a.kid c.ks (j:=1) (by with_reducible assumption) (by decide))
  (try have bd:=a.kid c.ks (j:=2) (by with_reducible assumption) (by decide))
  (try have bf:=a.kid c.ks (j:=3) (by with_reducible assumption) (by decide))
  (try rw[(by with_reducible assumption:Br (N.n=_)).out]at q)
  try have b1:=a.name0 c.nm (by with_reducible assumption)
  clear g R ad ap av bj bh;try unfold jl
  go_in
  repeat (go_wp2_with fail;refine Bx.stp a (ai _ _) (by with_reducible first|exact aq (Dn _)|assumption) au (by(try simp only[ay]);omega) ?_;intro x a;have a:=aq a;clear z A B C E q F G H;(try clear a0 a1 a2 a3 a4 a5 a6 a7 a8 z0);obtain⟨z,A,B,C,E,q,F,G,H⟩:=a.cells;(try have ba:=a.kid0 c.ks (by with_reducible assumption));(try have bb:=a.kid c.ks (j:=1) (by with_reducible assumption) (by decide));(try have bd:=a.kid c.ks (j:=2) (by with_reducible assumption) (by decide));(try have bf:=a.kid c.ks (j:=3) (by with_reducible assumption) (by decide));(try rw[(by with_reducible assumption:Br (N.n=_)).out]at q))
  go_wp2_with fail;first|go_end0|refine aH (jd rfl _ _ _) rfl ?_
  exact Bx.fin a (by simp only[dh,ByteArray.empty_append])
section
variable (w0 : World) (vt : Value) (t : Nat)
inductive ExO (n i:Nat) (ns:List Nd) (N:Nd) (vn vk:Value):FuncId->Array Value->ByteArray->Prop
 |par {Y:ByteArray}{least:Int}:im N.k N.op<least->Hid (WE w0 vt t i Y)->ExO n i ns N vn vk 98 #[pW w0,.int .i64 (i:Int),.int .i64 least] (⟨#[40]⟩++Y++⟨#[41]⟩)
 |inf {S Y:ByteArray}{least:Int}:Hid (N.k=28)/\S=⟨#[32,97,110,100,32]⟩\/Hid (N.k=29)/\S=⟨#[32,111,114,32]⟩->¬im N.k N.op<least->Hid (Wr w0 vt t 170 #[pW w0,jl N vn vk,.string S,.int .i64 (im N.k N.op)] Y)->ExO n i ns N vn vk 98 #[pW w0,.int .i64 (i:Int),.int .i64 least] (Y)
 |nod {f:FuncId}{Y:ByteArray}{least:Int}:Hid (N.k=30)/\f=172\/Hid (N.k=35)/\f=174\/(20<=N.k/\N.k<=27)/\f=175->¬im N.k N.op<least->Hid (Wr w0 vt t f #[pW w0,jl N vn vk] Y)->ExO n i ns N vn vk 98 #[pW w0,.int .i64 (i:Int),.int .i64 least] (Y)
 |idx {Y E:ByteArray}{q r:Nat}{least:Int}:Hid (N.k=32)->¬im N.k N.op<least->N.ks.length=2->N.ks[0]?=some (q:Int)->N.ks[1]?=some (r:Int)->Hid (WA w0 vt t q Y)->Hid (WE w0 vt t r E)->ExO n i ns N vn vk 98 #[pW w0,.int .i64 (i:Int),.int .i64 least] (Y++⟨#[91]⟩++E++⟨#[93]⟩)
 |fld {Y:ByteArray}{q:Nat}{least:Int}:Hid (N.k=33)->¬im N.k N.op<least->N.ks.length=1->N.ks[0]?=some (q:Int)->Hid (WA w0 vt t q Y)->ExO n i ns N vn vk 98 #[pW w0,.int .i64 (i:Int),.int .i64 least] (Y++(⟨#[46]⟩++N.x))
 |cal {Y X:ByteArray}{q:Nat}{least:Int}:Hid (N.k=34)->¬im N.k N.op<least->0<N.ks.length->N.ks[0]?=some (q:Int)->Hid (WA w0 vt t q Y)->Hid (WX w0 vt t (N.ks.drop 1) X)->ExO n i ns N vn vk 98 #[pW w0,.int .i64 (i:Int),.int .i64 least] (Y++⟨#[40]⟩++X++⟨#[41]⟩)
 |fn {Y:ByteArray}{least:Int}:Hid (N.k=36)->¬im N.k N.op<least->Hid (WD w0 vt t i Y)->ExO n i ns N vn vk 98 #[pW w0,.int .i64 (i:Int),.int .i64 least] (⟨#[102,110]⟩++Y)
 |one {E:ByteArray}{q:Nat}{least:Int}:Hid (N.k=37)->¬im N.k N.op<least->N.ks.length=1->N.ks[0]?=some (q:Int)->Hid (WE w0 vt t q E)->ExO n i ns N vn vk 98 #[pW w0,.int .i64 (i:Int),.int .i64 least] (⟨#[40]⟩++E++⟨#[41]⟩)
 |un {A E:ByteArray}{q:Nat}:Hid (N.op=21)/\A=⟨#[110,111,116,32]⟩\/Hid (N.op=22)/\A=⟨#[35]⟩\/Hid (N.op=20)/\A=⟨#[126]⟩->N.ks.length=1->N.ks[0]?=some (q:Int)->Hid (Wr w0 vt t 98 #[pW w0,.int .i64 (q:Int),.int .i64 11] E)->ExO n i ns N vn vk 172 #[pW w0,jl N vn vk] (A++E)
end
def ahy{g:B2}{e:Addr}{n z:Nat}{ns:List Nd}(ao:eK g (O (U e) n z) ns)(ar:Do g e ns)(a0:ns.length=n)(bw:n<=1048576){tab i:Nat}(br:i<n){N:Nd}(bv:N.ks.length<=1048576)(G:N.k=31->1<=N.op/\N.op<=18){x w:Option Addr}{v A L ck:Nat}(R:NdR g e i N x v A w L ck){f:FuncId}{args:Array A3}{F:ByteArray}(ap:ExO g (O (U e) n z) tab n i ns N (O x v A) (O w L ck) f args F):
  Wr g (O (U e) n z) tab f args F:=by
 intro bk bf d av;have ax:=d.lt;obtain⟨z0,bh,bj⟩:=d.cells;have al:=R.hL;have bl:=R.cap;have a:=aq (Bx.new d N (O x v A) (O w L ck));obtain⟨a2,a3,a4,a5,a6,a7,a8,a9,ba,_,_⟩:=R.rd bf d.bel;have bs:(i:Int)<(n:Int):=by omega
 have bt:(0:Int)<=(i:Int):=by omega
 have E:=aq λbd bb=>Aw N bd bb G;unfold jl at E;clear G;cases ap
 case' inf b _ hX=>obtain⟨b,rfl⟩|⟨b,rfl⟩:=b
 case' nod b _ hX=>obtain⟨b,rfl⟩|⟨b,rfl⟩|⟨b,rfl⟩:=b
 case' un b _ _ _=>obtain⟨b,rfl⟩|⟨b,rfl⟩|⟨b,rfl⟩:=b
 case' cal B _ _ _ _ hX=>
  obtain⟨h,rfl⟩:=R.ks.ptr;have bo:(1:Int)<=(L:Int):=by omega
  have bn:1<=L:=by omega
  have bx:(0:Int)<(L:Int):=by omega
  by_cases au:ck=1
  case' pos=>
   subst au;obtain rfl:L=1:=by omega
   have J:=aq (hX (O (U h) 0 0) (.inl ⟨by rw[List.drop_eq_nil_iff];omega,_,_,rfl⟩))
  case' neg=>have J:=aq (hX (O (U ⟨h.block,h.off+1,V⟩) (L-1) (ck-1)) (R.ks.drop 1 _ (by omega) (by omega)))
 all_goals
  generalize a1:im N.k N.op=bA at *;clear a1;try unfold jl at *
  try simp only[ay]at av
  try (have C:=R.ks.ptr;obtain⟨h,rfl⟩:=C)
  have c:=aq R;first|have B:=kqf (by with_reducible assumption:Br (N.k=_)).out;have af:=kqs (by with_reducible assumption:Br (N.k=_)).out|have B:=kqf (by with_reducible assumption:Br (N.op=_)).out;have af:=kqs (by with_reducible assumption:Br (N.op=_)).out|have B:∀y:Int,28<=y->(N.k==y)=B4:=λy d=>by simp;omega|skip
  try (have C:=al.symm.trans (by with_reducible assumption:N.ks.length=_);subst C)
  obtain⟨l,m,o,p,q,r,s,t,u⟩:=a.cells
  (try have H:=a.kid0 c.ks (by with_reducible assumption))
  (try have I:=a.kid c.ks (j:=1) (by with_reducible assumption) (by decide))
  clear d R ao ar a0 bj bh;go_in
  repeat (go_wp2_with fail;(first|(go_at_call 169;refine du (E _ _ _) λK ad=>?_;have a:=aq (a.below ad);clear l m o p q r s t u;obtain⟨l,m,o,p,q,r,s,t,u⟩:=a.cells;(try have H:=a.kid0 c.ks (by with_reducible assumption));(try have I:=a.kid c.ks (j:=1) (by with_reducible assumption) (by decide)))|(refine Bx.stp a (ai _ _) (by with_reducible first|exact aq (Dn _)|assumption) ax (by(try simp only[ay]);omega) ?_;intro K a;have a:=aq a;clear l m o p q r s t u;(try clear a2 a3 a4 a5 a6 a7 a8 a9 ba z0);obtain⟨l,m,o,p,q,r,s,t,u⟩:=a.cells;(try have H:=a.kid0 c.ks (by with_reducible assumption));(try have I:=a.kid c.ks (j:=1) (by with_reducible assumption) (by decide)))))
  go_wp2_with fail;first|go_end0|refine aH (jd rfl _ _ _) rfl ?_
  exact Bx.fin a (by simp only[dh,ByteArray.empty_append])
section
variable (w0 : World) (vt : Value) (t : Nat)
inductive BrO (p1:Addr) (n i:Nat) (ns:List Nd) (N:Nd) (vn vk:Value):FuncId->Array Value->ByteArray->Prop
 |br3 {word E Y Z:ByteArray}{q r c:Nat}:N.ks.length=3->N.ks[0]?=some (q:Int)->N.ks[1]?=some (r:Int)->N.ks[2]?=some (c:Int)->Hid (WE w0 vt t q E)->Hid (WB w0 vt t r Y)->c<n/\(ae ns c).k≠7->Hid (WB w0 vt t c Z)->BrO p1 n i ns N vn vk 100 #[pW w0,jl N vn vk,.string word] (word++E++⟨#[32]⟩++Y++⟨#[32,101,108,115,101,32]⟩++Z)
 |bre {word E Y Z:ByteArray}{q r c:Nat}:N.ks.length=3->N.ks[0]?=some (q:Int)->N.ks[1]?=some (r:Int)->N.ks[2]?=some (c:Int)->Hid (WE w0 vt t q E)->Hid (WB w0 vt t r Y)->c<n/\(ae ns c).k=7->Hid (∀an M cn ak L ck,NdR w0 p1 c (ae ns c) an M cn ak L ck->Wr w0 vt t 100 #[pW w0,jl (ae ns c) (.slice an M cn) (.slice ak L ck),.string ⟨#[32,101,108,105,102,32]⟩] Z)->BrO p1 n i ns N vn vk 100 #[pW w0,jl N vn vk,.string word] (word++E++⟨#[32]⟩++Y++Z)
 |neg {A E:ByteArray}{c:Nat}:N.ks.length=1->N.ks[0]?=some (c:Int)->Hid (N.op=19)->c<n/\((ae ns c).k=30/\((ae ns c).op=19/\A=⟨#[45]⟩++⟨#[32]⟩\/(ae ns c).op≠19/\A=⟨#[45]⟩)\/(ae ns c).k≠30/\A=⟨#[45]⟩)->Hid (Wr w0 vt t 98 #[pW w0,.int .i64 (c:Int),.int .i64 11] E)->BrO p1 n i ns N vn vk 172 #[pW w0,jl N vn vk] (A++E)
end
def Ee{c:Addr}{m:Nat}{ns:List Nd}(w:eK w0 (O (U c) n m) ns)(x:Do w0 c ns)(bj:ns.length=n)(bt:n<=1048576){tab:Nat}{ax ck:Nat}(R:NdR w0 c i N an M ax ak L ck){a5:ByteArray}(bf:BrO w0 (O (U c) n m) tab c n i ns N (O an M ax) (O ak L ck) f args a5):
  Wr w0 (O (U c) n m) tab f args a5:=by
 intro bl a7 a1 bh;have a6:=a1.lt;have bd:=R.hL;have bo:=R.cap;have a:=aq (Bx.new a1 N (O an M ax) (O ak L ck));cases bf
 case' br3 b _ _ _ _ _ _ g hX=>
  obtain⟨t,r,v,s,q,u,l⟩:=yx w x (show b<ns.length by omega);obtain⟨g,o⟩:=g;have a0:((ae ns b).k==7)=B4:=by simpa using o
  clear o
 case' bre b _ _ _ _ _ _ g hX=>
  obtain⟨t,r,v,s,q,u,l⟩:=yx w x (show b<ns.length by omega);obtain⟨g,o⟩:=g;have a0:=kqs o;clear o;have a9:=aq (hX _ _ _ _ _ _ l);unfold jl at a9;clear hX
 case' neg b _ _ ho g hX=>
  obtain⟨t,r,v,s,q,u,l⟩:=yx w x (show b<ns.length by omega);have bn:=kqf ho.out;obtain⟨g,⟨y,⟨z,rfl⟩|⟨z,rfl⟩⟩|⟨y,rfl⟩⟩:=g;all_goals first|have a0:=kqs y|have a0:((ae ns b).k==30)=B4:=by simpa using y
  all_goals first|have bb:=kqs z|have bb:((ae ns b).op==19)=B4:=by simpa using z|skip
  all_goals clear y;try clear z
 all_goals
  try simp only[ay]at bh
  have bs:(b:Int)<(n:Int):=by omega
  have br:(0:Int)<=(b:Int):=by omega
  generalize ae ns b=a4 at *;have av:=aq l;obtain⟨p,rfl⟩:=R.ks.ptr;have d:=aq R;have bk:=bd.symm.trans (by with_reducible assumption:N.ks.length=_);subst bk;obtain⟨K,ad,af,al,ao,ap,ar,au,h⟩:=a.cells;have a2:=a.kid0 d.ks (by with_reducible assumption)
  (try have a8:=a.kid d.ks (j:=1) (by with_reducible assumption) (by decide))
  (try have a3:=a.kid d.ks (j:=2) (by with_reducible assumption) (by decide))
  obtain⟨A,B,C,E,F,G,H,I,J,_,_⟩:=av.rd _ a.pr.bel;have z0:=a.pr.cells.1;clear a1 R l w x bj;unfold jl;go_in
  repeat (go_wp2_with fail;refine Bx.stp a (by first|exact ai _ _|exact bH (dE _ _)) (by with_reducible first|exact aq (Dn _)|assumption) a6 (by(try simp only[ay]);omega) ?_;intro ba a;have a:=aq a;clear K ad af al ao ap ar au h;obtain⟨K,ad,af,al,ao,ap,ar,au,h⟩:=a.cells;have a2:=a.kid0 d.ks (by with_reducible assumption);(try have a8:=a.kid d.ks (j:=1) (by with_reducible assumption) (by decide));(try have a3:=a.kid d.ks (j:=2) (by with_reducible assumption) (by decide));obtain⟨A,B,C,E,F,G,H,I,J,_,_⟩:=av.rd _ a.pr.bel;have z0:=a.pr.cells.1)
  go_wp2_with fail;first|go_region_held3 (λe=>e.cell? ⟨w0.heap.size,0,V⟩=U (O (U c) n m)/\e.cell? ⟨a7.heap.size,8,V⟩=U (O (U p) 1 ck)/\e.cell? p=U (A2 A0 (b:Int))/\NdC e (c.add (b*9)) a4 (O t r v) (O s q u)) (first|exact⟨z0,h,a2,A,B,C,E,F,G,H,I,J⟩|((repeat' refine And.intro ?_ ?_)<;>go_keep)) (fail)|go_region_held3 (λe=>e.cell? ⟨w0.heap.size,0,V⟩=U (O (U c) n m)/\e.cell? ⟨a7.heap.size,8,V⟩=U (O (U p) 3 ck)/\e.cell? ⟨p.block,p.off+2,V⟩=U (A2 A0 (b:Int))/\NdC e (c.add (b*9)) a4 (O t r v) (O s q u)) (first|exact⟨z0,h,a3,A,B,C,E,F,G,H,I,J⟩|((repeat' refine And.intro ?_ ?_)<;>go_keep)) (fail)
  repeat (go_wp2_with fail;refine Bx.stp a (by first|exact ai _ _|exact bH (dE _ _)) (by with_reducible first|exact aq (Dn _)|assumption) a6 (by(try simp only[ay]);omega) ?_;intro ba a;have a:=aq a;clear K ad af al ao ap ar au h;obtain⟨K,ad,af,al,ao,ap,ar,au,h⟩:=a.cells;have a2:=a.kid0 d.ks (by with_reducible assumption);(try have a8:=a.kid d.ks (j:=1) (by with_reducible assumption) (by decide));(try have a3:=a.kid d.ks (j:=2) (by with_reducible assumption) (by decide));obtain⟨A,B,C,E,F,G,H,I,J,_,_⟩:=av.rd _ a.pr.bel;have z0:=a.pr.cells.1)
  go_wp2_with fail;first|go_end0|refine aH (jd rfl _ _ _) rfl ?_
  exact Bx.fin a (by simp only[dh])
def ahz(ns:List Nd)(a:Nat)(b:List Int):Prop:=∀c∈b,∃k:Nat,c=(k:Int)/\k<a/\k<ns.length/\gw (ae ns k).k=Ce
def aev(c:B2)(o v:A3)(ns:List Nd)(E:Int->ByteArray)(t:Int)(B:Nat)(ad:OkE c o ns E t B)(d:List Int)(y:dB c v d)(L:ahz ns B d)(ax:d.length<=1048576)(T:ByteArray)(w:B2)(h:Pr c o T t w)(au:T.size+(fc (d.map E)).size<=140737488355328):
  B1 Ax 97 #[Fs (U ⟨c.heap.size,0,V⟩),v] w λe w'=>e= A5 (F1 #[])/\Pr c o (T++fc (d.map E)) t w'/\Kq c.heap.size w w':=by
 have m:=Cn h y L ad;obtain⟨a2,a3,rfl⟩:=y.form;clear h y L ad;obtain⟨n,x⟩:=aF d.length;rw[x]at ax m⊢;have G:=aq x;clear x;obtain⟨b,s⟩:=aF (d.map E);rw[s]at au⊢;have F:Br (d.map E=b/\b.length=n):=⟨s,by rw[<-s,bi];exact G⟩;clear s;go_in;go_wp2_with fail;go_loopw [8] (λz wr=>∃a:Nat,a<=n/\z= A2 A0 a/\Br (Pr c o (T++fc (b.take a)) t wr/\Kq c.heap.size w wr)) (λz _=>n-(F0 z).toNat)
 case atStart=>exact⟨0,by omega,rfl,by rw[show T++fc (b.take 0)=T from ByteArray.append_empty];exact m.1,Kq.refl _ _⟩
 case round=>
  obtain⟨a,a5,rfl,f⟩:=hrel;by_cases av:a<n
  .obtain⟨a1,u⟩:=cA G.out av;obtain⟨j,rfl,af,a0,ak⟩:=m.2.2.1 a1 (dz u);obtain⟨ap,rfl,ar⟩:=(m.2.1.below f.1.bel).get u;have a7:(a:Int)<(n:Int):=by omega
   have a6:(0:Int)<=(a:Int):=by omega
   have al:b[a]?=U (E j):=by rw[<-F.out.1,cH,u];rfl
   have J:=rC b a (E j) al;have K:=BD b (a+1);have l:=gE J K;have r:=gE af ak;clear J K u al af a0 ak;by_cases I:a=0
   .subst I;have g:fc (b.take (0+1))=fc (b.take 0)++E j:=by rw[l.out.1,ab rfl]
    have i:=l.2;rw[g,ay]at i;have k:=gE g i;clear g i l;have a4:wr.cell? ap=U (A2 A0 (j:Int)):=by simpa [Addr.add] using ar
    go_wp2_with fail;refine(m.2.2.2.zero j _ _ r.1 r.2 f.1 (by have:=k.2;rw[ay];omega)).mono ?_;rintro e A ⟨rfl,p2,q⟩;have p:=gE p2 q;clear p2 q;go_wp2_with fail;refine⟨⟨1,by omega,by go_num,?_,f.2.trans p.2⟩,by simp[F0];omega⟩;rw[show(1:Nat)=0+1 from rfl,k.out.1,<-dh];exact p.1
   .have g:fc (b.take (a+1))=fc (b.take a)++iz++E j:=by rw[l.out.1,aa I]
    have i:=l.2;rw[g,ay,ay]at i;have H:iz.size=2:=rfl;have k:=kJ g i H;clear g i H l;have a8:(0:Int)<(a:Int):=by omega
    go_wp2_with fail;refine(gl c o _ _ _ _ f.1 (by have:=k.2;rw[ay];show _+iz.size<=_;omega)).mono ?_;rintro e A ⟨rfl,p2,q⟩;have p:Br (Pr c o (T++fc (b.take a)++iz) t A/\Kq c.heap.size wr A):=⟨p2,q⟩;clear p2 q;go_wp2_with fail;refine(m.2.2.2.zero j _ _ r.1 r.2 p.1 (by have:=k.2;rw[ay,ay];omega)).mono ?_;rintro e a9 ⟨rfl,ao,an⟩;have C:=gE ao an;clear ao an;go_wp2_with fail;refine⟨⟨a+1,by omega,by go_num,?_,(f.2.trans p.2).trans C.2⟩,by simp[F0];omega⟩;rw[k.out.1,<-dh,<-dh];exact C.1
  .obtain rfl:a=n:=by omega
   go_wp2_with fail;go_end0
   refine⟨rfl,?_,f.2⟩;have:=f.1
   rwa [db (by rw[F.out.2];exact ag _)]at this
def Ai(l:List ByteArray)(k:Nat)(x:ByteArray)(c:l[k]?=U x):jh (l.take (k+1))=jh (l.take k)++x:=by
 obtain⟨a,b⟩:=List.getElem?_eq_some_iff.1 c;unfold jh;rw[List.take_succ_eq_append_getElem a,List.foldl_append,b];rfl
def ahA(l:List ByteArray)(k:Nat):(jh (l.take k)).size<=(jh (l.take (k+1))).size:=by
 by_cases a:k<l.length
 .rw[Ai l k _ (aA a),ay];omega
 .rw[db (by omega),db (by omega)];exact ag _
def ac1(l:List ByteArray)(k:Nat):(jh (l.take k)).size<=(jh l).size:=by
 have b:∀a,(jh (l.take k)).size<=(jh (l.take (k+a))).size:=by
  intro a
  induction a with
  |zero=>exact ag _
  |succ a c=>exact bG c (ahA l (k+a))
 have:=b l.length
 rwa [db (show l.length<=k+l.length by omega)]at this
def apI(b:B2)(d:A3)(ns:List Nd)(S:Int->Nat->ByteArray)(c:Nat):Prop:=
 ∀(k a:Nat)(T:ByteArray)(W:B2),k<c->jz (ae ns k).k=Ce->a+c<=500000->Pr b d T a W->T.size+(S k a).size<=140737488355328->
  B1 Ax 49 #[Fs (U ⟨b.heap.size,0,V⟩),A2 A0 (k:Int)] W λe w'=>e= A5 (F1 #[])/\Pr b d (T++S k a) a w'/\Kq b.heap.size W w'
def apJ(ns:List Nd)(a:Nat)(b:List Int):Prop:=∀c∈b,∃k:Nat,c=(k:Int)/\k<a/\k<ns.length/\jz (ae ns k).k=Ce
def aew(a:B2)(E:A3)(ns:List Nd)(S:Int->Nat->ByteArray)(H:Nat)(ap:apI a E ns S H)(ao:eK a E ns)(b0:ns.length<=1048576)(i:Nat)(bb:i<ns.length)(al:apJ ns H (ae ns i).ks)(bd:(ae ns i).ks.length<=1048576)(tab:Nat)(cw:tab+H<500000)
  (T:ByteArray) (w:B2) (h:Pr a E T tab w) (y:T.size+(Az S (ae ns i).ks tab).size<=140737488355328):
  B1 Ax 95 #[Fs (U ⟨a.heap.size,0,V⟩),A2 A0 (i:Int)] w λe w'=>e= A5 (F1 #[])/\Pr a E (T++Az S (ae ns i).ks tab) tab w'/\Kq a.heap.size w w':=by
 have bh:=Ho bb;obtain⟨ce,k,rfl⟩:=ao.form;obtain⟨m,rfl,cz,cy,af⟩:=ao.get bh;obtain⟨z0,b9,ca⟩:=h.cells;have a7:=ah h.bel af.c8;have u:=af.hk;obtain⟨r,bf⟩:=aF ((ae ns i).ks);rw[bf]at al bd y u⊢;obtain⟨cf,ck,rfl⟩:=u.form;obtain⟨f,ba⟩:=aF ns.length;obtain⟨j,an⟩:=aF r.length;rw[ba]at z0 h ap b0 bb⊢;rw[an]at a7 u bd;have g:=aeK h u al ap an;have cu:(i:Int)<(f:Int):=by omega
 have cv:(0:Int)<=(i:Int):=by omega
 obtain⟨a6,l⟩:=aF (Az S r tab);rw[l]at y⊢;clear h ao af bh al ap u bf ba an;unfold Az at l;by_cases q:r=[]
 .have bA:j=0:=by have:=g.2.2.2.2;rw[q]at this;simpa using this.symm
  rw[ab q]at l;subst l bA;clear q;go_in;go_wp2_with fail;refine(gl a _ T _ _ _ g.1 y).mono ?_;rintro e F ⟨rfl,v,B⟩;go_wp2_with fail;exact aH (jd rfl _ _ _) rfl ⟨rfl,v,B⟩
 .rw[aa q]at l;have bD:0<j:=by
   have:=g.2.2.2.2;cases r with
   |nil=>exact absurd rfl q
   |cons cd cx=>simp at this;omega
  have cp:((j:Int)==0)=B4:=by simp;omega
  obtain⟨c,z⟩:∃c,(r.map λb=>iB (tab+1)++S b (tab+1))=c:=⟨_,rfl⟩;rw[z]at l;have ad:Br (⟨#[123]⟩++jh c++iB tab++⟨#[125]⟩=a6/\(r.map λb=>iB (tab+1)++S b (tab+1))=c/\c.length=j):=⟨l,z,by rw[<-z,bi];exact g.2.2.2.2⟩;have bn:T.size+(1+(jh c).size+(tab+1)+1)<=140737488355328:=by
   have e:a6.size=1+(jh c).size+(tab+1)+1:=by rw[<-l,ay,ay,ay,nG];rfl
   omega
  have t:=aq bn;clear l z y q bn bD;go_in;go_wp2_with fail;refine(gl a _ T ⟨#[123]⟩ _ _ g.1 (by have:=t.out;show T.size+1<=_;omega)).mono ?_;rintro e F ⟨rfl,v,B⟩;obtain⟨ax,G,x⟩:=v.cells;have a0:=x 2;have br:=v.putTab ((tab:Int)+1);have I:Br (Pr a (O (U m) f k) (T++⟨#[123]⟩) ((tab+1:Nat):Int) (F.setCell ⟨a.heap.size,2,V⟩ (A2 A0 ((tab:Int)+1)))/\Kq a.heap.size w (F.setCell ⟨a.heap.size,2,V⟩ (A2 A0 ((tab:Int)+1)))):=⟨by rw[show((tab+1:Nat):Int)=(tab:Int)+1 by omega];exact br,B.trans (Kq.putP _ _ _ _)⟩;clear v B br x;go_wp2_with fail;generalize F.setCell ⟨a.heap.size,2,V⟩ (A2 A0 ((tab:Int)+1))=cb at I⊢;clear ax G a0 z0 b9 ca a7;go_loopw [32] (λav wr=>∃b:Nat,b<=j/\av= A2 A0 b/\Br (Pr a (O (U m) f k) (T++⟨#[123]⟩++jh (c.take b)) ((tab+1:Nat):Int) wr/\Kq a.heap.size w wr)) (λav _=>j-(F0 av).toNat)
  case atStart=>exact⟨0,by omega,rfl,by rw[show T++⟨#[123]⟩++jh (c.take 0)=T++⟨#[123]⟩ from ByteArray.append_empty];exact I.1,I.2⟩
  case round=>
   obtain⟨b,cq,rfl,p⟩:=hrel;by_cases b1:b<j
   .obtain⟨b8,A⟩:=cA g.2.2.2.2 b1;obtain⟨s,rfl,bj,b2,bk⟩:=g.2.2.1 b8 (dz A);obtain⟨bw,rfl,bx⟩:=(g.2.1.below p.1.bel).get A;have ct:(b:Int)<(j:Int):=by omega
    have cr:(0:Int)<=(b:Int):=by omega
    have bl:c[b]?=U (iB (tab+1)++S s (tab+1)):=by rw[<-ad.out.2.1,cH,A];rfl
    have ak:=Ai c b _ bl;have a8:=ac1 c (b+1);have a9:(jh (c.take b)).size+(tab+2+(S s (tab+1)).size)<=(jh c).size:=by rw[ak,ay,ay,nG]at a8;omega
    have L:=gE ak a9;have a4:=gE bj bk;have ar:b=0->wr.cell? bw=U (A2 A0 (s:Int)):=λe=>by subst e;simpa [Addr.add] using bx
    clear ak a8 a9 A bl bj b2 bk;have bt:∀d,Pr a (O (U m) f k) (T++⟨#[123]⟩++jh (c.take b)++iB (tab+1)) ((tab+1:Nat):Int) d->Kq a.heap.size wr d->B1 Ax 49 #[Fs (U ⟨a.heap.size,0,V⟩),A2 A0 (s:Int)] d λe w'=>e= A5 (F1 #[])/\Br (Pr a (O (U m) f k) (T++⟨#[123]⟩++jh (c.take (b+1))) ((tab+1:Nat):Int) w'/\Kq a.heap.size w w'):=by
     intro d o n;refine(g.2.2.2.1 s (tab+1) _ d a4.1 a4.2 (by omega) o (by have:=L.2;have:=t.out;rw[ay,ay,ay,nG];show T.size+1+_+_+_<=_;omega)).mono ?_;rintro e w5 ⟨rfl,b5,b3⟩;refine⟨rfl,?_,(p.2.trans n).trans b3⟩;rw[L.out.1,<-dh,<-dh];exact b5
    have a5:Br (∀d,Pr a (O (U m) f k) (T++⟨#[123]⟩++jh (c.take b)++iB (tab+1)) ((tab+1:Nat):Int) d->Kq a.heap.size wr d->B1 Ax 49 #[Fs (U ⟨a.heap.size,0,V⟩),A2 A0 (s:Int)] d λe w'=>e= A5 (F1 #[])/\Br (Pr a (O (U m) f k) (T++⟨#[123]⟩++jh (c.take (b+1))) ((tab+1:Nat):Int) w'/\Kq a.heap.size w w')):=bt;have C:=Jj a (O (U m) f k) (T++⟨#[123]⟩++jh (c.take b)) (tab+1) wr p.1 (by omega) (by have:=L.2;have:=t.out;rw[ay,ay];show T.size+1+_+_<=_;omega);clear bt;by_cases bE:b=0
    .subst bE;have cl:=ar rfl;clear ar;go_wp2_with fail;refine C.mono ?_;rintro e d ⟨rfl,o,n⟩;have ks:=a5.out d o n;clear o n C;go_wp2_with fail;refine ks.mono ?_;rintro e w5 ⟨rfl,J⟩;go_wp2_with fail;exact⟨⟨1,by omega,by go_num,J⟩,by simp[F0];omega⟩
    .clear ar;go_wp2_with fail;refine C.mono ?_;rintro e d ⟨rfl,o,n⟩;have ks:=a5.out d o n;clear o n C;go_wp2_with fail;refine ks.mono ?_;rintro e w5 ⟨rfl,J⟩;go_wp2_with fail;exact⟨⟨b+1,by omega,by go_num,J⟩,by simp[F0];omega⟩
   .obtain rfl:b=j:=by omega
    obtain⟨ax,G,x⟩:=p.1.cells;have b7:wr.cell? ⟨a.heap.size,2,V⟩=U (A2 A0 ((tab:Int)+1)):=by rw[G];rw[show((tab+1:Nat):Int)=(tab:Int)+1 by omega]
    have a0:=x 2;have au:=p.1.putTab (tab:Int);rw[db (by rw[ad.out.2.2];exact ag _)]at au;have K:Br (Pr a (O (U m) f k) (T++⟨#[123]⟩++jh c) (tab:Int) (wr.setCell ⟨a.heap.size,2,V⟩ (A2 A0 (tab:Int)))/\Kq a.heap.size w (wr.setCell ⟨a.heap.size,2,V⟩ (A2 A0 (tab:Int)))):=⟨au,p.2.trans (Kq.putP _ _ _ _)⟩;have cn:(tab:Int)+1-1=(tab:Int):=by omega
    clear au G x ax;go_wp2_with fail;generalize wr.setCell ⟨a.heap.size,2,V⟩ (A2 A0 (tab:Int))=cc at K⊢;refine(Jj a _ _ tab _ K.1 (by omega) (by have:=t.out;rw[ay,ay];show T.size+1+_+_<=_;omega)).mono ?_;rintro e bv ⟨rfl,bs,bo⟩;have a3:Br (Pr a (O (U m) f k) (T++⟨#[123]⟩++jh c++iB tab) (tab:Int) bv/\Kq a.heap.size w bv):=⟨bs,K.2.trans bo⟩;clear bs bo b7 a0;go_wp2_with fail;refine(gl a _ _ ⟨#[125]⟩ _ _ a3.1 (by have:=t.out;rw[ay,ay,ay,nG];show T.size+1+_+_+1<=_;omega)).mono ?_;rintro e cB ⟨rfl,b6,b4⟩;go_wp2_with fail;go_end0
    refine⟨rfl,?_,a3.2.trans b4⟩;rw[<-ad.out.1,<-dh,<-dh,<-dh];exact b6
def ahB:(Tryz.prog.info? 3).map (λi=>(i.zero,i.size,i.bytes))=U (U (A2 A0 0),1,8):=by kernel_rfl
def KI:(Tryz.prog.info? 9).map (λi=>(i.zero,i.size,i.bytes))=U (U (B5 ⟨#[]⟩),1,16):=by kernel_rfl
structure Pp (E:Pe) (w:B2) (i:Nat):Prop where
 hn:E.n<=1048576
 tks:∃cs fr,w.heap[E.tb]?=U (.cells cs 46 fr)/\TkR cs E.tk E.n
 row:w.heap[E.pb]?=U (.cells #[.slice (U ⟨E.tb,0,V⟩) E.n E.cap,.int .i64 i] 49 (0,0))
 pg:1<E.pb
 pw:∃tt fr,w.heap[1]?=U (.cells JJ tt fr)
def Rv(w:B2)(lo:Nat)(b:Option Nat)(t:B7)(v:A3)(xs:List A3):Prop:=w.ownsRow lo t 1 v xs.length xs/\∀a,v.ownBlock=U a->b≠U a
def th(w:B2)(lo:Nat)(a:Option Nat):Fo->List A3->List Nat->Prop
 | .nil,vs,c=>vs=[]/\c=[]
 | .cons N k r,vs,c=>∃b g vn vk kv f d e,(vs=gg N.k b::f/\c=vn.ownBlock.toList++(d++e))/\(lo<=b/\a≠U b/\gJ w b N vn g vk/\oy N (fC N.k)=N)/\Rv w lo a 9 vn (N.nm.map A9)/\Rv w lo a 52 vk kv/\th w lo a k kv d/\th w lo a r f e
def Cl(w:B2)(lo:Nat)(b:Option Nat)(R:Fo)(c:List A3):Prop:=∃a,th w lo b R c a
def mB(a:List (A3×List ByteArray)):List Nat:=a.flatMap λb=>b.1.ownBlock.toList
def nd3{a b c:List Nat}(h:(a++c).Nodup)(k:b.Nodup)(f:∀x∈a++c,x<n)(g:∀x∈b,n<=x):((a++b)++c).Nodup:=by
 rw[qw]at h;obtain⟨j,l,m⟩:=h;have o:∀x∈a,∀d∈b,x≠d:=λx hx d e i=>by have:=f x (List.mem_append_left _ hx);have:=g d e;omega
 have p:∀x∈b,∀d∈c,x≠d:=λx hx d e i=>by have:=f d (Gm _ e);have:=g x hx;omega
 rw[qw,qw];refine⟨⟨j,k,o⟩,l,λx hx d e=>?_⟩;rcases List.mem_append.1 hx with hx|hx
 .exact m x hx d e
 .exact p x hx d e
def It(o:Option Nat):o.toList.Nodup:=by cases o<;>simp
section
variable {w w' : World} {lo lo' : Nat} {ex ex' : Option Nat}
def Rv.mono{t:B7}{v:A3}{xs:List A3}(o:Rv w lo ex t v xs)(h:∀k,lo<=k->ex≠U k->k<w.heap.size->w'.heap[k]?=w.heap[k]?/\lo'<=k/\ex'≠U k):Rv w' lo' ex' t v xs:=
 ⟨jG o.1 (λa b c d=>⟨(h a c (o.2 a b) d).1,(h a c (o.2 a b) d).2.1⟩),λa b=>(h a (o.1.lt a b).1 (o.2 a b) (o.1.lt a b).2).2.2⟩
def th.mono(h:∀k,lo<=k->ex≠U k->k<w.heap.size->w'.heap[k]?=w.heap[k]?/\lo'<=k/\ex'≠U k):∀(R:Fo)(vs:List A3)(a:List Nat),th w lo ex R vs a->th w' lo' ex' R vs a
 | .nil,vs,a,q=>q
 | .cons N k r,vs,a,⟨b,o,vn,vk,kv,i,f,g,e,⟨j,l,d,m⟩,n,k1,p,s⟩=>by
  have c:=h b j l (aj d);exact⟨b,o,vn,vk,kv,i,f,g,e,⟨c.2.1,c.2.2,c.1.trans d,m⟩,n.mono h,k1.mono h,th.mono h k kv f p,th.mono h r i g s⟩
def th.app:∀(R:Fo)(vs:List A3)(a:List Nat){S:Fo}{us:List A3}{cs:List Nat},th w lo ex R vs a->th w lo ex S us cs->th w lo ex (R.app S) (vs++us) (a++cs)
 | .nil,vs,a,S,us,cs,q,p=>by obtain⟨rfl,rfl⟩:=q;exact p
 | .cons t u o,vs,a,S,us,cs,⟨d,l,s,r,j,c,f,b,⟨g,h⟩,e,k,i,m,n⟩,p=>⟨d,l,s,r,j,c++us,f,b++cs,⟨by rw[g];rfl,by rw[h];simp only[cg]⟩,e,k,i,m,th.app o c b n p⟩
def th.lt:∀(R:Fo)(vs:List A3)(a:List Nat),th w lo ex R vs a->∀g∈a,lo<=g/\g<w.heap.size
 | .nil,vs,a,q=>by obtain⟨rfl,rfl⟩:=q;intro g hg;cases hg
 | .cons m e k,vs,a,⟨n,s,u,t,f,l,b,c,⟨p,d⟩,o,h,r,i,j⟩=>by
  intro g hg;rw[d]at hg;rcases List.mem_append.1 hg with hg|hg
  .exact h.1.lt g (by simpa using hg)
  rcases List.mem_append.1 hg with hg|hg
  .exact th.lt e f b i g hg
  .exact th.lt k l c j g hg
def Cl.len:∀(R:Fo)(vs:List A3),Cl w lo ex R vs->vs.length=R.len
 | .nil,vs,⟨b,q⟩=>by obtain⟨rfl,rfl⟩:=q;rfl
 | .cons g k e,vs,⟨b,h,o,s,r,m,f,j,a,c,i,n,l,p,d⟩=>by rw[c.1,bm,Cl.len e f ⟨a,d⟩];rfl
end
abbrev tkB(b:Nat)(t:Tk):Nat×B7×Array A3:=(b,46,pH t.k t)
structure Sw (E:Pe) (W w:B2) (i:Nat) (kv:A3) (kn:List A3) (D:Fo) (vs:List A3) (T:Bxs) (M:List (A3×List ByteArray)):Prop where
 pp:Pp E w i
 gr:W.grownBy w (U E.pb)
 lt:E.pb<W.heap.size
 ro:w.ownsRow W.heap.size 52 1 kv kn.length kn
 nb:∃bs,th w W.heap.size kv.ownBlock D vs bs/\(bs++mB M).Nodup
 tb:∀p∈T,W.heap.size<=p.1/\(p.2.1≠52/\p.2.1≠9)/\w.heap[p.1]?=U (.cells p.2.2 p.2.1 (0,0))
 nm:∀p∈M,w.ownsRow W.heap.size 9 1 p.1 (p.2.map A9).length (p.2.map A9)
section
variable {E : Pe} {W w w' : World} {i j : Nat} {kv v : Value} {kn vs us ws : List Value} {D R : Fo} {T : Bxs} {M : List (Value × List ByteArray)}
def Sw.nn(h:Sw E W w i kv kn D vs T M):Cl w W.heap.size kv.ownBlock D vs:=h.nb.elim λa b=>⟨a,b.1⟩
def ahC(nm:∀p∈M,w.ownsRow W.heap.size 9 1 p.1 (p.2.map A9).length (p.2.map A9)):∀g∈mB M,g<w.heap.size:=λg a=>by
 obtain⟨p,b,a⟩:=List.mem_flatMap.1 a;exact((nm p b).lt g (by simpa using a)).2
def Pp.lt(h:Pp E w i):E.pb<w.heap.size:=aj h.row
def Pp.keep(h:Pp E w i)(g:w.grownBy w' V):Pp E w' i:=by
 obtain⟨c,e,a,f⟩:=h.tks;obtain⟨j,d,b⟩:=h.pw;exact⟨h.hn,⟨c,e,(g.block _ (aj a) (by simp)).trans a,f⟩,(g.block _ h.lt (by simp)).trans h.row,h.pg,j,d,(g.block _ (aj b) (by simp)).trans b⟩
def Sw.start(h:Pp E w i):Br (Sw E w w i s0 [] .nil [] [] []):=⟨h,uf _ _,h.lt,eI _ _ _ _,⟨[],⟨rfl,rfl⟩,vh⟩,λb a=>(by cases a),λb a=>(by cases a)⟩
def Sw.step(h:Sw E W w i kv kn D vs T M)(g:w.grownBy w' (U E.pb))(p:Pp E w' j):Sw E W w' j kv kn D vs T M:=by
 have e:∀b,W.heap.size<=b->b<w.heap.size->w'.heap[b]?=w.heap[b]?:=λb a c=>g.block b c (λe=>by have:=h.lt;cases e;omega);obtain⟨f,l,m⟩:=h.nb;exact⟨p,h.gr.trans g,h.lt,jG h.ro (λg _ a c=>⟨e g a c,a⟩),⟨f,th.mono (λb a c k=>⟨e b a k,a,c⟩) _ _ _ l,m⟩,λp d=>⟨(h.tb p d).1,(h.tb p d).2.1,(e _ (h.tb p d).1 (aj (h.tb p d).2.2)).trans (h.tb p d).2.2⟩,λp d=>jG (h.nm p d) (λg _ a c=>⟨e g a c,a⟩)⟩
def rl(b:E1 w.heap.size w w')(q:Option Nat):w.grownBy w' q:=⟨b.os,b.tape,b.output,b.size,λc a _=>b.block c a⟩
def sX(h:Br (Sw E W w i kv kn D vs T M))(q:Pp E w' j/\w.grownBy w' (U E.pb)):Br (Sw E W w' j kv kn D vs T M):=h.step q.2 q.1
def sB(h:Br (Sw E W w i kv kn D vs T M))(b:E1 w.heap.size w w'):Br (Sw E W w' i kv kn D vs T M):=h.step (rl b _) (h.pp.keep (rl b _))
def Sw.sub(h:Sw E W w i kv kn D vs T M)(s:Sw E w w' j v us R ws [] []):Sw E W w' j kv kn (D.app R) (vs++ws) T M:=by
 have b:=h.step s.gr s.pp;have x:=h.gr.size;obtain⟨u,y,z⟩:=b.nb;obtain⟨o,l,q⟩:=h.nb;obtain⟨p,m,t⟩:=s.nb;obtain⟨c,r,p2⟩:∃c,th w' W.heap.size kv.ownBlock D vs c/\(c++mB M).Nodup/\∀a∈c,a<w.heap.size:=⟨o,th.mono (w:=w) (λe f g k=>⟨s.gr.block e k (λd=>by have:=h.lt;cases d;omega),f,g⟩) _ _ _ l,q,λa hx=>(l.lt _ _ _ a hx).2⟩;refine⟨b.pp,b.gr,b.lt,b.ro,⟨c++p,th.app _ _ _ r (th.mono (λe f g k=>⟨rfl,by omega,λd=>?_⟩) _ _ _ m),nd3 (n:=w.heap.size) p2.1 (by simpa [mB] using t) (λa hx=>?_) (λa hx=>(m.lt _ _ _ a hx).1)⟩,b.tb,b.nm⟩
 .have:=(h.ro.lt e d).2;omega
 .rcases List.mem_append.1 hx with hx|hx
  .exact p2.2 a hx
  .exact ahC h.nm a hx
def Sw.subL(h:Sw E W w i s0 [] D vs T M)(s:Sw E w w' j v us R ws [] []):Sw E W w' j v us (D.app R) (vs++ws) T M:=by
 have a:=h.step s.gr s.pp;have p:=h.gr.size;obtain⟨m,k,q⟩:=h.nb;obtain⟨o,l,r⟩:=s.nb;refine⟨a.pp,a.gr,a.lt,qL s.ro p,⟨m++o,th.app _ _ _ (th.mono (w:=w) (λd e f g=>⟨s.gr.block d g (λc=>by have:=h.lt;cases c;omega),e,λc=>?_⟩) _ _ _ k) (th.mono (λd e f g=>⟨rfl,by omega,f⟩) _ _ _ l),nd3 (n:=w.heap.size) q (by simpa [mB] using r) (λb hx=>?_) (λb hx=>(l.lt _ _ _ b hx).1)⟩,a.tb,a.nm⟩
 .have:=(s.ro.lt d c).1;omega
 .rcases List.mem_append.1 hx with hx|hx
  .exact(k.lt _ _ _ b hx).2
  .exact ahC h.nm b hx
def Sw.box(h:Sw E W w i kv kn D vs T M)(t:Tk):Sw E W (w.alloc (B0 (pH t.k t) 46)) i kv kn D vs (tkB w.heap.size t::T) M:=by
 have a:=sB (w:=w) h (dE w (B0 (pH t.k t) 46));refine⟨a.pp,a.gr,a.out.lt,a.ro,a.nb,λb hp=>?_,a.nm⟩;rcases List.mem_cons.1 hp with rfl|hp
 .exact⟨h.gr.size,⟨show 46≠52 by decide,show 46≠9 by decide⟩,aB w _⟩
 .exact a.tb b hp
def Sw.lit(h:Sw E W w i s0 [] D vs T M)(us:List A3)(m:us.length<=100):Sw E W (w.alloc (B0 us.toArray 52)) i (O (U ⟨w.heap.size,0,V⟩) us.length us.length) us D vs T M:=by
 have a:=sB (w:=w) h (dE w (B0 us.toArray 52));have k:=uF (base:=W.heap.size) (e:=52) (size:=1) w us.toArray us.length h.gr.size (by unfold F2;omega) (by simp);obtain⟨c,g,j⟩:=h.nb;refine⟨a.pp,a.gr,a.out.lt,by simpa using k,⟨c,th.mono (w:=w) (λb d l f=>⟨(dE w _).block b f,d,λe=>?_⟩) _ _ _ g,j⟩,a.tb,a.nm⟩;have:w.heap.size=b:=by simpa [B3] using e
 omega
def Sw.put(h:Sw E W w i kv kn D vs T M)(o:w'.ownsRow W.heap.size 52 1 v us.length us)(g:w.grownBy w' kv.ownBlock)(C:v.ownBlock=kv.ownBlock\/v.ownBlock=U w.heap.size):Sw E W w' i v us D vs T M:=by
 have b:∀a,a<w.heap.size->kv.ownBlock≠U a->w'.heap[a]?=w.heap[a]?:=λa p l=>g.block a p (λb=>l b.symm);have t:∀a,kv.ownBlock=U a->W.heap.size<=a:=λa c=>(h.ro.lt a c).1;have j:∀{a:Nat}{f:Array A3}{r:B7}{k:Nat×Nat},w.heap[a]?=U (B0 f r k)->r≠52->w'.heap[a]?=U (B0 f r k):=λc H=>(b _ (aj c) (gq h.ro c H)).trans c;obtain⟨f,k,L,ad⟩:=h.pp.tks;obtain⟨x,J,K⟩:=h.nb;obtain⟨al,A,u⟩:=h.pp.pw;have af:=(b _ (aj u) (λb=>by have:=t _ b;have:=h.lt;have:=h.pp.pg;omega)).trans u;refine⟨⟨h.pp.hn,⟨f,k,j L (by decide),ad⟩,j h.pp.row (by decide),h.pp.pg,al,A,af⟩,h.gr.andThen g (λa c=> .inl (t a c)),h.lt,o,⟨x,th.mono (w:=w) (λa p l s=>⟨b a s l,p,λm=>?_⟩) _ _ _ J,K⟩,λe d=>⟨(h.tb e d).1,(h.tb e d).2.1,j (h.tb e d).2.2 (h.tb e d).2.1.1⟩,λe d=>?_⟩
 .rcases C with q|q
  .exact l (q ▸ m)
  .rw[q]at m;cases m;exact Gu _ s
 .have q:=h.nm e d;obtain⟨B,n⟩:=q;refine⟨B,?_⟩;rcases n with n|⟨g,y,z,I,G,F,ak⟩
  .exact .inl n
  .exact .inr ⟨g,y,z,I,G,j F (by decide),ak⟩
def Sw.name(h:Sw E W w i kv kn D vs T M)(q:Pp E w' j/\w.grownBy w' (U E.pb)){ns:List ByteArray}(o:w'.ownsRow w.heap.size 9 1 v (ns.map A9).length (ns.map A9)):Sw E W w' j kv kn D vs T ((v,ns)::M):=by
 have a:=h.step q.2 q.1;obtain⟨c,d,m⟩:=h.nb;refine⟨a.pp,a.gr,a.lt,a.ro,⟨c,th.mono (w:=w) (λl f g k=>⟨q.2.block l k (λe=>by have:=h.lt;cases e;omega),f,g⟩) _ _ _ d,?_⟩,a.tb,λp hp=>?_⟩
 .show(c++(v.ownBlock.toList++mB M)).Nodup;rw[<-cg];refine nd3 (n:=w.heap.size) m (It _) (λb hx=>?_) (λb hx=>(o.lt b (by simpa using hx)).1);rcases List.mem_append.1 hx with hx|hx
  .exact(d.lt _ _ _ b hx).2
  .exact ahC h.nm b hx
 rcases List.mem_cons.1 hp with rfl|hp
 .exact qL o h.gr.size
 .exact a.nm p hp
def Sw.fin0(h:Sw E W w i kv vs D vs T M)(N:Nd)(vn:A3)(j:oy N (fC N.k)=N)(o:w.ownsRow W.heap.size 9 1 vn (N.nm.map A9).length (N.nm.map A9))(cs:Array A3)(m:cs=([A2 A0 N.k,A2 A0 N.f,A2 A0 N.t,A2 A0 N.l,A2 A0 0,kv]++exT N vn (fC N.k)).toArray)(st:B7)(ht:st=xb (fC N.k))(g:∀p∈M',p∈M)(n:∀b,(b++mB M).Nodup->((vn.ownBlock.toList++(b++[]))++mB M').Nodup):Sw E W (w.alloc (B0 cs st)) i s0 [] (one N D) [gg N.k w.heap.size] T M':=by
 subst m ht;have a:=sB (w:=w) h (dE w (B0 ([A2 A0 N.k,A2 A0 N.f,A2 A0 N.t,A2 A0 N.l,A2 A0 0,kv]++exT N vn (fC N.k)).toArray (xb (fC N.k))));have c:=dE w (B0 ([A2 A0 N.k,A2 A0 N.f,A2 A0 N.t,A2 A0 N.l,A2 A0 0,kv]++exT N vn (fC N.k)).toArray (xb (fC N.k)));obtain⟨b,r,s⟩:=a.nb;exact⟨a.pp,a.gr,a.out.lt,eI _ _ _ _,⟨_,⟨w.heap.size,0,vn,kv,vs,[],b,[],⟨rfl,rfl⟩,⟨h.gr.size,by simp[B3],aB w _,j⟩,⟨cJ o c,λd _=>by simp[B3]⟩,⟨a.ro,λd _=>by simp[B3]⟩,th.mono (λk e u v=>⟨rfl,e,by simp[B3]⟩) _ _ _ r,rfl,rfl⟩,n b s⟩,a.tb,λp q=>a.nm p (g p q)⟩
def Sw.drop(h:Sw E W w i kv kn D vs T M){b:Bxs}(d:∀p∈b,p∈T)(g:M'=M\/M'=[]):Sw E W w i kv kn D vs b M':=by
 obtain⟨c,e,f⟩:=h.nb;rcases g with rfl|rfl
 .exact⟨h.pp,h.gr,h.lt,h.ro,⟨c,e,f⟩,λp a=>h.tb p (d p a),h.nm⟩
 .exact⟨h.pp,h.gr,h.lt,h.ro,⟨c,e,by rw[show mB []=[] from rfl,dr];exact(List.nodup_append.1 f).1⟩,λp a=>h.tb p (d p a),λp a=>(by cases a)⟩
def Sw.boxg(h:Sw E W w i kv kn D vs T M)(cs:Array A3)(t:B7)(b:t≠52)(c:t≠9):Sw E W (w.alloc (B0 cs t)) i kv kn D vs ((w.heap.size,t,cs)::T) M:=by
 have a:=sB (w:=w) h (dE w (B0 cs t));refine⟨a.pp,a.gr,a.out.lt,a.ro,a.nb,λd hp=>?_,a.nm⟩;rcases List.mem_cons.1 hp with rfl|hp
 .exact⟨h.gr.size,⟨b,c⟩,aB w _⟩
 .exact a.tb d hp
end
def CN(E:Pe)(f:FuncId)(args:Array A3)(i:Nat)(R:Fo)(j:Nat):Prop:=
 ∀w,Pp E w i->R.sz<=50000000->B1 Ax f args w λa w'=>∃v,a= A5 v/\Br (Sw E w w' j s0 [] R [v] [] [])
def CR(E:Pe)(f:FuncId)(args:Array A3)(i:Nat)(R:Fo)(j:Nat):Prop:=
 ∀w,Pp E w i->R.sz<=50000000->B1 Ax f args w λa w'=>∃v vs,a= A5 v/\Br (Sw E w w' j v vs R vs [] [])
section
variable {E : Pe} {w w' : World} {i : Nat}
def Pp.cells(h:Pp E w i):w.cell? ⟨E.pb,0,V⟩=U (O (U ⟨E.tb,0,V⟩) E.n E.cap)/\w.cell? ⟨E.pb,1,V⟩=U (A2 A0 i)/\∀j,w.frozen? ⟨E.pb,j,V⟩=B4:=
 ⟨by rw[am _ _ _ _ _ _ h.row];rfl,by rw[am _ _ _ _ _ _ h.row];rfl,λj=>ch _ _ _ _ _ h.row⟩
def Pp.tok(h:Pp E w i){q:Nat}(d:q<E.n):∃l,((E.tk q).k≠6->l=(E.tk q).l)/\w.cell? ⟨E.tb,q*6,V⟩=U (A2 A0 (E.tk q).k)/\w.cell? ⟨E.tb,q*6+1,V⟩=U (A2 A0 (E.tk q).f)/\w.cell? ⟨E.tb,q*6+2,V⟩=U (A2 A0 (E.tk q).t)/\w.cell? ⟨E.tb,q*6+3,V⟩=U (A2 A0 l)/\w.cell? ⟨E.tb,q*6+4,V⟩=U (A2 A0 (E.tk q).n)/\w.cell? ⟨E.tb,q*6+5,V⟩=U (B5 (E.tk q).x):=by
 obtain⟨e,g,b,c⟩:=h.tks;obtain⟨l,a⟩:=c q d;exact⟨l,a.hl,by rw[am _ _ _ _ _ _ b];exact a.c0,by rw[am _ _ _ _ _ _ b];exact a.c1,by rw[am _ _ _ _ _ _ b];exact a.c2,by rw[am _ _ _ _ _ _ b];exact a.c3,by rw[am _ _ _ _ _ _ b];exact a.c4,by rw[am _ _ _ _ _ _ b];exact a.c5⟩
def Pp.tkw(h:Pp E w i){q:Nat}(d:q<E.n)(b:(E.tk q).k≠6):TkW E q w:=by
 obtain⟨m,c,e,f,g,a,j,l⟩:=h.tok d;rw[c b]at a;exact⟨e,f,g,a,j,l⟩
def Pp.ne(h:Pp E w i):E.tb≠E.pb:=λb=>by
 obtain⟨c,d,a,e⟩:=h.tks;rw[b,h.row]at a;cases a
def Pp.move(h:Pp E w i)(j:Nat):Pp E (w.setCell ⟨E.pb,1,V⟩ (A2 A0 j)) j/\w.grownBy (w.setCell ⟨E.pb,1,V⟩ (A2 A0 j)) (U E.pb):=by
 obtain⟨a,c,d,e⟩:=h.tks;obtain⟨g,b,f⟩:=h.pw;exact⟨⟨h.hn,⟨a,c,(aC _ _ _ _ h.ne).trans d,e⟩,aL _ E.pb 1 _ _ _ h.row,h.pg,g,b,(aC _ _ _ _ (Nat.ne_of_lt h.pg)).trans f⟩,qz (uf w _) 1 _⟩
def Pp.other(h:Pp E w i){b:Nat}(k:b≠E.pb)(l:b≠E.tb)(o:E.pb<=b)(g:w.grownBy w' (U b)):Pp E w' i:=by
 obtain⟨e,j,d,m⟩:=h.tks;obtain⟨n,f,c⟩:=h.pw;exact⟨h.hn,⟨e,j,(g.block _ (aj d) (λa=>l (by cases a;rfl))).trans d,m⟩,(g.block _ h.lt (λa=>k (by cases a;rfl))).trans h.row,h.pg,n,f,(g.block _ (aj c) (λa=>by cases a;have:=h.pg;omega)).trans c⟩
def ahD(h:Pp E w i)(a:i<E.n):B1 Ax 65 #[pV E] w λe w'=>e= A5 (A2 A0 (E.tk i).k)/\E1 w.heap.size w w':=by
 obtain⟨b,c,d⟩:=h.cells;obtain⟨j,g,l,m,o,p,q,r⟩:=h.tok a;have f:(i:Int)<(E.n:Int):=by omega
 clear h a;go_in;go_wp21
 go_quiet (fail)
 go_wp2;go_ret;exact⟨rfl,rfl,rfl,rfl,ag _,λ_ _=>rfl⟩
def apK(h:Pp E w i)(an:i<E.n)(al:(E.tk i).k≠6):B1 Ax 66 #[pV E] w λe w'=>e= .returned (vTk (E.tk i))/\Pp E w' (i+1)/\w.grownBy w' (U E.pb):=by
 have a3:=h.lt;have p:=dE w (.cells #[.int .i64 0,.int .i64 0,.int .i64 0,.int .i64 0,.int .i64 0,.string ⟨#[]⟩] 46);have o:=h.keep (rl p _);obtain⟨b,r⟩:=o.move (i+1);obtain⟨L,ad,af⟩:=o.cells;obtain⟨u,v,y⟩:=b.cells;obtain⟨B,C,F,G,H,I⟩:=b.tkw an al;have ak:((i+1:Nat):Int)=(i:Int)+1:=by omega
 rw[ak]at b r v u y B C F G H I;have a2:=h.hn;have a4:IntKind.i64.wrap (i:Int)=(i:Int):=by rw[dt];omega
 obtain⟨c,m⟩:=aF ((w.alloc (.cells #[.int .i64 0,.int .i64 0,.int .i64 0,.int .i64 0,.int .i64 0,.string ⟨#[]⟩] 46)).setCell ⟨E.pb,1,V⟩ (.int .i64 ((i:Int)+1)));have q:c.heap[w.heap.size]?=U (.cells #[.int .i64 0,.int .i64 0,.int .i64 0,.int .i64 0,.int .i64 0,.string ⟨#[]⟩] 46 (0,0)):=by
  rw[<-m,aC _ _ _ _ (by show w.heap.size≠E.pb;omega)];exact aB w _
 have z:w.grownBy c (U E.pb):=by rw[<-m];exact(rl p _).trans r
 rw[m]at b u v y B C F G H I;go_in;go_wp21
 have j:=kJ b z q;have s:=aq h;clear m o p b r L ad af h z q;obtain⟨z0,a5,a6,a7,a8,a9⟩:=ik j.2.2;obtain⟨ba,bb,bd,bf,bh,bj⟩:=pK j.2.2;have ap:E.pb≠w.heap.size:=by omega
 have ar:E.tb≠w.heap.size:=by
  obtain⟨a0,a1,au,_⟩:=s.tks;have:=aj au;omega
 have A:=λk (h:k≠w.heap.size) a=>ye (W:=c) h a;unfold six at A;go_region_held3 (λJ=>∀k,k≠w.heap.size->∀a,J.cell? ⟨k,a,V⟩=c.cell? ⟨k,a,V⟩) (first|with_reducible exact λk h a=>A k h a _ _ _ _ _ _|exact λ_ _ _=>rfl) (fail)
 have g:=CE c w.heap.size (.int .i64 (E.tk i).k) (.int .i64 (E.tk i).f) (.int .i64 (E.tk i).t) (.int .i64 (E.tk i).l) (.int .i64 (E.tk i).n) (.string (E.tk i).x);have d:=GF j.2.2 (.int .i64 (E.tk i).k) (.int .i64 (E.tk i).f) (.int .i64 (E.tk i).t) (.int .i64 (E.tk i).l) (.int .i64 (E.tk i).n) (.string (E.tk i).x);rw[<-rz]at d;unfold six at g d;generalize World.drew _=ax at g d⊢;go_wp2;obtain⟨av,K,q⟩:=j.out;exact aH (gA rfl _ _ w.heap.size _ _ _ _ rfl d Tryz.underlying46 rfl (by kernel_rfl)) rfl ⟨rfl,av.other ap.symm ar.symm (fx s.out.lt) g,K.andThen g (λa ao=> .inl (by cases ao;exact ag _))⟩
end
section
variable {E : Pe} {w w' : World} {i : Nat}
def apL(h:Pp E w i)(l:i<E.n){k:Int}(d:(E.tk i).k=k):B1 Ax 184 #[pV E,A2 A0 k] w λe w'=>e= A5 (G2 Ce)/\Pp E w' (i+1)/\w.grownBy w' (U E.pb):=by
 have r:((E.tk i).k !=k)=B4:=by simp[d]
 have f:=ahD h l;have g:=aq h;have q:=h.hn;clear h d;go_in;go_wp21
 refine f.mono ?_;rintro e w1 ⟨rfl,c⟩;have a:=g.keep (rl c _);obtain⟨m,o,p⟩:=a.cells;have j:=aq a;clear a f;go_wp21
 go_ret;have b:=j.move (i+1);rw[show((i+1:Nat):Int)=(i:Int)+1 by omega]at b;exact⟨rfl,b.1,(rl c _).trans b.2⟩
def ap0(h:Pp E w i)(a:i<E.n){k:Int}(b:(E.tk i).k≠k):B1 Ax 184 #[pV E,A2 A0 k] w λe w'=>e= A5 (G2 B4)/\E1 w.heap.size w w':=by
 have f:((E.tk i).k !=k)=Ce:=by simp[b]
 have d:=ahD h a;clear h b a;go_in;go_wp2_with (go_at_call 65;refine d.mono ?_;rintro e w1 ⟨rfl,c⟩);go_ret;exact⟨rfl,c⟩
def ahE(h:Pp E w i)(y:i<E.n):B1 Ax 35 #[pV E] w λe w'=>(∃l,((E.tk i).k≠6->l=(E.tk i).l)/\e= .returned (.agg #[.int .i64 (E.tk i).k,.int .i64 (E.tk i).f,.int .i64 (E.tk i).t,.int .i64 l,.int .i64 (E.tk i).n,.string (E.tk i).x]))/\E1 w.heap.size w w':=by
 have d:=dE w (.cells #[.int .i64 0,.int .i64 0,.int .i64 0,.int .i64 0,.int .i64 0,.string ⟨#[]⟩] 46);have j:=h.keep (rl d _);obtain⟨s,u,v⟩:=j.cells;obtain⟨l,A,C,F,G,H,I,J⟩:=j.tok y;obtain⟨g,o⟩:=aF (w.alloc (.cells #[.int .i64 0,.int .i64 0,.int .i64 0,.int .i64 0,.int .i64 0,.string ⟨#[]⟩] 46));have p:g.heap[w.heap.size]?=U (.cells #[.int .i64 0,.int .i64 0,.int .i64 0,.int .i64 0,.int .i64 0,.string ⟨#[]⟩] 46 (0,0)):=by rw[<-o];exact aB w _
 rw[o]at j s u v C F G H I J d;have b:=gE p d;have af:E.pb≠w.heap.size:=by have:=h.lt;omega
 have ak:E.tb≠w.heap.size:=by
  obtain⟨L,ad,B,_⟩:=h.tks;have:=aj B;omega
 clear h j p d;go_in;go_wp21
 clear o;obtain⟨z0,al,an,ao,ap,ar⟩:=ik b.1;obtain⟨au,av,ax,a0,a1,a2⟩:=pK b.1;have q:=λk (h:k≠w.heap.size) a=>ye (W:=g) h a;unfold six at q;go_region_held3 (λr=>∀k,k≠w.heap.size->∀a,r.cell? ⟨k,a,V⟩=g.cell? ⟨k,a,V⟩) (first|with_reducible exact λk h a=>q k h a _ _ _ _ _ _|exact λ_ _ _=>rfl) (fail)
 have m:=CE g w.heap.size (.int .i64 (E.tk i).k) (.int .i64 (E.tk i).f) (.int .i64 (E.tk i).t) (.int .i64 l) (.int .i64 (E.tk i).n) (.string (E.tk i).x);have c:=GF b.1 (.int .i64 (E.tk i).k) (.int .i64 (E.tk i).f) (.int .i64 (E.tk i).t) (.int .i64 l) (.int .i64 (E.tk i).n) (.string (E.tk i).x);rw[<-rz]at c;unfold six at m c;generalize World.drew _=K at m c⊢;go_wp2;exact aH (gA rfl _ _ w.heap.size _ _ _ _ rfl c Tryz.underlying46 rfl (by kernel_rfl)) rfl ⟨⟨l,A,rfl⟩,b.2.grown m (by have:=b.2.size;omega) (λk z=>by cases z;omega)⟩
def aki(h:Pp E w (i+1))(B:i<E.n)(nk:Int)(T:Tk)(a:Option Addr)(n c:Nat):B1 Ax 186 #[pV E,.int .i64 nk,vTk T,.slice a n c] w λe w'=>e= .returned (.agg #[.int .i64 nk,.int .i64 T.f,.int .i64 (E.tk i).t,.int .i64 T.l,.int .i64 0,.slice a n c])/\E1 w.heap.size w w':=by
 have r:=dE w (.cells (pH T.k T) 46);have o:E1 w.heap.size w ((w.alloc (.cells (pH T.k T) 46)).alloc (.cells #[.int .i64 0,.int .i64 0,.int .i64 0,.int .i64 0,.int .i64 0,.slice V 0 0] 90)):=r.alloc (by simp) _;have p:=h.keep (rl o _);obtain⟨z,s,A⟩:=p.cells;obtain⟨l,an,G,H,I,J,K,L⟩:=p.tok B;rw[show((i+1:Nat):Int)=(i:Int)+1 by omega]at s;have al:=h.hn;have au:IntKind.i64.wrap (i:Int)=(i:Int):=by rw[dt];omega
 obtain⟨j,k⟩:=aF ((w.alloc (.cells (pH T.k T) 46)).alloc (.cells #[.int .i64 0,.int .i64 0,.int .i64 0,.int .i64 0,.int .i64 0,.slice V 0 0] 90));have v:j.heap[w.heap.size+1]?=U (.cells #[.int .i64 0,.int .i64 0,.int .i64 0,.int .i64 0,.int .i64 0,.slice V 0 0] 90 (0,0)):=by
  have:=aB (w.alloc (.cells (pH T.k T) 46)) (.cells #[.int .i64 0,.int .i64 0,.int .i64 0,.int .i64 0,.int .i64 0,.slice V 0 0] 90);rw[de]at this;rw[<-k];exact this
 have u:j.heap[w.heap.size]?=U (.cells (pH T.k T) 46 (0,0)):=by
  rw[<-k];exact((dE (w.alloc (.cells (pH T.k T) 46)) _).block _ (by simp)).trans (aB w _)
 rw[k]at p z s A G H I J K L o;have g:=gE v o;obtain⟨av,ax,a0,a1,a2,a3⟩:=ik u;have ao:E.pb≠w.heap.size+1:=by have:=h.lt;omega
 have ap:E.tb≠w.heap.size+1:=by
  obtain⟨af,ak,F,_⟩:=h.tks;have:=aj F;omega
 have ar:w.heap.size≠w.heap.size+1:=by omega
 clear h p v o r u;simp only[pH]at k;unfold vTk;go_in;go_wp21
 clear k;obtain⟨z0,a4,a5,a6,a7,a8⟩:=ik g.1;obtain⟨a9,ba,bb,bd,bf,bh⟩:=pK g.1;have x:=λb (h:b≠w.heap.size+1) d=>ye (W:=j) h d;unfold six at x;go_region_held3 (λy=>∀b,b≠w.heap.size+1->∀d,y.cell? ⟨b,d,V⟩=j.cell? ⟨b,d,V⟩) (first|with_reducible exact λb h d=>x b h d _ _ _ _ _ _|exact λ_ _ _=>rfl) (fail)
 have q:=CE j (w.heap.size+1) (.int .i64 nk) (.int .i64 T.f) (.int .i64 (E.tk i).t) (.int .i64 T.l) (.int .i64 0) (.slice a n c);have m:=GF g.1 (.int .i64 nk) (.int .i64 T.f) (.int .i64 (E.tk i).t) (.int .i64 T.l) (.int .i64 0) (.slice a n c);rw[<-rz]at m;unfold six at q m;generalize World.drew _=ad at q m⊢;go_wp2;exact aH (gA rfl _ _ (w.heap.size+1) _ _ _ _ rfl m Tryz.underlying90 rfl (by kernel_rfl)) rfl ⟨rfl,g.2.grown q (by have:=g.2.size;omega) (λb C=>by cases C;omega)⟩
end
section
variable {E : Pe} {W w w' : World} {i j q : Nat} {k nk : Int} {kv v : Value} {kn vs us ws : List Value} {D R : Fo} {T : Bxs} {M : List (Value × List ByteArray)} {f : FuncId} {args : Array Value}
def oE(S:Br (Sw E W w i kv kn D vs T M))(d:(E.tk i).k=k)(c:i<E.n:=by omega):B1 Ax 65 #[pV E] w λe w'=>e= A5 (A2 A0 k)/\Br (Sw E W w' i kv kn D vs T M):=by
 rw[<-d];refine(ahD S.pp c).mono ?_;rintro e w' ⟨b,a⟩;exact⟨b,sB S a⟩
def ll(S:Br (Sw E W w i kv kn D vs T M))(f:(E.tk i).k=k)(d:i<E.n)(a:k≠6:=by decide):B1 Ax 66 #[pV E] w λe w'=>e= A5 (G3 (pH k (E.tk i)))/\Br (Sw E W w' (i+1) kv kn D vs T M):=by
 rw[<-f]at a⊢;refine(apK S.pp d a).mono ?_;rintro e w' ⟨c,b⟩;exact⟨c,sX S b⟩
def wF(S:Br (Sw E W w i kv kn D vs T M))(d:(E.tk i).k=k)(c:i<E.n:=by omega):B1 Ax 184 #[pV E,A2 A0 k] w λe w'=>e= A5 (G2 Ce)/\Br (Sw E W w' (i+1) kv kn D vs T M):=by
 refine(apL S.pp c d).mono ?_;rintro e w' ⟨b,a⟩;exact⟨b,sX S a⟩
def Bf(S:Br (Sw E W w i kv kn D vs T M))(d:(E.tk i).k≠k)(c:i<E.n:=by omega):B1 Ax 184 #[pV E,A2 A0 k] w λe w'=>e= A5 (G2 B4)/\Br (Sw E W w' i kv kn D vs T M):=by
 refine(ap0 S.pp c d).mono ?_;rintro e w' ⟨b,a⟩;exact⟨b,sB S a⟩
def Ef(S:Br (Sw E W w i kv kn D vs T M))(f:(E.tk i).k=k)(d:i<E.n)(b:k≠6):B1 Ax 35 #[pV E] w λe w'=>e= A5 (G3 (pH k (E.tk i)))/\Br (Sw E W w' i kv kn D vs T M):=by
 rw[<-f]at b⊢;refine(ahE S.pp d).mono ?_;rintro e w' ⟨⟨h,g,a⟩,c⟩;rw[g b]at a;exact⟨a,sB S c⟩
def E7(S:Br (Sw E W w i kv kn D vs T M))(a:t.k=k):∃w',w.alloc (B0 (pH k t) 46)=w'/\Br (Sw E W w' i kv kn D vs (tkB w.heap.size t::T) M):=by
 rw[<-a];exact⟨_,rfl,S.box t⟩
def E8{b:Nat}(S:Br (Sw E W w i kv kn D vs (tkB b t::T) M))(a:t.k=k):w.cell? ⟨b,0,V⟩=U (A2 A0 k)/\w.cell? ⟨b,1,V⟩=U (A2 A0 t.f)/\w.cell? ⟨b,2,V⟩=U (A2 A0 t.t)/\w.cell? ⟨b,3,V⟩=U (A2 A0 t.l)/\w.cell? ⟨b,4,V⟩=U (A2 A0 t.n)/\w.cell? ⟨b,5,V⟩=U (B5 t.x):=by
 rw[<-a];exact ik (S.tb _ (bg ..)).2.2
def Cl.form{lo:Nat}{c:Option Nat}(h:Cl w lo c R [v]):∃t p,v= G0 t p:=by
 cases R with
 |nil=>obtain⟨b,a,_⟩:=h;cases a
 |cons d i l=>
  obtain⟨b,e,k,n,m,j,o,f,g,a,_⟩:=h;exact⟨_,_,(kD a.1).1⟩
def xu(S:Br (Sw E W w i kv kn D vs T M))(C:CN E f args i R j)(c:R.sz<=50000000:=by omega):B1 Ax f args w λe w'=>∃t p,e= A5 (G0 t p)/\Br (Sw E W w' j kv kn (D.app R) (vs++[G0 t p]) T M):=by
 refine(C w S.pp c).mono ?_;rintro e w' ⟨d,b,a⟩;obtain⟨t,p,rfl⟩:=Cl.form a.nn;exact⟨t,p,b,S.sub a⟩
def ac2(S:Br (Sw E W w i s0 [] D vs T M))(C:CR E f args i R j)(g:R.sz<=50000000:=by omega):B1 Ax f args w λe w'=>∃a n c us,e= A5 (O a n c)/\Br (Sw E W w' j (O a n c) us (D.app R) (vs++us) T M)/\us.length=n:=by
 refine(C w S.pp g).mono ?_;rintro e w' ⟨h,us,d,b⟩;obtain⟨a,c,rfl⟩:=bJ b.ro;exact⟨a,_,c,us,d,S.subL b,rfl⟩
def KJ(S:Br (Sw E W w i s0 [] D vs T M))(us:List A3)(cs:Array A3)(a:cs=us.toArray)(n:Nat)(b:us.length=n)(c:n<=100):∃w',w.alloc (B0 cs 52)=w'/\Br (Sw E W w' i (O (U ⟨w.heap.size,0,V⟩) n n) us D vs T M):=by
 subst a b;exact⟨_,rfl,S.lit us c⟩
def rL(S:Br (Sw E W w j kv kn D vs T M))(h:t.k=k)(i:1<=j)(m:j<=E.n)(nk:Int)(a:Option Addr)(n c:Nat):B1 Ax 186 #[pV E,A2 A0 nk,G3 (pH k t),O a n c] w λe w'=>e= A5 (G3 #[A2 A0 nk,A2 A0 t.f,A2 A0 (E.tk (j-1)).t,A2 A0 t.l,A2 A0 0,O a n c])/\Br (Sw E W w' j kv kn D vs T M):=by
 rw[<-h];obtain⟨b,rfl⟩:∃b,j=b+1:=⟨j-1,by omega⟩;refine(aki S.pp (by omega) nk t a n c).mono ?_;rintro e w' ⟨g,d⟩;exact⟨g,sB S d⟩
def aq7{vn:A3}(N:Nd)(S:Br (Sw E W w i kv vs D vs T ((vn,N.nm)::M)))(d:oy N (fC N.k)=N){cs:Array A3}(e:cs=([A2 A0 N.k,A2 A0 N.f,A2 A0 N.t,A2 A0 N.l,A2 A0 0,kv]++exT N vn (fC N.k)).toArray){st:B7}(ht:st=xb (fC N.k)):Br (Sw E W (w.alloc (B0 cs st)) i s0 [] (one N D) [gg N.k w.heap.size] [] []):=(S.fin0 N vn d (S.nm _ (bg ..)) cs e st ht (M':=[]) (λg b=>by cases b) (λc a=>by
 have a:(c++(vn.ownBlock.toList++mB M)).Nodup:=a;rw[show mB []=[] from rfl,dr,dr];rw[<-cg]at a;exact(List.perm_append_comm.nodup_iff).1 (List.nodup_append.1 a).1)).drop (λg b=>by cases b) (.inr rfl)
def F9(S:Br (Sw E W w i kv vs D vs T M))(N:Nd)(a:oy N (fC N.k)=N)(d:N.nm=[]){cs:Array A3}(b:cs=([A2 A0 N.k,A2 A0 N.f,A2 A0 N.t,A2 A0 N.l,A2 A0 0,kv]++exT N s0 (fC N.k)).toArray){st:B7}(ht:st=xb (fC N.k)):Br (Sw E W (w.alloc (B0 cs st)) i s0 [] (one N D) [gg N.k w.heap.size] T M):=S.fin0 N s0 a (by rw[d];exact eI _ _ _ _) cs b st ht (λh e=>e) (λg c=>by rw[show(s0:A3).ownBlock.toList=[] from rfl,eu,dr];exact c)
def KL(S:Br (Sw E W w i kv vs D vs T M))(N:Nd)(a:oy N (fC N.k)=N)(c:N.nm=[]){cs:Array A3}(b:cs=([A2 A0 N.k,A2 A0 N.f,A2 A0 N.t,A2 A0 N.l,A2 A0 0,kv]++exT N s0 (fC N.k)).toArray){st:B7}(ht:st=xb (fC N.k)):Br (Sw E W (w.alloc (B0 cs st)) i s0 [] (one N D) [gg N.k w.heap.size] [] []):=(F9 S N a c b ht).out.drop (λe d=>by cases d) (.inr rfl)
def Cl.cell:∀(R:Fo)(vs:List A3){lo:Nat}{ex:Option Nat},Cl w lo ex R vs->∀u∈vs,u.oneCell'=Ce
 | .nil,vs,lo,ex,⟨b,h⟩=>by obtain⟨rfl,rfl⟩:=h;intro u hu;cases hu
 | .cons g l e,vs,lo,ex,⟨b,i,p,s,r,n,f,k,a,c,j,o,m,q,d⟩=>by
  intro u hu;rw[c.1]at hu;rcases List.mem_cons.1 hu with rfl|hu
  .rfl
  .exact Cl.cell e f ⟨a,d⟩ u hu
def aex:(Tryz.prog.info? 52).map (λi=>(i.zero,i.size,i.bytes))=U (U .nilIface,1,16):=by kernel_rfl
def ti{q:List Oper}(i:o.guard=V)(s x:Operand)(k:o.op= .call {callee:= .builtin .append,args:=#[s,x],argTypes:=#[88,88]}){base t:Nat}{r:A3}(m:a.eval s=kv)(f:w.ownsRow base 52 1 kv kn.length kn)(n:a.eval x=r)(K:w.ownsRow t 52 1 r us.length us)(z:∀u∈us,u.oneCell'=Ce)(an:kn.length+us.length<=100000000)(B:base<=w.heap.size)
  (h:∀b d c w',w'.ownsRow base 52 1 (.slice b d c) (kn++us).length (kn++us)->d=kn.length+us.length->w.grownBy w' kv.ownBlock->((Ck b d c).ownBlock=kv.ownBlock\/(Ck b d c).ownBlock=U w.heap.size)->wpList Ax ops Q q (a.put o.dst (.slice b d c)) w'):wpList Ax ops Q (o::q) a w:=by
 obtain⟨p,j,G,H,I⟩:=eD aex;rcases K.2 with⟨rfl,F⟩|⟨y,v,L,rfl,al,C,ad,af,ak,g⟩
 .refine wpList_append_own_none i s x 88 k base 52 p 1 Tryz.underlying88 j _ _ _ m f n ?_;obtain⟨b,c,rfl⟩:=bJ f;obtain rfl:us=[]:=List.length_eq_zero_iff.1 F;exact h _ _ _ w (by simpa using f) (by simp) (uf _ _) (.inl rfl)
 .refine C2 _ i s x 88 k base 52 p _ 1 16 Tryz.underlying88 j G H I rfl (by decide) _ _ _ m f ⟨y,0,V⟩ us.length v us n (by omega) (λJ u e=>B6 C J u (by rw[sn]at g;rw[<-g,mJ]at e;split at e;exact e;cases e)) z (by unfold F2;omega) (by omega) B ?_;intro ao w1 l E _ A;obtain⟨b,c,rfl⟩:=bJ l;exact h _ _ _ w1 (by rw[aJ];exact l) rfl E A
end
section
variable {E : Pe} {W w : World} {i j b n : Nat} {kv u : Value} {kn vs : List Value} {D R : Fo} {T : Bxs} {M : List (Value × List ByteArray)} {t : TypeId} {cs : Array Value}
def sRd(S:Br (Sw E W w i kv kn D vs ((b,t,cs)::T) M)):(∀q,w.cell? ⟨b,q,V⟩=cs[q]?)/\(∀q,w.frozen? ⟨b,q,V⟩=B4)/\b<w.heap.size:=by
 have a:=(S.tb _ (.head _)).2.2;exact⟨λq=>by rw[am _ _ _ _ _ _ a],λq=>ch _ _ _ _ _ a,aj a⟩
def sBx(S:Br (Sw E W w i kv kn D vs T M))(a:t≠52:=by decide)(b:t≠9:=by decide):Br (Sw E W (w.alloc (B0 cs t)) i kv kn D vs ((w.heap.size,t,cs)::T) M):=S.boxg cs t a b
def sLt(S:Br (Sw E W w i s0 [] D vs T M))(a:cs.toList.length=n:=by rfl)(b:Nat.ble n 100=Ce:=by rfl):Br (Sw E W (w.alloc (B0 cs 52)) i (O (U ⟨w.heap.size,0,V⟩) n n) cs.toList D vs T M):=by
 subst a;exact S.lit cs.toList (Nat.le_of_ble_eq_true b)
def sLn(S:Br (Sw E W w i kv kn D vs T M)):vs.length<=D.sz:=by
 have:=Cl.len _ _ S.nn;have:=D.len_le;omega
def sAp{g:List Oper}(S:Br (Sw E W w i kv kn D vs T M))(p:u.oneCell'=Ce)(v:kn.length<=50000000)(l:o.guard=V)(s x:Operand)(m:o.op= .call {callee:= .builtin .append,args:=#[s,x],argTypes:=#[88,88]})(n:a.eval s=kv)(r:a.eval x= O (U ⟨w.heap.size,0,V⟩) 1 1)
  (h:∀b d c w',Br (Sw E W w' i (O b d c) (kn++[u]) D vs T M)->wpList Ax ops Q g (a.put o.dst (O b d c)) w'):wpList Ax ops Q (o::g) a (w.alloc (B0 #[u] 52)):=by
 have f:=sB S (dE w (B0 #[u] 52));exact ti l s x m n f.ro r (uF (base:=w.heap.size) (e:=52) (size:=1) w #[u] 1 (ag _) (by unfold F2;omega) rfl) (us:=[u]) (by intro y q;rw[List.mem_singleton.1 q];exact p) (by simp only[bm,ej];omega) (by rw[de];have:=S.gr.size;omega) λb d c w' t _ k j=>h b d c w' (f.out.put t k j)
end
open Go.Maps Go.WideMaps
def abc{j:List Oper}(r:o.guard=V)(s x:Operand)(u:o.op= .call {callee:= .builtin .append,args:=#[s,x],argTypes:=#[59,59]})(base:Nat)(c:Option Addr)(n f:Nat)(l:List ByteArray)(y:a.eval s= .slice c n f)(I:l.length=n)(v:w.ownsRow base 9 1 (.slice c n f) n (l.map A9))(p:base<=w.heap.size)(b:Nat)(z:ByteArray)(B:a.eval x= .slice (U ⟨b,0,V⟩) 1 1)(m:w.heap[b]?=U (.cells #[.string z] 9 (0,0)))(H:n<=50000000)
  (h:∀g d w1,w1.ownsRow base 9 1 (.slice (U ⟨g,0,V⟩) (n+1) d) (n+1) ((l++[z]).map A9)->w.grownBy w1 (Ck c n f).ownBlock->((Ck c n f).ownBlock=U g\/g=w.heap.size)->wpList Ax ops Q j (a.put o.dst (.slice (U ⟨g,0,V⟩) (n+1) d)) w1):wpList Ax ops Q (o::j) a w:=by
 obtain⟨G,t,C,E,F⟩:=eD KI;refine C2 _ r s x 59 u base 9 G _ 1 16 Tryz.underlying59 t C E F rfl (by decide) _ _ _ y v ⟨b,0,V⟩ 1 1 [.string z] B rfl (B6 (cs:=#[.string z]) m) (by intro J A;rw[List.mem_singleton.1 A];rfl) (by unfold F2;omega) (by omega) p ?_;intro K w1 i q _ k;obtain⟨g,d,rfl⟩:=ownsRow_succ i;exact h g d w1 (by rw[dK];exact i) q (by rcases k with e|e;exact .inl e.symm;exact .inr (by simpa [B3] using e))
def aey(w:B2)(x:ByteArray):(w.alloc (B0 #[B5 x] 9)).ownsRow w.heap.size 9 1 (O (U ⟨w.heap.size,0,V⟩) 1 1) 1 [B5 x]:=by
 have:=uF (base:=w.heap.size) (e:=9) (size:=1) w #[B5 x] 1 (ag _) (by unfold F2;omega) (by simp);simpa using this
section
variable {E : Pe} {i j k k1 : Nat} {x y R Ex : Fo}
def ac3(a1:∀(args:Array A3) (w:B2),(callFunc f args).run Ax w= .ok (.enter f args) w)(ao:CN E f #[pV E] i x k)(C:Ls E (CN E f #[pV E]) m k R j):CR E 185 #[pV E,.func (.func f) #[pV E] #[]] i (x.app R) j:=by
 intro w B al;have y:=Sw.start B;have u:=C;have an:=al;rw[Fo.sz_app]at an;clear B C;go_in;go_wp21
 refine(xu y ao).mono ?_;rintro l w1 ⟨G,F,rfl,z⟩;obtain⟨a8,ak,a⟩:=KJ z [G0 G F] #[G0 G F] rfl 1 rfl (by decide);have r:=a;go_wp21
 clear ak y z a;go_loopg [5] m (λgk av wr=>∃(k:Nat) (D d:Fo) (g:Option Addr) (q h:Nat) (c:List A3),av= O g q h/\Br (Ls E (CN E f #[pV E]) gk k d j/\Sw E w wr k (O g q h) c D c [] []/\D.app d=x.app R))
 case atStart=>exact⟨k,x,R,_,1,1,_,rfl,u,r,rfl⟩
 case round=>
  clear r u;obtain⟨a4,D,d,g,q,h,c,rfl,t⟩:=hrel;obtain⟨af,p,b⟩:=t.out;have a:=p;have a2:=Cl.len _ _ p.nn;clear p t;cases af with
  |stop n o=>
   rw[Fo.app_nil]at b;go_wp21
   refine du (Bf a n o) λax e=>?_;go_wp21
   go_ret;exact⟨_,c,rfl,by rw[<-b];exact e⟩
  |@go ar _ ap _ H v n o ad A=>
   have a3:D.sz+(H.sz+v.sz)<=50000000:=by have l:=congrArg Fo.sz b;simp only[Fo.sz_app]at l;omega
   have a0:=D.len_le;have s:=gE b A;clear b A;go_wp21
   refine du (wF a n o) λax e=>?_;go_wp21
   refine(xu e ad).mono ?_;rintro l a9 ⟨a7,a6,rfl,J⟩;go_wp2_with (at_builtin;refine sAp J rfl (by omega) rfl _ _ rfl rfl rfl ?_;intro L au c5 w5 K);have I:=K;go_roundg ar
   case measure=>omega
   case rel=>exact⟨ap,D.app H,v,L,au,c5,_,rfl,s.2,I,by rw[Fo.app_app];exact s.1⟩
def ahF(hj:(E.tk j).k=43\/(E.tk j).k=6)(z:Ss E (CN E 67 #[pV E]) m i R j):CR E 34 #[pV E] i R j:=by
 intro ak y ap;have s:=Sw.start y;have u:=z;clear y z;go_in;go_wp21
 go_loopg [3] m (λgk af wr=>∃(k:Nat) (D f:Fo) (g:Option Addr) (l h:Nat) (e:List A3),af= O g l h/\Br (Ss E (CN E 67 #[pV E]) gk k f j/\Sw E ak wr k (O g l h) e D e [] []/\D.app f=R))
 case atStart=>exact⟨i,.nil,R,V,0,0,[],rfl,u,s,rfl⟩
 case round=>
  clear s u;obtain⟨L,D,f,g,l,h,e,rfl,t⟩:=hrel;obtain⟨J,q,a⟩:=t.out;have n:=q;have ar:=Cl.len _ _ q.nn;clear q t;cases J with
  |stop x=>
   rw[Fo.app_nil]at a;rcases hj with hj|hj;all_goals
    go_wp21
    refine du (oE n hj) λA c=>?_;go_wp21
    go_ret;exact⟨_,e,rfl,by rw[<-a];exact c⟩
  |@sep r _ _ _ p x d=>
   have b:=gE a d;clear a d;go_wp21
   refine du (oE n p) λA c=>?_;go_wp21
   refine du (ll c p (by omega)) λal o=>?_;go_wp21
   go_roundg r
   case measure=>omega
   case rel=>exact⟨L+1,D,f,g,l,h,e,rfl,b.2,o,b.1⟩
  |@go r _ K _ B v p x an H I d=>
   have au:D.sz+(B.sz+v.sz)<=50000000:=by have w:=congrArg Fo.sz a;simp only[Fo.sz_app]at w;omega
   have ao:=D.len_le;have b:=gE a d;clear a d;go_wp21
   refine du (oE n rfl H) λA c=>?_;go_wp21
   refine(xu c I).mono ?_;rintro w al ⟨ax,av,rfl,o⟩;go_wp2_with (at_builtin;refine sAp o rfl (by omega) rfl _ _ rfl rfl rfl ?_;intro G ad c5 w5 F);have C:=F;go_roundg r
   case measure=>omega
   case rel=>exact⟨K,D.app B,v,G,ad,c5,_,rfl,b.2,C,by rw[Fo.app_app];exact b.1⟩
def akj(b c d e f a:A3)(w:B2):(Instr.field 46 (G3 #[b,c,d,e,f,a]) 5).run Ax w= .ok a w:=by kernel_rfl
def CT(E:Pe)(i:Nat)(ns:List ByteArray)(j:Nat):Prop:=
 ∀w,Pp E w i->B1 Ax 183 #[pV E] w λa w'=>∃v,a= A5 v/\(Pp E w' j/\w.grownBy w' (U E.pb))/\w'.ownsRow w.heap.size 9 1 v (ns.map A9).length (ns.map A9)
def Sw.putN{j:B2}{v r:A3}{m:List ByteArray}(h:Sw E W w i s0 [] .nil [] T [(v,ns)])(o:j.ownsRow W.heap.size 9 1 r (m.map A9).length (m.map A9))(g:w.grownBy j v.ownBlock):Sw E W j i s0 [] .nil [] T [(r,m)]:=by
 have n:=h.nm (v,ns) (bg ..);have l:∀{f:Nat}{d:Array A3}{p:B7}{e:Nat×Nat},w.heap[f]?=U (B0 d p e)->p≠9->j.heap[f]?=U (B0 d p e):=λb t=>(g.block _ (aj b) (λk=>gq n b t k.symm)).trans b;obtain⟨d,e,u,x⟩:=h.pp.tks;obtain⟨z,s,q⟩:=h.pp.pw;have y:=(g.block _ (aj q) (λk=>by have:=(n.lt _ k.symm).1;have:=h.lt;have:=h.pp.pg;omega)).trans q;refine⟨⟨h.pp.hn,⟨d,e,l u (by decide),x⟩,l h.pp.row (by decide),h.pp.pg,z,s,y⟩,h.gr.andThen g (λf b=> .inl (n.lt f b).1),h.lt,eI _ _ _ _,⟨[],⟨rfl,rfl⟩,by simp[mB,It]⟩,λc a=>⟨(h.tb c a).1,(h.tb c a).2.1,l (h.tb c a).2.2 (h.tb c a).2.1.2⟩,λc a=>?_⟩;obtain rfl:=List.mem_singleton.1 a;exact o
def ap1{D:Fo}{b:List (A3×List ByteArray)}(S:Br (Sw E W w i kv kn D vs T b))(C:CT E i ns j):B1 Ax 183 #[pV E] w λe w'=>∃a n c,e= A5 (O a n c)/\Br (Sw E W w' j kv kn D vs T ((O a n c,ns)::b)):=by
 refine(C w S.pp).mono ?_;rintro e w' ⟨h,f,g,d⟩;obtain⟨a,c,rfl⟩:=bJ d;exact⟨a,_,c,f,S.name g d⟩
def xw(ap:(E.tk i).k=1)(a1:i<E.n)(H:GG E.tk E.n (i+1) ns j):CT E i ((E.tk i).x::ns) j:=by
 intro e s;have y:=Sw.start s;have w:=H;have a2:=s.hn;have a0:=akj;clear s H;go_in;go_wp21
 refine du (ll y ap (by omega)) λw1 o=>?_;simp only[pH];go_wp21
 have q:=dE w1 (B0 #[B5 (E.tk i).x] 9);have u:Br (Sw E e (w1.alloc (B0 #[B5 (E.tk i).x] 9)) (i+1) s0 [] .nil [] [] [(O (U ⟨w1.heap.size,0,V⟩) 1 1,[(E.tk i).x])]):=o.name ⟨o.pp.keep (rl q _),rl q _⟩ (aey w1 (E.tk i).x);clear y o q;go_loopg [3] ns.length (λgk au wr=>∃(k:Nat) (D l:List ByteArray) (b:Option Addr) (n c:Nat),au= O b n c/\gk=l.length/\D.length=n/\Br (GG E.tk E.n k l j/\Sw E e wr k s0 [] .nil [] [] [(O b n c,D)]/\D++l=(E.tk i).x::ns/\i+2*D.length=k+1))
 case atStart=>exact⟨i+1,[(E.tk i).x],ns,_,1,1,rfl,rfl,rfl,w,u,rfl,by simp⟩
 case round=>
  clear u w;obtain⟨d,D,l,b,n,c,rfl,ao,h,v⟩:=hrel;obtain⟨ak,F,g,al⟩:=v.out;have z:=F;clear F v;cases ak with
  |stop r B=>
   rw[dr]at g;go_wp21
   refine du (Bf z r B) λax a=>?_;go_wp21
   go_ret;exact⟨_,rfl,⟨a.pp,a.gr⟩,by rw[<-g];exact a.nm _ (bg ..)⟩
  |@go _ _ I r B ad C=>
   have ar:n<=50000000:=by omega
   have m:=kJ g C al;clear g C;go_wp21
   refine du (wF z r) λax a=>?_;go_wp21
   refine du (ll a ad (by omega)) λf p=>?_;simp only[pH];have t:=p.nm _ (bg ..);rw[bi,h]at t;have K:Br (f.ownsRow e.heap.size 9 1 (O b n c) n (D.map A9)):=t;clear t;go_wp2_with (at_builtin;refine abc rfl _ _ rfl e.heap.size b n c D rfl h (cJ K (dE f _)) (by rw[de];have:=p.gr.size;omega) f.heap.size (E.tk (d+1)).x rfl (aB f _) ar ?_;intro af A w5 J G an;have L:Br (Sw E e w5 (d+1+1) s0 [] .nil [] [] [(O (U ⟨af,0,V⟩) (n+1) A,D++[(E.tk (d+1)).x])]):=(sB p (dE f _)).out.putN (by rw[bi,aJ,h];exact J) G;clear J G an);go_roundg I.length
   case measure=>rw[ao];simp
   case rel=>exact⟨d+2,D++[(E.tk (d+1)).x],I,_,n+1,A,rfl,rfl,by rw[aJ,h];rfl,m.2.1,L,by rw[cg];exact m.1,by have:=m.2.2;rw[aJ,Bi];omega⟩
end
def cfE(args:Array A3)(w:B2):(callFunc 122 args).run Ax w= .ok (.enter 122 args) w:=by kernel_rfl
def cfB(args:Array A3)(w:B2):(callFunc 123 args).run Ax w= .ok (.enter 123 args) w:=by kernel_rfl
def ap2(g:i<E.n)(f:decide ((E.tk i).k=5\/(E.tk i).k=6\/(E.tk i).k=43)=r){D:Fo}{a:List (A3×List ByteArray)}(S:Br (Sw E W w i kv kn D vs T a)):B1 Ax 188 #[pV E] w λe w'=>e= A5 (G2 r)/\Br (Sw E W w' i kv kn D vs T a):=by
 subst f;by_cases b:(E.tk i).k=5<;>by_cases c:(E.tk i).k=6<;>by_cases d:(E.tk i).k=43;all_goals
  try omega
 all_goals
  try have h:=beq_eq_false_iff_ne.2 b
  try have j:=beq_eq_false_iff_ne.2 c
  try have l:=beq_eq_false_iff_ne.2 d
  go_in
  repeat (go_wp2_with fail;go_at_call 65;first|refine du (oE S (by assumption)) λw S=>?_|refine du (oE S rfl) λw S=>?_)
  go_wp2_with fail;go_ret;simp only[b,c,d];exact⟨rfl,S⟩
section
variable (E : Pe)
abbrev cE(i:Nat)(x:Fo)(j:Nat):=CN E 122 #[pV E] i x j
abbrev cK(i:Nat)(x:Fo)(j:Nat):=CN E 124 #[pV E] i x j
abbrev cL(f:FuncId)(i:Nat)(x:Fo)(j:Nat):=CR E 185 #[pV E,.func (.func f) #[pV E] #[]] i x j
inductive Wi (i:Nat):FuncId->Array Value->Fo->Nat->Prop
 |leaf {k nk:Int}:nk=11\/nk=12\/nk=20\/nk=21\/nk=22\/nk=27->k≠6->(E.tk i).k=k->i+1<E.n->Wi i 118 #[pV E,.int .i64 nk] (one (jm nk (E.tk i) (E.tk i).t) .nil) (i+1)
 |wthE {x:Fo}{j:Nat}:(E.tk i).k=28->i<E.n->cE E (i+1) x j->1<=j->j<=E.n->Wi i 121 #[pV E,.int .i64 15,.func (.func 122) #[pV E] #[]] (one (jm 15 (E.tk i) (E.tk (j-1)).t) x) j
 |wthB {x:Fo}{j:Nat}:(E.tk i).k=14->i<E.n->CN E 123 #[pV E] (i+1) x j->1<=j->j<=E.n->Wi i 121 #[pV E,.int .i64 16,.func (.func 123) #[pV E] #[]] (one (jm 16 (E.tk i) (E.tk (j-1)).t) x) j
 |whl {x y:Fo}{k j:Nat}:(E.tk i).k=31->i<E.n->cE E (i+1) x k->cK E k y j->1<=j->j<=E.n->Wi i 116 #[pV E] (one (jm 8 (E.tk i) (E.tk (j-1)).t) (x.app y)) j
 |blk {x:Fo}{k:Nat}:(E.tk i).k=42->i<E.n->CR E 34 #[pV E] (i+1) x k->(E.tk k).k=43->k+1<E.n->Wi i 124 #[pV E] (one (jm 1 (E.tk i) (E.tk k).t) x) (k+1)
 |let0 {ns:List ByteArray}{k:Nat}:(E.tk i).k=22->i<E.n->CT E (i+1) ns k->1<=k->k<E.n->(E.tk k).k≠47->Wi i 112 #[pV E] (one (nd 2 (E.tk i) (E.tk (k-1)).t 0 0 z0 ns) .nil) k
 |let1 {ns:List ByteArray}{k j:Nat}{x:Fo}:(E.tk i).k=22->i<E.n->CT E (i+1) ns k->k<E.n->(E.tk k).k=47->cL E 122 (k+1) x j->1<=j->j<=E.n->Wi i 112 #[pV E] (one (nd 2 (E.tk i) (E.tk (j-1)).t 0 0 z0 ns) x) j
 |con {ns:List ByteArray}{k j:Nat}{x:Fo}:(E.tk i).k=13->i<E.n->CT E (i+1) ns k->k<E.n->(E.tk k).k=47->cE E (k+1) x j->1<=j->j<=E.n->Wi i 113 #[pV E] (one (nd 3 (E.tk i) (E.tk (j-1)).t 0 0 z0 ns) x) j
 |fn {ns:List ByteArray}{k j:Nat}{x:Fo}:(E.tk i).k=18->i<E.n->CT E (i+1) ns k->k<E.n->(E.tk k).k=40->CN E 187 #[pV E,.agg (pH 40 (E.tk k))] k x j->1<=j->j<=E.n->Wi i 114 #[pV E] (one (nd 4 (E.tk i) (E.tk (j-1)).t 0 0 z0 ns) x) j
 |ret0:(E.tk i).k=27->i+1<E.n->decide ((E.tk (i+1)).k=5\/(E.tk (i+1)).k=6\/(E.tk (i+1)).k=43)=true->Wi i 119 #[pV E] (one (jm 13 (E.tk i) (E.tk i).t) .nil) (i+1)
 |ret1 {x:Fo}{j:Nat}:(E.tk i).k=27->i+1<E.n->decide ((E.tk (i+1)).k=5\/(E.tk (i+1)).k=6\/(E.tk (i+1)).k=43)=false->cL E 122 (i+1) x j->1<=j->j<=E.n->Wi i 119 #[pV E] (one (jm 13 (E.tk i) (E.tk (j-1)).t) x) j
 |try_ {ns:List ByteArray}{x y:Fo}{k k1 j:Nat}:(E.tk i).k=30->i<E.n->cK E (i+1) x k->(E.tk k).k=12->k<E.n->CT E (k+1) ns k1->cK E k1 y j->1<=j->j<=E.n->Wi i 120 #[pV E] (one (nd 14 (E.tk i) (E.tk (j-1)).t 0 0 z0 ns) (x.app y)) j
 |for_ {nk q:Int}{ns:List ByteArray}{x y:Fo}{k k1 j:Nat}:(nk=9/\q=47)\/(nk=10/\q=21)->(E.tk i).k=19->i<E.n->CT E (i+1) ns k->k<E.n->(E.tk k).k=q->cL E 122 (k+1) x k1->cK E k1 y j->1<=j->j<=E.n->Wi i 117 #[pV E] (one (nd nk (E.tk i) (E.tk (j-1)).t 0 0 z0 ns) (x.app y)) j
 |if0 {q:Int}{x y:Fo}{k k1:Nat}:q=20\/q=15->(E.tk i).k=q->i<E.n->cE E (i+1) x k->cK E k y k1->1<=k1->k1<E.n->(E.tk k1).k≠15->(E.tk k1).k≠16->Wi i 115 #[pV E] (one (jm 7 (E.tk i) (E.tk (k1-1)).t) (x.app y)) k1
 |if1 {q:Int}{x y z:Fo}{k k1 j:Nat}:q=20\/q=15->(E.tk i).k=q->i<E.n->cE E (i+1) x k->cK E k y k1->k1<E.n->(E.tk k1).k=15->CN E 115 #[pV E] k1 z j->1<=j->j<=E.n->Wi i 115 #[pV E] (one (jm 7 (E.tk i) (E.tk (j-1)).t) ((x.app y).app z)) j
 |if2 {q:Int}{x y z:Fo}{k k1 j:Nat}:q=20\/q=15->(E.tk i).k=q->i<E.n->cE E (i+1) x k->cK E k y k1->k1<E.n->(E.tk k1).k=16->cK E (k1+1) z j->1<=j->j<=E.n->Wi i 115 #[pV E] (one (jm 7 (E.tk i) (E.tk (j-1)).t) ((x.app y).app z)) j
 |do_ {q:Int}{x:Fo}{j:Nat}:q=1\/q=40->(E.tk i).k=q->i<E.n->cL E 123 i x j->(E.tk j).k≠47->j<E.n->1<=j->Wi i 125 #[pV E] (one (jm 6 (E.tk i) (E.tk (j-1)).t) x) j
 |pre {q op:Int}{x:Fo}{j:Nat}:q≠6->(E.tk i).k=q->i<E.n->CN E 224 #[pV E] (i+1) x j->1<=j->j<=E.n->Wi i 247 #[pV E,.int .i64 op] (one (nd 30 (E.tk i) (E.tk (j-1)).t op 0 z0 []) x) j
 |expr {x:Fo}{j:Nat}:CN E 189 #[pV E,.int .i64 0] i x j->Wi i 122 #[pV E] x j
 |ufn {x:Fo}{j:Nat}:(E.tk i).k=18->i<E.n->CN E 187 #[pV E,.agg (pH 18 (E.tk i))] (i+1) x j->Wi i 224 #[pV E] x j
 |item {q:Int}{x:Fo}{j:Nat}:q≠48->q≠44->q≠6->(E.tk i).k=q->i<E.n->cE E i x j->1<=j->j<=E.n->Wi i 265 #[pV E] (one (jm 40 (E.tk i) (E.tk (j-1)).t) x) j
 |pair {x y:Fo}{k j:Nat}:(E.tk i).k=44->i<E.n->cE E (i+1) x k->(E.tk k).k=45->(E.tk (k+1)).k=47->k+1<E.n->cE E (k+2) y j->1<=j->j<=E.n->Wi i 265 #[pV E] (one (jm 41 (E.tk i) (E.tk (j-1)).t) (x.app y)) j
 |named {x:Fo}{j:Nat}:(E.tk i).k=48->(E.tk (i+1)).k=1->(E.tk (i+2)).k=47->i+2<E.n->cE E (i+3) x j->1<=j->j<=E.n->Wi i 265 #[pV E] (one (nd 42 (E.tk i) (E.tk (j-1)).t 0 0 (E.tk (i+1)).x []) x) j
end
def iD(h:Wi E i f args X j):CN E f args i X j:=by
 cases h
 case' leaf h _ _ _=>rcases h with rfl|rfl|rfl|rfl|rfl|rfl
 case' for_ h _ _ _ _ _ _ _ _ _=>rcases h with⟨rfl,rfl⟩|⟨rfl,rfl⟩
 case' if0 h _ _ _ _ _ _ _ _=>rcases h with rfl|rfl
 case' if1 h _ _ _ _ _ _ _ _ _=>rcases h with rfl|rfl
 case' if2 h _ _ _ _ _ _ _ _ _=>rcases h with rfl|rfl
 case' do_ h _ _ _ _ _ _=>rcases h with rfl|rfl
 case' item h1 h2 _ _ _ _ _ _=>have u:=beq_eq_false_iff_ne.2 h1;have v:=beq_eq_false_iff_ne.2 h2
 all_goals
  intro b h l;have a:=Sw.start h;clear h;have p:=aph;have q:=akj;have n:=cfE;have o:=cfB;try simp only[di,Fo.sz_app,Fo.sz]at l
  try have t:=beq_eq_false_iff_ne.2 (by assumption:(E.tk _).k≠15)
  go_in
  repeat' (go_wp2_with (at_builtin;refine sAp a rfl (by have:=sLn a;simp only[Fo.sz_app,Fo.sz,aJ,bm,ej]at this⊢;omega) rfl _ _ rfl rfl rfl ?_;intro c g d b a;have m:=sRd a);(first
   |(go_at_call 65;first|refine du (oE (by first|exact a|exact sLt a) (by assumption)) λb a=>?_|refine du (oE (by first|exact a|exact sLt a) rfl) λb a=>?_)
   |(go_at_call 66;refine du (ll (by first|exact a|exact sBx a) (by assumption) (by omega) (by first|assumption|decide)) λb a=>?_)
   |(go_at_call 35;refine du (Ef a (by assumption) (by omega) (by first|assumption|decide)) λb a=>?_)
   |(go_at_call 184;first|refine du (wF a (by assumption)) λb a=>?_|refine du (Bf a (by assumption)) λb a=>?_)
   |(go_at_call 188;refine du (ap2 (by omega) (by assumption) (by first|exact a|exact sBx a)) λb a=>?_)
   |(go_at_call 183;refine(ap1 (by first|exact a|exact sBx a) (by assumption)).mono ?_;rintro e b ⟨c,g,d,rfl,a⟩)
   |(go_at_call 186;refine du (rL (by first|exact a|exact sLt a) (by assumption) (by omega) (by omega) _ _ _ _) λb a=>?_)
   |((first|go_at_call 185|go_at_call 34);refine(ac2 (by first|exact a|exact sBx a) (by assumption)).mono ?_;rintro e b ⟨c,g,d,x,rfl,a,r⟩)
   |(refine(xu (by first|exact a|exact sBx a) (by assumption)).mono ?_;rintro e b ⟨w,s,rfl,a⟩));(try have m:=sRd a))
  all_goals
   go_wp2_with fail;go_ret;first
    |exact⟨_,rfl,a⟩
    |exact⟨_,rfl,aq7 _ (by exact a) (by rfl) (by rfl) (by rfl)⟩
    |exact⟨_,rfl,KL a _ (by rfl) (by rfl) (by rfl) (by rfl)⟩
section
variable {E : Pe} {i j k k1 : Nat} {x y R Ex : Fo}
def ahG{D:Fo}{d:List (A3×List ByteArray)}(S:Br (Sw E W w i kv kn D vs T d))(C:CR E f args i R j)(h:R.sz<=50000000):B1 Ax f args w λe w'=>∃a n c us,e= A5 (O a n c)/\Br (Sw E W w' j kv kn (D.app R) (vs++us) T d)/\Br (w'.ownsRow w.heap.size 52 1 (O a n c) us.length us/\(∀u∈us,u.oneCell'=Ce)/\us.length=R.len):=by
 refine(C w S.pp h).mono ?_;rintro e w' ⟨k,us,g,b⟩;obtain⟨a,c,rfl⟩:=bJ b.ro;exact⟨a,_,c,us,g,S.sub b,b.ro,Cl.cell _ _ b.nn,Cl.len _ _ b.nn⟩
def setP{q:Int}(C:q=1\/q=40)(e:(E.tk i).k=q)(F:i<E.n)(s:cL E 123 i x k)(g:(E.tk k).k=47)(I:k<E.n)(h:cL E 122 (k+1) Ex j)(G:k+1<=j)(H:j<=E.n):CN E 125 #[pV E] i (one (nd 5 (E.tk i) (E.tk (j-1)).t 0 (x.len:Nat) z0 []) (x.app Ex)) j:=by
 intro b d o;have a:=Sw.start d;clear d;simp only[di,Fo.sz_app]at o;go_in;go_wp21
 refine du (Ef a e (by omega) (by omega)) λb a=>?_;go_wp21
 refine(ac2 (sBx a) s).mono ?_;rintro f b ⟨y,L,B,v,rfl,a,rfl⟩;have p:v.length=x.len:=Cl.len _ _ a.nn;rw[p]at a⊢;have K:=x.len_le;have J:=Ex.len_le;go_wp21
 refine du (wF a g) λb a=>?_;go_wp21
 refine(ahG a h (by omega)).mono ?_;rintro f b ⟨z,ad,c5,af,rfl,a,c⟩;go_wp2_with (at_builtin;refine ti rfl _ _ rfl rfl a.ro rfl c.1 c.2.1 (by have:=c.2.2;omega) (by have:=a.gr.size;omega) ?_;intro w n A b u r m l;clear r;have a:=aq (a.out.put u m l);have ak:=sRd a);refine du (rL a e (by omega) (by omega) _ _ _ _) λb a=>?_;go_wp21
 go_ret;exact⟨_,rfl,KL a _ (by rfl) (by rfl) (by rfl) (by rfl)⟩
end
inductive Dp (E:Pe):Int->FuncId->FuncId->Array Value->Prop
 |s22:Dp E 22 67 112 #[pV E]
 |s13:Dp E 13 67 113 #[pV E]
 |s18:Dp E 18 67 114 #[pV E]
 |s20:Dp E 20 67 115 #[pV E]
 |s31:Dp E 31 67 116 #[pV E]
 |s19:Dp E 19 67 117 #[pV E]
 |s11:Dp E 11 67 118 #[pV E,.int .i64 11]
 |s23:Dp E 23 67 118 #[pV E,.int .i64 12]
 |s27:Dp E 27 67 119 #[pV E]
 |s30:Dp E 30 67 120 #[pV E]
 |s28:Dp E 28 67 121 #[pV E,.int .i64 15,.func (.func 122) #[pV E] #[]]
 |s14:Dp E 14 67 121 #[pV E,.int .i64 16,.func (.func 123) #[pV E] #[]]
 |s42:Dp E 42 67 124 #[pV E]
 |s1:Dp E 1 67 125 #[pV E]
 |s40:Dp E 40 67 125 #[pV E]
 |u25:Dp E 25 224 247 #[pV E,.int .i64 21]
 |u62:Dp E 62 224 247 #[pV E,.int .i64 19]
 |u50:Dp E 50 224 247 #[pV E,.int .i64 22]
 |u69:Dp E 69 224 247 #[pV E,.int .i64 20]
 |u3:Dp E 3 224 191 #[pV E,.int .i64 24]
 |u4:Dp E 4 224 191 #[pV E,.int .i64 25]
 |u24:Dp E 24 224 118 #[pV E,.int .i64 20]
 |u29:Dp E 29 224 118 #[pV E,.int .i64 21]
 |u17:Dp E 17 224 118 #[pV E,.int .i64 22]
 |u49:Dp E 49 224 118 #[pV E,.int .i64 27]
 |u42:Dp E 42 224 248 #[pV E]
 |u1:Dp E 1 224 123 #[pV E]
 |u40:Dp E 40 224 123 #[pV E]
def wm{q:Int}{g:FuncId}(h:Dp E q g f args)(c:(E.tk i).k=q)(m:i<E.n)(e:CN E f args i R j):CN E g #[pV E] i R j:=by
 cases h;all_goals
  intro b h d;have a:=Sw.start h;clear h;go_in;go_wp2_with fail;refine du (oE a c) λb a=>?_;go_wp2_with fail;refine(xu a e d).mono ?_;rintro l b ⟨p,o,rfl,a⟩;go_wp2_with fail;go_ret;exact⟨_,rfl,a⟩
def ap3(k:Int)(a:gx k=Ce)(d:k<=78)(w:B2):B1 Ax 209 #[A2 A0 k] w λe w'=>e= A5 (F1 #[A2 A0 (As k),A2 A0 (Jh k)])/\w'=w:=by
 have b:=aE a;have c:k=10\/k=26\/k=61\/k=62\/k=63\/k=64\/k=65\/k=66\/k=67\/k=68\/k=69\/k=70\/k=71\/k=72\/k=73\/k=74\/k=75\/k=76\/k=77\/k=78:=by omega
 clear b a d;rcases c with rfl|rfl|rfl|rfl|rfl|rfl|rfl|rfl|rfl|rfl|rfl|rfl|rfl|rfl|rfl|rfl|rfl|rfl|rfl|rfl;all_goals
  go_in;go_wp2;first
   |(go_ret;exact⟨rfl,rfl⟩)
   |(go_ret2;exact⟨rfl,rfl⟩)
def anB{t:Int}{b:Bool}(h:gx t=b)(w:B2):B1 Ax 207 #[A2 A0 t] w λe w'=>e= A5 (G2 b)/\w'=w:=h ▸ Au w t
inductive Ms (E:Pe) (C:Int->Nat->Fo->Nat->Prop) (p:Int) (s:Tk):Nat->Fo->Nat->Fo->Nat->Prop where
 |stop {x:Fo}{k:Nat}:k<E.n->(gx (E.tk k).k=true->As (E.tk k).k<p)->Ms E C p s 0 x k x k
 |go {m k k1 j:Nat}{x y R:Fo}:k<E.n->gx (E.tk k).k=true->p<=As (E.tk k).k->C (Jh (E.tk k).k) (k+1) y k1->k+1<=k1->k1<=E.n->Ms E C p s m (one (ue (E.tk k).k s (E.tk (k1-1)).t) (x.app y)) k1 R j->Ms E C p s (m+1) x k R j
def Ms.le{C:Int->Nat->Fo->Nat->Prop}{p:Int}{s:Tk}{x:Fo}(h:Ms E C p s m x k R j):x.sz<=R.sz:=by
 induction h with
 |stop=>exact ag _
 |go _ _ _ _ _ _ _ a=>rw[di,Fo.sz_app]at a;omega
def ap4{o:Obj}(k j:Nat)(h:k<W.heap.size):(W.alloc o).cell? ⟨k,j,V⟩=W.cell? ⟨k,j,V⟩:=World.cell?_alloc_past _ _ _ h
section
variable {E : Pe} {i j : Nat}
def anC{p:Int}{x:Fo}(al:(E.tk i).k≠6)(ao:i<E.n)(r:∀q,(E.tk q).k<=78)(a0:CU E i x k)(s:Ms E (CX E) p (E.tk i) m x k R j):CX E p i R j:=by
 intro f H K F ba;have a:=aq F;have ad:=a.cells;have t:=a.tkw ao al;unfold TkW at t;have bd:=a.lo;have J:=aq s;have bh:=s.le;clear F s;have ar:(i:Int)<(E.n:Int):=by omega
 have ap:(0:Int)<=(i:Int):=by omega
 have ax:IntKind.i64.wrap (i:Int)=(i:Int):=by rw[dt];omega
 go_in;go_wp2_with fail;go_region_held3 (λa3=>∀k j,k<f.heap.size->a3.cell? ⟨k,j,V⟩=f.cell? ⟨k,j,V⟩) (first|exact ap4|exact λ_ _ _=>rfl) (fail)
 replace a:=Sq.below (Sq.box (cs:=pH (E.tk i).k (E.tk i)) (t:=46) a) (bH (ai _ _));generalize World.drew _=d at a⊢;clear ad t ar ap ax;go_wp2_with fail;refine Sq.cq a a0 (by omega) ?_;rintro d _ z _ _ ⟨g,rfl,rfl,rfl⟩ a;go_wp2_with fail;go_loopg [6] m (λgk a2 wr=>∃(k:Nat) (l:Fo) (v:Int) (L:List Mb),a2= A2 A0 v/\Br (Ms E (CX E) p (E.tk i) gk l k R j/\Sq E f H K wr k L l [v] [(f.heap.size,46,pH (E.tk i).k (E.tk i))] []))
 case atStart=>exact⟨k,_,g,_,rfl,J,a⟩
 case round=>
  clear a;obtain⟨b,l,v,a4,rfl,w⟩:=hrel;obtain⟨ak,a⟩:=w.out;clear w;cases ak with
  |stop B C=>
   cases c:gx (E.tk j).k with
   |false=>
    go_wp2_with fail;refine du (Sq.kind a rfl) λd a=>?_;go_wp2_with fail;refine ft (anB c _) ?_;go_wp2_with fail;go_ret;exact⟨_,_,_,_,rfl,⟨_,rfl,rfl,rfl⟩,Sq.fin a⟩
   |true=>
    have bf:=C c;go_wp2_with fail;refine du (Sq.kind a rfl) λd a=>?_;go_wp2_with fail;refine ft (anB c _) ?_;go_wp2_with fail;refine du (Sq.kind a rfl) λd a=>?_;go_wp2_with fail;refine ft (ap3 _ c (r _) _) ?_;go_wp2_with fail;go_ret;exact⟨_,_,_,_,rfl,⟨_,rfl,rfl,rfl⟩,Sq.fin a⟩
  |@go a1 _ e _ _ bk a5 B c C af a8 a9 o=>
   have I:=aq o;have av:=o.le;rw[di,Fo.sz_app]at av;have bb:¬As (E.tk b).k<p:=by omega
   have an:(E.tk b).k≠6:=λA=>by rw[A]at c;revert c;decide
   have bj:IntKind.i64.wrap ((E.tk b).k-60)=(E.tk b).k-60:=by rw[dt];have:=r b;have:(E.tk b).k=10\/(E.tk b).k=26\/60<(E.tk b).k:=aE c;omega
   clear o;go_wp2_with fail;refine du (Sq.kind a rfl) λd a=>?_;go_wp2_with fail;refine ft (anB c _) ?_;go_wp2_with fail;refine du (Sq.kind a rfl) λd a=>?_;go_wp2_with fail;refine ft (ap3 _ c (r _) _) ?_;go_wp2_with fail;refine du (Sq.take a rfl B an) λd a=>?_;go_wp2_with fail;refine Sq.cq (Sq.box a) af (by have:=Sq.ln a;omega) ?_;rintro d _ z _ _ ⟨g,rfl,rfl,rfl⟩ a;have u:=Sq.rd a;have bl:=Sq.rd (Sq.tail a);have au:=Sq.ln a;rw[Fo.sz_app]at au;go_wp2_with fail;refine du (Sq.node a) λd a=>?_;have u:=Sq.rd a;have y:Br (((E.tk b).k=10\/(E.tk b).k=26)\/((E.tk b).k≠10/\(E.tk b).k≠26)):=by show _\/_;omega
   rcases y.out with(hK|hK)|⟨hK,G⟩
   case' inl.inl=>rw[hK]at u;have h:=aq (show ue (E.tk b).k (E.tk i) (E.tk (e-1)).t=jm 28 (E.tk i) (E.tk (e-1)).t by rw[hK];rfl)
   case' inl.inr=>rw[hK]at u;have h:=aq (show ue (E.tk b).k (E.tk i) (E.tk (e-1)).t=jm 29 (E.tk i) (E.tk (e-1)).t by rw[hK];rfl)
   case' inr=>have a6:=beq_eq_false_iff_ne.2 hK;have a7:=beq_eq_false_iff_ne.2 G;have h:=aq (show ue (E.tk b).k (E.tk i) (E.tk (e-1)).t=nd 31 (E.tk i) (E.tk (e-1)).t ((E.tk b).k-60) 0 z0 [] by unfold ue;rw[aa hK,aa G])
   all_goals
    clear hK y;go_wp2_with fail;refine(Sq.add (Sq.lit1 (Sq.box a)) (.inl ⟨rfl,rfl⟩) (.inr (.head _)) (by omega)).mono ?_;rintro A d ⟨g,rfl,z,a⟩;go_wp2_with fail;go_roundg a1
    case measure=>omega
    case rel=>exact⟨e,_,g,_,rfl,I,by rw[h.out];exact Sq.tail (Sq.tail a)⟩
end
inductive K6 (E:Pe) (C D:Nat->Fo->Nat->Prop) (s:Tk):Nat->Fo->Nat->Fo->Nat->Prop where
 |stop {X:Fo}{k:Nat}:k<E.n->yi (E.tk k).k=false->K6 E C D s 0 X k X k
 |dot {m k j:Nat}{X R:Fo}:(E.tk k).k=48->(E.tk (k+1)).k=1->k+2<E.n->K6 E C D s m (one (nd 33 s (E.tk (k+1)).t 0 0 (E.tk (k+1)).x []) X) (k+2) R j->K6 E C D s (m+1) X k R j
 |sq {m k k1 j:Nat}{X Y R:Fo}:(E.tk k).k=44->k<E.n->C (k+1) Y k1->(E.tk k1).k=45->k1+1<E.n->K6 E C D s m (one (jm 32 s (E.tk k1).t) (X.app Y)) (k1+1) R j->K6 E C D s (m+1) X k R j
 |call0 {m k j:Nat}{X R:Fo}:(E.tk k).k=40->(E.tk (k+1)).k=41->k+2<E.n->K6 E C D s m (one (jm 34 s (E.tk (k+1)).t) X) (k+2) R j->K6 E C D s (m+1) X k R j
 |call {m k k1 j:Nat}{X Y R:Fo}:(E.tk k).k=40->k+1<E.n->(E.tk (k+1)).k≠41->D (k+1) Y k1->(E.tk k1).k=41->k1+1<E.n->K6 E C D s m (one (jm 34 s (E.tk k1).t) (X.app Y)) (k1+1) R j->K6 E C D s (m+1) X k R j
def K6.le{C D:Nat->Fo->Nat->Prop}{s:Tk}(h:K6 E C D s m X k R j):X.sz<=R.sz:=by
 induction h with
 |stop=>exact ag _
 |dot _ _ _ _ a=>rw[di]at a;omega
 |sq _ _ _ _ _ _ a=>rw[di,Fo.sz_app]at a;omega
 |call0 _ _ _ _ a=>rw[di]at a;omega
 |call _ _ _ _ _ _ _ a=>rw[di,Fo.sz_app]at a;omega
inductive Su (E:Pe) (i:Nat):Int->Fo->Nat->Prop
 |name:Su E i 1 (one (nd 26 (E.tk i) (E.tk i).t 0 0 (E.tk i).x []) .nil) (i+1)
 |held {N:Nd}{ks:Fo}{k:Nat}{q:Int}:CX E 0 (i+1) (one N ks) k->(E.tk k).k=41->i+1<=k->q=34\/q=27->N.k=q->Su E i 40 (one (jm 37 (E.tk i) (E.tk k).t) (one N ks)) (k+1)
 |par {N:Nd}{ks:Fo}{k:Nat}:CX E 0 (i+1) (one N ks) k->(E.tk k).k=41->i+1<=k->(N.k==34)=false->(N.k==27)=false->Su E i 40 (one N ks) (k+1)
section
variable {E : Pe} {W w : World} {G : Option Nat} {L L1 : List Mb} {i j : Nat} {D : Fo} {zs : List Int} {B : Bxs} {R : Rws}
def Sq.top{ks:Fo}{z:Int}(S:Br (Sq E W G L w i L1 (one N ks) [z] B R)):∃q g a:Nat,z=(q:Int)/\w.cell? ⟨E.pb,2,V⟩=U (O (U ⟨g,0,V⟩) L1.length a)/\w.cell? ⟨g,q*9,V⟩=U (A2 A0 N.k)/\q<L1.length:=by
 obtain⟨o,e,b⟩:=S.row;have l:=S.tp;have h:=S.ac.len;obtain⟨m,d,c,_⟩:=S.ac;have q:(L1.map Mb.N)[L.length+ks.sz]?=U {N with ks:=ks.tops L.length}:=by
  rw[d,dK,c,yh,gh (by rw[bi];omega),bi,Nat.add_sub_cancel_left,gh (by rw[Fo.flat_len];exact ag _),Fo.flat_len,fG];rfl
 rw[cH]at q;obtain⟨p,j,f⟩:=Option.map_eq_some_iff.1 q;rw[di]at h;rcases bB b with⟨n,rfl⟩|⟨g,a,rfl⟩
 .omega
 .exact⟨L.length+ks.sz,g,a,(kD l).1.symm,by rw[am _ _ _ _ _ _ e];rfl,by rw[(rB b j).1,f],by omega⟩
def ahH{a2:Int}{R:Fo}(a9:(E.tk i).k=a2)(bw:i<E.n)(au:Su E i a2 X k)(bx:k<E.n)(I:K6 E (CX E 0) (CLx E) (E.tk i) m X k R j):CB E i R j:=by
 intro an ad al A bA;have a:=aq A;have ak:=aq I;have y:=I.le;clear A I;cases au
 case' held A _=>rcases A with rfl|rfl
 all_goals
  simp only[di,Fo.sz]at y;go_in;go_wp2_with fail;refine du (Sq.take a a9) λa4 a=>?_;go_wp2_with fail;first
   |(go_at_call 148
     refine du (Sq.node (Sq.box a)) λb a=>?_;have e:=Sq.rd a;go_wp2_with fail;refine(Sq.add (Sq.box a) (.inl ⟨rfl,rfl⟩) (.inl ⟨rfl,rfl⟩) (by omega)).mono ?_;rintro v b ⟨p,rfl,f,a⟩;replace a:=Sq.tail a)
   |(refine Sq.cq (Sq.box a) (by assumption) (by rw[di];omega) ?_
     rintro b _ f _ _ ⟨p,rfl,rfl,rfl⟩ a;go_wp2_with fail;refine du (Sq.take a (by assumption)) λb a=>?_;have e:=Sq.rd a;have F:=a.cells;have s:=Sq.ln a;rw[show(Fo.nil.app (one _ _))=one _ _ from rfl,di]at s;obtain⟨q,w,z,rfl,bh,a3,b1⟩:=Sq.top a;have ba:(0:Int)<=(q:Int):=by omega
     have bb:(q:Int)<(f.length:Int):=by omega
     (try rw[(by assumption:Nd.k _=_)]at a3)
     go_wp2_with fail;try
      go_at_call 148
      refine du (Sq.node a) λb a=>?_;go_wp2_with fail;refine(Sq.add (Sq.lit1 (Sq.box a)) (.inl ⟨rfl,rfl⟩) (.inr (.head _)) (by omega)).mono ?_;rintro v b ⟨p,rfl,f,a⟩;replace a:=Sq.tail a
     clear F bh a3 e)
  (try go_wp2_with fail)
  go_loopg [3] m (λgk bj wr=>∃(k:Nat) (X:Fo) (r J:Int) (a6:List Mb),bj= A2 A0 r/\Br (K6 E (CX E 0) (CLx E) (E.tk i) gk X k R j/\Sq E an ad al wr k a6 X [r] [(a4.heap.size,46,pH J (E.tk i))] []))
  case atStart=>exact⟨_,_,_,_,_,rfl,ak,a⟩
  case round=>
   clear a ak;obtain⟨bf,ao,r,J,bl,rfl,af⟩:=hrel;obtain⟨ar,a⟩:=af.out;clear af;have e:=Sq.rd a;have s:=Sq.ln a;have bD:=ar.le;go_wp2_with fail;refine du (Sq.node a) λbk a=>?_;go_wp2_with fail;cases ar with
   |stop d h=>
    have au:=mj h;have bt:((E.tk j).k==48)=B4:=by simp;omega
    have bs:((E.tk j).k==44)=B4:=by simp;omega
    have bo:((E.tk j).k==40)=B4:=by simp;omega
    refine du (Sq.kind (Sq.lit1 (Sq.box a)) rfl) λb a=>?_;go_wp2_with fail;go_ret;exact⟨_,_,_,_,rfl,⟨_,rfl,rfl,rfl⟩,Sq.fin0 a⟩
   |@dot o _ _ _ _ d h x c=>
    have l:=aq c;clear c;refine du (Sq.kind (Sq.lit1 (Sq.box a)) d) λb a=>?_;go_wp2_with fail;refine du (Sq.take a d) λb a=>?_;go_wp2_with fail;refine du (Sq.take a h) λb a=>?_;have e:=Sq.rd a;go_wp2_with fail;refine(Sq.add (Sq.box (Sq.set a)) (.inl ⟨rfl,rfl⟩) (.inr (.head _)) (by omega)).mono ?_;rintro v b ⟨p,rfl,f,a⟩;replace a:=Sq.tail (Sq.tail a);go_wp2_with fail;go_roundg o
    case measure=>omega
    case rel=>exact⟨_,_,_,_,_,rfl,l,a⟩
   |@sq o _ a1 _ _ B _ d h x H ap c=>
    have l:=aq c;have y:=c.le;clear c;rw[di,Fo.sz_app]at y;refine du (Sq.kind (Sq.lit1 (Sq.box a)) d) λb a=>?_;go_wp2_with fail;refine du (Sq.take a d) λb a=>?_;go_wp2_with fail;refine Sq.cq a x (by omega) ?_;rintro b _ f _ _ ⟨p,rfl,rfl,rfl⟩ a;have s:=Sq.ln a;rw[Fo.sz_app]at s;go_wp2_with fail;refine du (Sq.take a H) λb a=>?_;have e:=Sq.rd a;go_wp2_with (at_builtin;refine Sq.apG tI (Sq.set a) (by simp) rfl rfl _ _ rfl rfl rfl (by simp[E2]) ?_;intro w z b a;have e:=Sq.rd a);refine(Sq.add (Sq.set a) (.inl ⟨rfl,rfl⟩) (.inr (.head _)) (by omega)).mono ?_;rintro v b ⟨p,rfl,f,a⟩;replace a:=Sq.tail a;go_wp2_with fail;go_roundg o
    case measure=>omega
    case rel=>exact⟨_,_,_,_,_,rfl,l,a⟩
   |@call0 o _ _ _ _ d h x c=>
    have l:=aq c;clear c;refine du (Sq.kind (Sq.lit1 (Sq.box a)) d) λb a=>?_;go_wp2_with fail;refine du (Sq.take a d) λb a=>?_;have e:=Sq.rd a;go_wp2_with fail;refine du (Sq.kind (Sq.set a) h) λb a=>?_;go_wp2_with fail;refine du (Sq.take a h) λb a=>?_;have e:=Sq.rd a;go_wp2_with fail;refine(Sq.add a (.inl ⟨rfl,rfl⟩) (.inr (.head _)) (by omega)).mono ?_;rintro v b ⟨p,rfl,f,a⟩;replace a:=Sq.tail a;go_wp2_with fail;go_roundg o
    case measure=>omega
    case rel=>exact⟨_,_,_,_,_,rfl,l,a⟩
   |@call o _ a1 _ _ B _ d h x H ap bv c=>
    have br:((E.tk (bf+1)).k !=41)=Ce:=by simp[x]
    have l:=aq c;have y:=c.le;clear c;rw[di,Fo.sz_app]at y;refine du (Sq.kind (Sq.lit1 (Sq.box a)) d) λb a=>?_;go_wp2_with fail;refine du (Sq.take a d) λb a=>?_;have e:=Sq.rd a;go_wp2_with fail;refine du (Sq.kind (Sq.set a) rfl) λb a=>?_;go_wp2_with fail;refine Sq.cq a H (by omega) ?_;rintro b _ f g _ ⟨a7,F,rfl,rfl⟩ a;have s:=Sq.ln a;rw[Fo.sz_app]at s;have a0:=congrArg List.length a.tp;have bd:=Fo.len_le (ao.app B);rw[Fo.tops_len,aJ]at a0;rw[Fo.sz_app]at bd;obtain⟨t,a8⟩:=aF g.length;rw[a8]at a a0⊢;go_wp2_with fail;go_loopw [95] (λK wr=>∃(q G:Nat) (C:Option Addr),q<=t/\K= A2 A0 q/\Br (Sq E an ad al wr a1 f (ao.app B) ([r]++g) [(bk.heap.size,62,ndA 34 0 0 ⟨#[]⟩ (E.tk i) s0 (O C (q+1) G)),(a4.heap.size,46,pH J (E.tk i))] [(3,O C (q+1) G,iv r::(g.take q).map iv),(3,O a7 t F,g.map iv)])) (λK _=>t-(F0 K).toNat)
    case atStart=>exact⟨0,1,_,aI _,rfl,Sq.swap a⟩
    case round=>
     clear a;obtain⟨q,G,C,b0,rfl,a⟩:=hrel;by_cases bE:q<t
     .obtain⟨L,ax⟩:∃L,g[q]?=U L:=⟨g[q]'(by omega),aA _⟩;obtain⟨w,rfl,bn⟩:=Sq.at2 a ax;have ba:(0:Int)<=(q:Int):=by omega
      have bb:(q:Int)<(t:Int):=by omega
      have e:=Sq.rd a;go_wp2_with (at_builtin;refine Sq.apG tI a (by omega) rfl rfl _ _ rfl rfl rfl rfl ?_;intro w z b a;have e:=Sq.rd a);have a5:Br (iv r::(g.take q).map iv++[Value.int A0 L]=iv r::(g.take (q+1)).map iv):=by show _=_;rw[ie,ax,dK];rfl
      replace a:=Sq.set (q:=8) (u:= O (U ⟨w,0,V⟩) (q+1+1) z) a;rw[a5.out]at a;exact⟨⟨q+1,z,U ⟨w,0,V⟩,by omega,by go_num,a⟩,by simp[F0];omega⟩
     .obtain rfl:q=t:=by omega
      rw[show g.take q=g from db (by omega)]at a;replace a:=Sq.less a (show List.Sublist [_] [_,_] from .cons_cons _ (.cons _ .slnil));go_wp2_with fail;refine du (Sq.take a ap) λb a=>?_;have e:=Sq.rd a;go_wp2_with fail;refine(Sq.add a (.inl ⟨rfl,rfl⟩) (.inr (.head _)) (by omega)).mono ?_;rintro v b ⟨p,rfl,f,a⟩;replace a:=Sq.tail a;go_wp2_with fail;go_roundg o
      case measure=>omega
      case rel=>exact⟨_,_,_,_,_,rfl,l,a⟩
end
inductive Pt (E:Pe):Nat->Nat->List ByteArray->Bool->Nat->Prop where
 |stop {k:Nat}:(E.tk k).k=41->k<E.n->Pt E 0 k [] false k
 |name {m k j:Nat}{ns:List ByteArray}{r:Bool}:(E.tk k).k=1->k<E.n->Pt E m (k+1) ns r j->Pt E (m+1) k ((E.tk k).x::ns) r j
 |rest {m k j:Nat}{ns:List ByteArray}{r:Bool}:(E.tk k).k=49->k<E.n->Pt E m (k+1) ns r j->Pt E (m+1) k ns true j
 |com {m k j:Nat}{ns:List ByteArray}{r:Bool}:(E.tk k).k=46->k<E.n->Pt E m (k+1) ns r j->Pt E (m+1) k ns r j
def Pt.of(h:Lx E.tk E.n k ns r j):∃m,Pt E m k ns r (j-1)/\(E.tk (j-1)).k=41/\k+1<=j/\j<E.n:=by
 induction h with
 |close b a=>exact⟨0,.stop b (by omega),b,by omega,a⟩
 |rest b a c=>exact⟨1,.rest b (by omega) (.stop a (by omega)),a,by omega,c⟩
 |last b a c=>exact⟨1,.name b (by omega) (.stop a (by omega)),a,by omega,c⟩
 |go b a c i d=>
  obtain⟨m,e,f,l,g⟩:=d;exact⟨m+2,.name b (by omega) (.com a (by omega) e),f,by omega,g⟩
def opR(b:Bool):Int:=if b=Ce then 1 else 0
section
variable {E : Pe} {i j : Nat}
def anD{T:Tk}{h:List ByteArray}{x:Fo}(ao:(E.tk i).k=40)(a4:i<E.n)(I:Pt E m (i+1) h r k)(H:(E.tk k).k=41)(a7:k+1<E.n)(au:CK E (k+1) x j)(a5:k+1<=j)(a6:j<=E.n):CBd E T i (one (nd 36 T (E.tk (j-1)).t (opR r) 0 z0 h) x) j:=by
 intro F J C G ap;have a:=aq G;have K:=aq I;have a8:=a.lo.2.2.2;clear G I;rw[di]at ap;go_in;go_wp2_with fail;refine du (Sq.take (Sq.nil (t:=9) (Sq.box a)) ao) λb a=>?_;go_wp2_with fail;go_loopg [5] m (λgk a9 wr=>∃(e:Nat) (D q:List ByteArray) (u:Int) (s:Bool) (l:Option Addr) (n o:Nat),Br (Pt E gk e q s k/\Sq E F J C wr e C .nil [] [(F.heap.size,62,ndA 36 u 0 ⟨#[]⟩ T (O l n o) s0)] [(9,O l n o,D.map A9)]/\D++q=h/\(∃v,u=opR v/\(v||s)=r)/\n<=e))
 case atStart=>exact⟨i+1,[],h,0,r,V,0,0,K,a,rfl,⟨B4,rfl,by simp⟩,by omega⟩
 case round=>
  clear a;obtain⟨e,D,q,u,s,l,n,o,B⟩:=hrel;obtain⟨ak,a,w,y,a3⟩:=B.out;have f:=gE w y;clear w y B;cases ak with
  |stop c z=>
   go_wp2_with fail;refine du (Sq.kind a H) λb a=>?_;go_wp2_with fail;refine du (Sq.take a H) λb a=>?_;go_wp2_with fail;refine Sq.cq a au (by omega) ?_;rintro b _ L _ _ ⟨a0,rfl,rfl,rfl⟩ a;have A:=Sq.rd a;have ar:=Sq.ln a;rw[show(Fo.nil.app x)=x from rfl]at ar;go_wp2_with fail;refine(Sq.add (Sq.lit2 (Sq.set a)) (.inr (.tail _ (.head _))) (.inr (.head _)) (by omega)).mono ?_;rintro a1 b ⟨a0,rfl,L,a⟩;go_wp2_with fail;go_ret;obtain⟨w,v,y,al⟩:=f.out;obtain rfl:D=h:=by simpa using w
   obtain rfl:v=r:=by simpa using al
   subst y;exact⟨_,_,_,_,rfl,⟨_,rfl,rfl,rfl⟩,Sq.fin a⟩
  |@name p _ _ av _ c z d=>
   have g:=aq d;clear d;go_wp2_with fail;refine du (Sq.kind a c) λb a=>?_;go_wp2_with fail;refine du (Sq.take a c) λb a=>?_;have A:=Sq.rd a;go_wp2_with (at_builtin;refine Sq.apG tS (Sq.box a) (by omega) rfl rfl _ _ rfl rfl rfl (by simp) ?_;intro a2 ad b a;have a:=Sq.tail a;have A:=Sq.rd a);go_roundg p
   case measure=>omega
   case rel=>exact⟨e+1,D++[(E.tk e).x],av,u,s,_,n+1,ad,g,by rw[dK];exact Sq.set a,by rw[cg];exact f.1,f.2,by omega⟩
  |@rest p _ _ _ ax c z d=>
   have g:=aq d;clear d;go_wp2_with fail;refine du (Sq.kind a c) λb a=>?_;go_wp2_with fail;refine du (Sq.take a c) λb a=>?_;have A:=Sq.rd a;go_wp2_with fail;go_roundg p
   case measure=>omega
   case rel=>exact⟨e+1,D,q,1,ax,l,n,o,g,Sq.below (Sq.set a) (dE _ _),f.1,⟨Ce,rfl,by obtain⟨v,_,af⟩:=f.2;rw[<-af];simp⟩,by omega⟩
  |@com p _ _ _ _ c z d=>
   have g:=aq d;clear d;go_wp2_with fail;refine du (Sq.kind a c) λb a=>?_;go_wp2_with fail;refine du (Sq.take a c) λb a=>?_;go_wp2_with fail;go_roundg p
   case measure=>omega
   case rel=>exact⟨e+1,D,q,u,s,l,n,o,g,Sq.below a (dE _ _),f.1,f.2,by omega⟩
end
def Sq.new{b d:Nat}{tk:Nat->Tk}{e:Array A3}{fr:Nat×Nat}(f:W.heap[b]?=U (B0 e 46 fr))(l:TkR e tk n)(m:n<=1048576){o:Obj}{c:B2}(k:(W.alloc o).alloc (B0 #[O (U ⟨b,0,V⟩) n d,A2 A0 0,O V 0 0] 112)=c):Br (Sq ⟨W.heap.size,W.heap.size+1,b,d,n,tk⟩ c V [] c 0 [] .nil [] [] []):=by
 obtain⟨q,i,j,r⟩:=Co k;have:=aj f;have p:=(j.block _ this).trans f;have h:c.heap[W.heap.size+1]?=U (pC ⟨W.heap.size,W.heap.size+1,b,d,n,tk⟩ ((0:Nat):Int) (O V 0 0)):=i;refine⟨⟨by show W.heap.size<=W.heap.size+1;omega,by show W.heap.size+1<_;omega,by show b<_;omega,m⟩,⟨e,fr,p,l⟩,⟨_,h,eI _ _ _ _⟩,⟨λs a=>?_,λg a=>(by cases a)⟩,λt a=>(by cases a),Ac.nil _ _,rfl,ai _ _,λ_ _ _ _=>rfl,λg a=>(by cases a),vh,λg a=>(by cases a),.nil⟩;have:=(nbI h).1 a;simp[B3]at this
def akk(s:ByteArray)(W:B2)(w y n j:Nat)(tk:Nat->Tk)(bf:Array A3)(fr:Nat×Nat)(bs:W.heap[w]?=U (.cells bf 46 fr))(bh:TkR bf tk n)(b9:n<=1048576)(c2:s.size<=1048576)(hS:CL ⟨W.heap.size,W.heap.size+1,w,y,n,tk⟩ 44 #[pV ⟨W.heap.size,W.heap.size+1,w,y,n,tk⟩,.int .i64 6] 0 R j)(cF:R.sz<=40000000):
  B1 Ax 21 #[.string s,.slice (U ⟨w,0,V⟩) n y] W λe w'=>∃v L,e= .returned (.agg #[v])/\Lw w' W.heap.size v L/\L.map Mb.N=(one ⟨1,0,(s.size:Nat),1,0,0,⟨#[]⟩,[],[]⟩ R).flat 0/\E1 W.heap.size W w':=by
 obtain⟨cu,a3⟩:=aF ((W.alloc (.cells #[.slice V 0 0] 26)).alloc (.cells #[.slice (U ⟨w,0,V⟩) n y,.int .i64 0,.slice V 0 0] 112));have S:=Sq.new (tk:=tk) bs bh b9 a3;obtain⟨m,B⟩:∃m:Pe,(⟨W.heap.size,W.heap.size+1,w,y,n,tk⟩:Pe)=m:=⟨_,rfl⟩;rw[B]at S hS;have G:Br (m.pb=W.heap.size+1):=by rw[<-B];rfl
 have bk:Br (m.base=W.heap.size):=by rw[<-B];rfl
 rw[show pV m= .pointer (U ⟨W.heap.size+1,0,V⟩) by rw[<-B]]at hS;obtain⟨bD, -,ba,ca⟩:=Co a3;have a7:=gE bD ba;have a9:=Sq.box (cs:=#[.int .i64 1,.int .i64 0,.int .i64 (s.size:Nat),.int .i64 1,.int .i64 0,.int .i64 0,.string ⟨#[]⟩,s0,s0]) (t:=62) S;rw[ca]at a9;clear bD ba bs bh S B;go_in;go_wp2_with fail;refine Sq.cq a9 hS (by simp;omega) ?_;clear a3;rintro c4 _ a8 af _ ⟨c,d,rfl,rfl⟩ S;have cp:=Sq.rd S;obtain⟨g,b8⟩:=aF af.length;rw[b8]at S⊢;replace S:=Sq.set (q:=8) (u:= .slice c g d) S;clear hS;go_wp2_with fail;clear cp;generalize E2 _ _ _=b at S⊢;obtain⟨v,F,ax⟩:=S.row;obtain⟨x,z,rfl⟩:=bJ ax;have a1:=F;rw[G.out]at F;have ar:b.cell? ⟨W.heap.size+1,2,V⟩=U (.slice x a8.length z):=by rw[am _ _ _ _ _ _ F];rfl
 obtain⟨k,br⟩:=aF a8.length;rw[br]at ar F ax a1;have a4:b.heap[W.heap.size+1+1]?=U (.cells #[.int .i64 1,.int .i64 0,.int .i64 (s.size:Nat),.int .i64 1,.int .i64 0,.int .i64 0,.string ⟨#[]⟩,.slice V 0 0,.slice c g d] 62 (0,0)):=Sq.hd S;refine wp_region_held_drew (S:=λan=>an.heap[W.heap.size+1+1]?=U (.cells #[.int .i64 1,.int .i64 0,.int .i64 (s.size:Nat),.int .i64 1,.int .i64 0,.int .i64 0,.string ⟨#[]⟩,.slice V 0 0,.slice c g d] 62 (0,0))) (by kernel_rfl) a4 (λl=>?_);simp only[ir,bm,ej,Nat.reduceAdd,jb,jp,jq,eu,ez];refine dF 0 (.pointer (U ⟨W.heap.size+1,0,V⟩)) rfl rfl (by kernel_rfl) (λ_ _ _=>id) l (λw' p=>by go_simp) ?_;simp only[List.set];refine dF 1 (.pointer (U ⟨W.heap.size+1,0,V⟩)) rfl rfl (by kernel_rfl) (λ_ _ _=>id) l (λw' p=>by go_simp) ?_;simp only[List.set];refine dF 2 (.pointer (U ⟨W.heap.size+1,0,V⟩)) rfl rfl (by kernel_rfl) (λ_ _ _=>id) l (λw' p=>by go_simp) ?_;simp only[List.set];refine dF 3 (.pointer (U ⟨W.heap.size+1,2,V⟩)) rfl rfl (by kernel_rfl) (λ_ _ _=>id) l (λw' p=>by go_simp) ?_;simp only[List.set];refine Ha 5 21 (.agg #[.int .i64 1,.int .i64 0,.int .i64 (s.size:Nat),.int .i64 1,.int .i64 0,.int .i64 0,.string ⟨#[]⟩,.slice V 0 0,.slice c g d]) rfl rfl (by kernel_rfl) (by kernel_rfl) (by kernel_rfl) (λ_ _ _ a2=>a2) (by rfl) l (λw' p=>by have c6:=be (N:=⟨1,0,(s.size:Nat),1,0,0,⟨#[]⟩,[],af⟩) (vn:= .slice V 0 0) (vk:= .slice c g d) p;go_simp) ?_;simp only[Act.put,cm,co,cC];have b7:=ar;refine rF (S:=λan=>an.cell? ⟨W.heap.size+1,2,V⟩=U (.slice x k z)) (C:=λj=>!(j==7||j==8||j==9||j==10)) (i:=4) (v:= .slice x k z) rfl (xD (by kernel_rfl)) (λ_ _ _ a2=>a2) ?hC _ _ _ _ (xF rfl (by kernel_rfl)) (List.contains_iff_mem.1 (by kernel_rfl)) (Or.inl ⟨by rfl,λw' p=>by go_simp⟩) l b7 ?_
 case hC=>
  intro j c3 bo f;simp only[Bool.not_eq_false',ve,jB]at f;rcases f with((rfl|rfl)|rfl)|rfl
  .obtain rfl:=bc bo;exact⟨{on:=4,ground:=Ground.data},by simp,rfl,rfl⟩
  all_goals
   obtain rfl:=bc bo;exact⟨{on:=4,ground:=Ground.phase},by simp,rfl,rfl⟩
 simp only[Act.put,cm,co,cC];refine fh (i:=6) (by kernel_rfl) rfl (λh a=>?_);go_simp;have ap:∀bv,E1 b.heap.size b (b.drew.alloc bv):=λbv=>(bH (ai _ _)).alloc (by simp) _;refine a _ _ (((ap _).block _ (aj a4)).trans a4) (λ_=>ah (ap _) ar) ?_;clear a h l ap;try simp only[cm,co,cC]
 have E:=bH (dE b (.cells #[.int .i64 1,.int .i64 0,.int .i64 (s.size:Nat),.int .i64 1,.int .i64 0,.int .i64 0,.string ⟨#[]⟩,.slice V 0 0,.slice c g d] 62));have bE:(b.alloc (.cells #[.int .i64 1,.int .i64 0,.int .i64 (s.size:Nat),.int .i64 1,.int .i64 0,.int .i64 0,.string ⟨#[]⟩,.slice V 0 0,.slice c g d] 62)).drew.heap[b.heap.size]?=_:=aB b _;generalize World.drew (World.alloc _ _)=b2 at E bE⊢;have bA:=Sq.below S E;have cl:=(E.block _ (aj a1)).trans a1;have c0:=bA.low;have cI:k<=40000000:=by have q:=Sq.ln S;simp only[ej,Fo.sz_app,Fo.sz]at q;omega
 obtain⟨cb,cc,cd,ce,cf⟩:=eD yA;refine fh (i:=7) (by kernel_rfl) rfl (λh a=>?_);refine step_append_lies _ (by rfl) _ _ 24 (by rfl) m.base 62 cb _ 9 112 Tryz.underlying24 cc cd ce cf rfl (by decide) (.slice x k z) k _ (by rfl) (cJ ax E) ⟨b.heap.size,0,V⟩ 1 1 (wg ⟨1,0,(s.size:Nat),1,0,0,⟨#[]⟩,[],af⟩ s0 (.slice c g d)).toList (by rfl) rfl (B6 bE) (by intro u bt;simp at bt;rcases bt with rfl|rfl|rfl|rfl|rfl|rfl|rfl|rfl|rfl<;>rfl) (by decide) (by unfold F2;omega) (by omega) (by omega) b2.heap.size rfl ?_;intro a0 au a6 bw bn bj c1;obtain⟨K,I⟩:=bA.push cl (by rw[br]) ⟨⟨1,0,(s.size:Nat),1,0,0,⟨#[]⟩,[],af⟩,s0,.slice c g d⟩ (by rw[rA];exact bw) bn bj (.inl ⟨rfl,rfl⟩) (.inr (.head _)) rfl;rw[G.out]at K I;have b0:_=U (Obj.cells #[.int .i64 1,.int .i64 0,.int .i64 (s.size:Nat),.int .i64 1,.int .i64 0,.int .i64 0,.string ⟨#[]⟩,.slice V 0 0,.slice c g d] 62 (0,0)):=Sq.hd K;have al:=b0;rw[aC _ _ _ _ (by show W.heap.size+1+1≠W.heap.size+1;omega)]at al;have cw:a6.cell? ⟨W.heap.size+1,2,V⟩=U (.slice x k z):=by rw[am _ _ _ _ _ _ I];rfl
 have cB:a6.frozen? ⟨W.heap.size+1,2,V⟩=B4:=ch _ _ _ _ _ I;have J:=aL a6 (W.heap.size+1) 2 _ _ (.slice (U ⟨a0,0,V⟩) (k+1) au) I;have o:=aq K;clear K bw bn bj;refine a _ _ al (λf=>by cases f) ?_;clear a h;simp only[Act.put,cm,co,cC];refine fh (i:=8) (by kernel_rfl) rfl (λh a=>?_);go_simp;refine a _ _ al (λf=>by cases f) ?_;clear a h;try simp only[cm,co,cC]
 refine fh (i:=9) (by kernel_rfl) rfl (λh a=>?_);go_simp;refine a _ _ al (λf=>by cases f) ?_;clear a h;try simp only[cm,co,cC]
 refine fh (i:=10) (by kernel_rfl) rfl (λh a=>?_);go_simp;refine a _ _ b0 (λf=>by cases f) ?_;clear a h;refine uk (by kernel_rfl) ?_ _;generalize E2 _ _ _=ao at o J⊢;have cx:ao.cell? ⟨W.heap.size+1,2,V⟩=U (.slice (U ⟨a0,0,V⟩) (k+1) au):=by rw[am _ _ _ _ _ _ J];rfl
 have r:=(o.fz W.heap.size (by omega) (by rw[G.out];omega) (by simp)).trans a7.out.1;have cy:ao.cell? ⟨W.heap.size,0,V⟩=U (.slice V 0 0):=by rw[am _ _ _ _ _ _ r];rfl
 have cz:ao.frozen? ⟨W.heap.size,0,V⟩=B4:=ch _ _ _ _ _ r;have b1:=aq J;clear J;go_wp2_with fail;obtain⟨cn,bx,a5⟩:=o.row;rw[G.out]at bx;obtain rfl:cn= .slice (U ⟨a0,0,V⟩) (k+1) au:=by have e:=b1.out;rw[bx]at e;simp at e;exact e
 obtain⟨cr,b4,b5,_⟩:=o.ac;rw[bk.out]at a5;have A:=o.each;have bd:=o.bl;rw[bk.out]at bd A;exact aH (gA rfl _ _ W.heap.size _ _ _ _ rfl (aL _ _ 0 _ _ _ r) Tryz.underlying26 rfl (by kernel_rfl)) rfl ⟨_,rfl,_,⟨sI a5 (gq a5 r (by decide)) 0 _,λad H=>⟨sI (A ad H).1 (gq (A ad H).1 r (by decide)) 0 _,sI (A ad H).2 (gq (A ad H).2 r (by decide)) 0 _⟩⟩,by rw[b4,eu,b5];rfl,a7.out.2.trans (bd.setCell (ag _) _)⟩
