import Derived.Test.YthkcmkmkapijkaaGreatDoorh11
set_option linter.all false
set_option maxRecDepth 100000
set_option maxHeartbeats 25600000
open Go.Value renaming slice->M
open List renaming length->Q
namespace Go.Proofs.YthkcmkmkapijkaaGreatDoor
open Go.RowKit
section
variable (w0 : World) (vt : Value) (t : Nat)
inductive Kn (p1:Addr) (n i:Nat) (ns:zLD) (N:Nd) (vn vk:Value):FuncId->zAV->Bz->Prop|blk {Y:Bz}:Hid (N.k=1)->Hid (WB w0 vt t i Y)->Kn p1 n i ns N vn vk 34 #[pW w0,zI (i:Int)] (Y)|let0:List.length N.nm<=200->Hid (N.k=2)->List.length N.ks=0->Kn p1 n i ns N vn vk 34 #[pW w0,zI (i:Int)] (⟨#[108,101,116,32]⟩++cD N.nm)|let1 {X:Bz}:List.length N.nm<=200->Hid (N.k=2)->0<List.length N.ks->Hid (WX w0 vt t N.ks X)->Kn p1 n i ns N vn vk 34 #[pW w0,zI (i:Int)] (⟨#[108,101,116,32]⟩++cD N.nm++(⟨#[32,61,32]⟩++X))|cst {s E:Bz}{q:Nat}:Hid (N.k=3)->List.length N.ks=1->List.length N.nm=1->N.nm[0]?=some s->N.ks[0]?=some (q:Int)->Hid (WE w0 vt t q E)->Kn p1 n i ns N vn vk 34 #[pW w0,zI (i:Int)] (⟨#[99,111,110,115,116,32]⟩++s++⟨#[32,61,32]⟩++E)|fns {s Y:Bz}{q:Nat}:Hid (N.k=4)->List.length N.ks=1->List.length N.nm=1->N.nm[0]?=some s->N.ks[0]?=some (q:Int)->Hid (WD w0 vt t q Y)->Kn p1 n i ns N vn vk 34 #[pW w0,zI (i:Int)] (⟨#[102,110,32]⟩++s++Y)|set {X Z1:Bz}{m:Nat}:Hid (N.k=5)->1<=m/\m<List.length N.ks->Hid (N.n=(m:Int))->Hid (WX w0 vt t (N.ks.take m) X)->Hid (WX w0 vt t (N.ks.drop m) Z1)->Kn p1 n i ns N vn vk 34 #[pW w0,zI (i:Int)] (X++⟨#[32,61,32]⟩++Z1)|one {E:Bz}{q:Nat}:Hid (N.k=6)->List.length N.ks=1->N.ks[0]?=some (q:Int)->Hid (WE w0 vt t q E)->Kn p1 n i ns N vn vk 34 #[pW w0,zI (i:Int)] (E)|iff {Y:Bz}:Hid (N.k=7)->Hid (Wr w0 vt t 112 #[pW w0,jq N vn vk,.string ⟨#[105,102,32]⟩] Y)->Kn p1 n i ns N vn vk 34 #[pW w0,zI (i:Int)] (Y)|whl {E Y:Bz}{q r:Nat}:Hid (N.k=8)->List.length N.ks=2->N.ks[0]?=some (q:Int)->N.ks[1]?=some (r:Int)->Hid (WE w0 vt t q E)->Hid (WB w0 vt t r Y)->Kn p1 n i ns N vn vk 34 #[pW w0,zI (i:Int)] (⟨#[119,104,105,108,101,32]⟩++E++⟨#[32]⟩++Y)|fr {X Y Z1:Bz}{k q:Nat}:List.length N.nm<=200->Hid (N.k=9)/\Z1=⟨#[32,61,32]⟩/\(k=2\/k=3)\/Hid (N.k=10)/\Z1=⟨#[32,105,110,32]⟩/\k=1->List.length N.ks=k+1->N.ks[k]?=some (q:Int)->Hid (WX w0 vt t (N.ks.take k) X)->Hid (WB w0 vt t q Y)->Kn p1 n i ns N vn vk 34 #[pW w0,zI (i:Int)] (⟨#[102,111,114,32]⟩++cD N.nm++Z1++X++⟨#[32]⟩++Y)|brk:Hid (N.k=11)->Kn p1 n i ns N vn vk 34 #[pW w0,zI (i:Int)] (⟨#[98,114,101,97,107]⟩)|nxt:Hid (N.k=12)->Kn p1 n i ns N vn vk 34 #[pW w0,zI (i:Int)] (⟨#[110,101,120,116]⟩)|ret0:Hid (N.k=13)->List.length N.ks=0->Kn p1 n i ns N vn vk 34 #[pW w0,zI (i:Int)] (⟨#[114,101,116,117,114,110]⟩)|ret1 {X:Bz}:Hid (N.k=13)->0<List.length N.ks->Hid (WX w0 vt t N.ks X)->Kn p1 n i ns N vn vk 34 #[pW w0,zI (i:Int)] (⟨#[114,101,116,117,114,110]⟩++(⟨#[32]⟩++X))|try_ {X Y:Bz}{q r:Nat}:List.length N.nm<=200->Hid (N.k=14)->List.length N.ks=2->N.ks[0]?=some (q:Int)->N.ks[1]?=some (r:Int)->Hid (WB w0 vt t q X)->Hid (WB w0 vt t r Y)->Kn p1 n i ns N vn vk 34 #[pW w0,zI (i:Int)] (⟨#[116,114,121,32]⟩++X++⟨#[32,99,97,116,99,104,32]⟩++cD N.nm++⟨#[32]⟩++Y)|thr {E:Bz}{q:Nat}:Hid (N.k=15)->List.length N.ks=1->N.ks[0]?=some (q:Int)->Hid (WE w0 vt t q E)->Kn p1 n i ns N vn vk 34 #[pW w0,zI (i:Int)] (⟨#[116,104,114,111,119,32]⟩++E)|dfr {E:Bz}{q:Nat}:Hid (N.k=16)->List.length N.ks=1->N.ks[0]?=some (q:Int)->Hid (WE w0 vt t q E)->Kn p1 n i ns N vn vk 34 #[pW w0,zI (i:Int)] (⟨#[100,101,102,101,114,32]⟩++E)|bod {Y Z1:Bz}{q:Nat}:List.length N.nm<=200->(N.op≠1/\Z1=ByteArray.empty\/Hid (N.op=1)/\(List.length N.nm=0/\Z1=⟨#[46,46,46]⟩\/0<List.length N.nm/\Z1=⟨#[44,32]⟩++⟨#[46,46,46]⟩))->List.length N.ks=1->N.ks[0]?=some (q:Int)->Hid (WB w0 vt t q Y)->Kn p1 n i ns N vn vk 111 #[pW w0,zI (i:Int)] (⟨#[40]⟩++cD N.nm++Z1++⟨#[41,32]⟩++Y)|br2 {word E Y:Bz}{q r:Nat}:List.length N.ks=2->N.ks[0]?=some (q:Int)->N.ks[1]?=some (r:Int)->Hid (WE w0 vt t q E)->Hid (WB w0 vt t r Y)->Kn p1 n i ns N vn vk 112 #[pW w0,jq N vn vk,.string word] (word++E++⟨#[32]⟩++Y)
end
theorem afd{g h n o q}(bl:dE g (M (some h) n o) q)(bt:D5 g h q)(bE:Q q=n)(bD:n<=1048576){tab i}(bw:i<n){N}(bA:Q N.ks<=1048576){u t m p L c}(R1:NdR g h i N u m p t L c){f args y}(ao:Kn g (M (some h) n o) tab h n i q N (M u m p) (M t L c) f args y):
  Wr g (M (some h) n o) tab f args y:=by
 intro w ba l v;have ax:=l.lt;have⟨z0,_,_⟩:=l.cells;have al:=R1.hL;have am:=R1.hM;have bn:=R1.cap;have a:=ah<|Bx.new l N (M u m p)<|M t L c;have⟨a1,a2,a3,a4,a5,a6,a7,a8,a9,_,_⟩:=R1.rd ba l.bel;have bx:(i:Int)<(n:Int):=O;have bz:(0:Int)<=(i:Int):=O;cases ao
 case' let1|ret1=>have a0:(0:Int)<(L:Int):=O
 case' let1 hX=>have s:=ah<|hX _ R1.ks
 case' ret1 hX=>have s:=ah<|hX _ R1.ks
 case' iff hX=>unfold jq at hX
 case' set e _ hm _ hX hZ=>
  obtain⟨A,rfl⟩:=R1.ks.ptr;have s:=ah<|hX _<|R1.ks.take e O;have bh:=ah<|hZ (M _ (L-e)<|c-e)<|R1.ks.drop e _ O O;have ap:¬c=0:=O;have ar:(e:Int)<=(c:Int):=O;have bo:(e:Int)<=(L:Int):=O;have br:¬c=e:=O;have bs:(0:Int)<=(e:Int):=O
 case' fr z _ _ d _ _ hX _=>
  obtain⟨A,rfl⟩:=R1.ks.ptr;have s:=ah<|hX _<|R1.ks.take z O;have ap:¬c=0:=O;have ar:(z:Int)<=(c:Int):=O;obtain⟨d,rfl,rfl|rfl⟩|⟨d,rfl,rfl⟩:=d
 case' bod d _ _ _=>
  obtain⟨d,rfl⟩|⟨d,⟨av,rfl⟩|⟨av,rfl⟩⟩:=d;all_goals first|have af:=kqs d.out|have af:(N.op==1)=false:=U
  all_goals try have a0:(0:Int)<(m:Int):=O
 all_goals
  try simp only[az]at v
  try (have k:=R1.ks.ptr;obtain⟨A,rfl⟩:=k)
  try (have k:=R1.nm.ptr;obtain⟨_,rfl⟩:=k)
  try have bj:Hid (Wr g (M (some h) n o) tab 108 #[pW g,M _ m p]<|cD N.nm):=λw x l v=>ajc g _ _ N.nm w tab x l R1.nm O v
  have b:=ah R1;try have bF:=kqf (by with_reducible assumption:Hid (N.k=_)).out
  try have bk:=kqs (by with_reducible assumption:Hid (N.k=_)).out
  try (have k:=al.symm.trans (by with_reducible assumption:Q N.ks=_);subst k)
  try (have k:=am.symm.trans (by with_reducible assumption:Q N.nm=_);subst k)
  have⟨B,C,E,F,G,r,H,K,ad⟩:=a.cells
  (try have bb:=a.kid0 b.ks byW)
  (try have bc:=a.kid b.ks (j:=1) byW Z)
  (try have bd:=a.kid b.ks (j:=2) byW Z)
  (try have bf:=a.kid b.ks (j:=3) byW Z)
  (try rw[(by with_reducible assumption:Hid (N.n=_)).out]at r)
  try have b0:=a.name0 b.nm byW
  try unfold jq
  go_in
  repeat (go_wp2_with fail;refine Bx.stp a blR (by with_reducible first|exact ah (Hq _)|assumption) ax (by(try simp only[az]);omega) ?_;intro x a;have a:=ah a;clear B C E F G r H K ad;(try clear a1 a2 a3 a4 a5 a6 a7 a8 a9 z0);have⟨B,C,E,F,G,r,H,K,ad⟩:=a.cells;(try have bb:=a.kid0 b.ks byW);(try have bc:=a.kid b.ks (j:=1) byW Z);(try have bd:=a.kid b.ks (j:=2) byW Z);(try have bf:=a.kid b.ks (j:=3) byW Z);(try rw[(by with_reducible assumption:Hid (N.n=_)).out]at r))
  go_wp2_with fail;first|go_end0|apply aA (fE R _ _ _) R
  exact Bx.fin a (by simp only[aB,ByteArray.empty_append])
