import Derived.Test.YthkcmkmkapijkaaGreatDoorh11
set_option linter.all false
set_option maxRecDepth 100000
set_option maxHeartbeats 25600000
open Go.Value renaming slice->M
namespace Go.Proofs.YthkcmkmkapijkaaGreatDoor
open Go.RowKit
section
variable (w0 : World) (vt : Value) (t : Nat)
inductive ExO (n i:Nat) (ns:zLD) (N:Nd) (vn vk:Value):FuncId->zAV->Bz->Prop|par {Y:Bz}{least:Int}:iu N.k N.op<least->Hid (WE w0 vt t i Y)->ExO n i ns N vn vk 110 #[pW w0,zI (i:Int),zI least] (⟨#[40]⟩++Y++⟨#[41]⟩)|inf {S Y:Bz}{least:Int}:Hid (N.k=28)/\S=⟨#[32,97,110,100,32]⟩\/Hid (N.k=29)/\S=⟨#[32,111,114,32]⟩->¬iu N.k N.op<least->Hid (Wr w0 vt t 191 #[pW w0,jq N vn vk,.string S,zI<|iu N.k N.op] Y)->ExO n i ns N vn vk 110 #[pW w0,zI (i:Int),zI least] (Y)|nod {f:FuncId}{Y:Bz}{least:Int}:Hid (N.k=30)/\f=193\/Hid (N.k=35)/\f=195\/(20<=N.k/\N.k<=27)/\f=196->¬iu N.k N.op<least->Hid (Wr w0 vt t f #[pW w0,jq N vn vk] Y)->ExO n i ns N vn vk 110 #[pW w0,zI (i:Int),zI least] (Y)|idx {Y E:Bz}{q r:Nat}{least:Int}:Hid (N.k=32)->¬iu N.k N.op<least->N.ks.length=2->N.ks[0]?=some (q:Int)->N.ks[1]?=some (r:Int)->Hid (WA w0 vt t q Y)->Hid (WE w0 vt t r E)->ExO n i ns N vn vk 110 #[pW w0,zI (i:Int),zI least] (Y++⟨#[91]⟩++E++⟨#[93]⟩)|fld {Y:Bz}{q:Nat}{least:Int}:Hid (N.k=33)->¬iu N.k N.op<least->N.ks.length=1->N.ks[0]?=some (q:Int)->Hid (WA w0 vt t q Y)->ExO n i ns N vn vk 110 #[pW w0,zI (i:Int),zI least] (Y++(⟨#[46]⟩++N.x))|cal {Y X:Bz}{q:Nat}{least:Int}:Hid (N.k=34)->¬iu N.k N.op<least->0<N.ks.length->N.ks[0]?=some (q:Int)->Hid (WA w0 vt t q Y)->Hid (WX w0 vt t (N.ks.drop 1) X)->ExO n i ns N vn vk 110 #[pW w0,zI (i:Int),zI least] (Y++⟨#[40]⟩++X++⟨#[41]⟩)|fn {Y:Bz}{least:Int}:Hid (N.k=36)->¬iu N.k N.op<least->Hid (WD w0 vt t i Y)->ExO n i ns N vn vk 110 #[pW w0,zI (i:Int),zI least] (⟨#[102,110]⟩++Y)|one {E:Bz}{q:Nat}{least:Int}:Hid (N.k=37)->¬iu N.k N.op<least->N.ks.length=1->N.ks[0]?=some (q:Int)->Hid (WE w0 vt t q E)->ExO n i ns N vn vk 110 #[pW w0,zI (i:Int),zI least] (⟨#[40]⟩++E++⟨#[41]⟩)|un {A E:Bz}{q:Nat}:Hid (N.op=21)/\A=⟨#[110,111,116,32]⟩\/Hid (N.op=22)/\A=⟨#[35]⟩\/Hid (N.op=20)/\A=⟨#[126]⟩->N.ks.length=1->N.ks[0]?=some (q:Int)->Hid (Wr w0 vt t 110 #[pW w0,zI (q:Int),zI 11] E)->ExO n i ns N vn vk 193 #[pW w0,jq N vn vk] (A++E)
end
theorem ana{h g n A l}(bf:dE h (M (some g) n A) l)(bl:D5 h g l)(bw:l.length=n)(bt:n<=1048576){tab i}(bn:i<n){N}(bs:N.ks.length<=1048576)(a1:N.k=31->1<=N.op/\N.op<=18){y x w B L d}(R1:NdR h g i N y w B x L d){f args G}(ar:ExO h (M (some g) n A) tab n i l N (M y w B) (M x L d) f args G):
  Wr h (M (some g) n A) tab f args G:=by
 intro _ bd e ax;have a0:=e.lt;have⟨z0,_,_⟩:=e.cells;have ap:=R1.hL;have bh:=R1.cap;have a:=ah<|Bx.new e N (M y w B)<|M x L d;have⟨a2,a3,a4,a5,a6,a7,a8,a9,ba,_,_⟩:=R1.rd bd e.bel;have bo:(i:Int)<(n:Int):=O;have br:(0:Int)<=(i:Int):=O;have F:=ah λbc bb=>ED N bc bb a1;unfold jq at F;cases ar
 case' inf b _ hX=>obtain⟨b,rfl⟩|⟨b,rfl⟩:=b
 case' nod b _ hX=>obtain⟨b,rfl⟩|⟨b,rfl⟩|⟨b,rfl⟩:=b
 case' un b _ _ _=>obtain⟨b,rfl⟩|⟨b,rfl⟩|⟨b,rfl⟩:=b
 case' cal C _ _ _ _ hX=>
  obtain⟨H,rfl⟩:=R1.ks.ptr;have bk:(1:Int)<=(L:Int):=O;have bj:1<=L:=O;have bz:(0:Int)<(L:Int):=O;by_cases av:d=1
  case' pos=>
   subst av;obtain rfl:L=1:=O;have af:=ah<|hX (M (some H) 0 0)<|.inl ⟨U,_,_,R⟩
  case' neg=>have af:=ah<|hX (M (some ⟨_,_,none⟩) (L-1)<|d-1)<|R1.ks.drop 1 _ O O
 all_goals
  generalize bx:iu N.k N.op=bA at *;try unfold jq at *
  try simp only[az]at ax
  try (have E:=R1.ks.ptr;obtain⟨H,rfl⟩:=E)
  have c:=ah R1;first|have C:=kqf (by with_reducible assumption:Hid (N.k=_)).out;have ao:=kqs (by with_reducible assumption:Hid (N.k=_)).out|have C:=kqf (by rfl:Hid (N.op=_)).out;have ao:=kqs (by omega:Hid (N.op=_)).out|have C:∀z:Int,28<=z->(N.k==z)=false:=λz e=>by simp;omega|skip
  try (have E:=ap.symm.trans (by with_reducible assumption:N.ks.length=_);subst E)
  have⟨m,o,p,q,r,s,t,u,v⟩:=a.cells
  (try have K:=a.kid0 c.ks byA)
  (try have ad:=a.kid c.ks (j:=1) byW Z)
  go_in
  repeat (go_wp2_with fail;(first|(go_at_call 190;refine dd (F _ _ _) λal am=>?_;have a:=ah<|a.below am;clear m o p q r s t u v;have⟨m,o,p,q,r,s,t,u,v⟩:=a.cells;(try have K:=a.kid0 c.ks O);(try have ad:=a.kid c.ks (j:=1) byW Z))|(refine Bx.stp a blR (by with_reducible first|exact ah (Hq _)|assumption) a0 (by(try simp only[az]);omega) ?_;intro al a;have a:=ah a;clear m o p q r s t u v;(try clear a2 a3 a4 a5 a6 a7 a8 a9 ba z0);have⟨m,o,p,q,r,s,t,u,v⟩:=a.cells;(try have K:=a.kid0 c.ks byW);(try have ad:=a.kid c.ks (j:=1) byW Z))))
  go_wp2_with fail;first|go_end0|apply aA (fE R _ _ _) R
  exact Bx.fin a (by simp only[aB,ByteArray.empty_append])
