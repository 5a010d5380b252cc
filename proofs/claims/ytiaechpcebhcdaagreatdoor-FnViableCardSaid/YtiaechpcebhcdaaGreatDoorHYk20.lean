import Derived.Test.YtiaechpcebhcdaaGreatDoorHYk08
set_option linter.all false
set_option maxRecDepth 100000
set_option maxHeartbeats 25600000
open Go.Value renaming slice->M
namespace Go.Proofs.YtiaechpcebhcdaaGreatDoor
open Go.RowKit
section
variable (w0 : World) (vt : Value) (t : Nat)
inductive ExO (n i:Nat) (ns:List Nd) (N:Nd) (vn vk:Value):FuncId->Array Value->Bz->Prop
 |par {Y:Bz}{least:Int}:lr N.k N.op<least->Hid (WE w0 vt t i Y)->ExO n i ns N vn vk 180 #[pW w0,.int .i64 (i:Int),.int .i64 least] (⟨#[40]⟩++Y++⟨#[41]⟩)
 |inf {S Y:Bz}{least:Int}:Hid (N.k=28)/\S=⟨#[32,97,110,100,32]⟩\/Hid (N.k=29)/\S=⟨#[32,111,114,32]⟩->¬lr N.k N.op<least->Hid (Wr w0 vt t 217 #[pW w0,jA N vn vk,.string S,.int .i64 (lr N.k N.op)] Y)->ExO n i ns N vn vk 180 #[pW w0,.int .i64 (i:Int),.int .i64 least] (Y)
 |nod {f:FuncId}{Y:Bz}{least:Int}:Hid (N.k=30)/\f=218\/Hid (N.k=35)/\f=220\/(20<=N.k/\N.k<=27)/\f=221->¬lr N.k N.op<least->Hid (Wr w0 vt t f #[pW w0,jA N vn vk] Y)->ExO n i ns N vn vk 180 #[pW w0,.int .i64 (i:Int),.int .i64 least] (Y)
 |idx {Y E:Bz}{q r:Nat}{least:Int}:Hid (N.k=32)->¬lr N.k N.op<least->N.ks.length=2->N.ks[0]?=some (q:Int)->N.ks[1]?=some (r:Int)->Hid (WA w0 vt t q Y)->Hid (WE w0 vt t r E)->ExO n i ns N vn vk 180 #[pW w0,.int .i64 (i:Int),.int .i64 least] (Y++⟨#[91]⟩++E++⟨#[93]⟩)
 |fld {Y:Bz}{q:Nat}{least:Int}:Hid (N.k=33)->¬lr N.k N.op<least->N.ks.length=1->N.ks[0]?=some (q:Int)->Hid (WA w0 vt t q Y)->ExO n i ns N vn vk 180 #[pW w0,.int .i64 (i:Int),.int .i64 least] (Y++(⟨#[46]⟩++N.x))
 |cal {Y X:Bz}{q:Nat}{least:Int}:Hid (N.k=34)->¬lr N.k N.op<least->0<N.ks.length->N.ks[0]?=some (q:Int)->Hid (WA w0 vt t q Y)->Hid (WX w0 vt t (N.ks.drop 1) X)->ExO n i ns N vn vk 180 #[pW w0,.int .i64 (i:Int),.int .i64 least] (Y++⟨#[40]⟩++X++⟨#[41]⟩)
 |fn {Y:Bz}{least:Int}:Hid (N.k=36)->¬lr N.k N.op<least->Hid (WD w0 vt t i Y)->ExO n i ns N vn vk 180 #[pW w0,.int .i64 (i:Int),.int .i64 least] (⟨#[102,110]⟩++Y)
 |one {E:Bz}{q:Nat}{least:Int}:Hid (N.k=37)->¬lr N.k N.op<least->N.ks.length=1->N.ks[0]?=some (q:Int)->Hid (WE w0 vt t q E)->ExO n i ns N vn vk 180 #[pW w0,.int .i64 (i:Int),.int .i64 least] (⟨#[40]⟩++E++⟨#[41]⟩)
 |un {A E:Bz}{q:Nat}:Hid (N.op=21)/\A=⟨#[110,111,116,32]⟩\/Hid (N.op=22)/\A=⟨#[35]⟩\/Hid (N.op=20)/\A=⟨#[126]⟩->N.ks.length=1->N.ks[0]?=some (q:Int)->Hid (Wr w0 vt t 180 #[pW w0,.int .i64 (q:Int),.int .i64 11] E)->ExO n i ns N vn vk 218 #[pW w0,jA N vn vk] (A++E)
end
theorem aiu{g:World}{e:Addr}{n z:Nat}{ns:List Nd}(bc:fj g (M (some e) n z) ns)(bh:Co g e ns)(bp:ns.length=n)(bo:n<=1048576){tab i:Nat}(bj:i<n){N:Nd}(bn:N.ks.length<=1048576)(av:N.k=31->1<=N.op/\N.op<=18){x w:Option Addr}{v A L ck:Nat}(R:NdR g e i N x v A w L ck){f:FuncId}{args:Array Value}{F:Bz}(am:ExO g (M (some e) n z) tab n i ns N (M x v A) (M w L ck) f args F):
  Wr g (M (some e) n z) tab f args F:=by
 intro bb ba d ap;have ar:=d.lt;have⟨z0,bv,bw⟩:=d.cells;have al:=R.hL;have bd:=R.cap;have a:=aj (Bx.new d N (M x v A) (M w L ck));have⟨aL,a0,a1,a2,a3,a4,a5,a6,a7,_,_⟩:=R.rd ba d.bel;have bk:(i:Int)<(n:Int):=O;have bl:(0:Int)<=(i:Int):=O;have E:=aj λa9 a8=>BJ N a9 a8 av;unfold jA at E;cases am
 case' inf b _ hX=>obtain⟨b,rfl⟩|⟨b,rfl⟩:=b
 case' nod b _ hX=>obtain⟨b,rfl⟩|⟨b,rfl⟩|⟨b,rfl⟩:=b
 case' un b _ _ _=>obtain⟨b,rfl⟩|⟨b,rfl⟩|⟨b,rfl⟩:=b
 case' cal B _ _ _ _ hX=>
  obtain⟨h,rfl⟩:=R.ks.ptr;have bg:(1:Int)<=(L:Int):=O;have bf:1<=L:=O;have bs:(0:Int)<(L:Int):=O;by_cases ao:ck=1
  case' pos=>
   subst ao;obtain rfl:L=1:=O;have K:=aj (hX (M (some h) 0 0) (.inl ⟨U,_,_,rfl⟩))
  case' neg=>have K:=aj (hX (M (some ⟨h.block,h.off+1,none⟩) (L-1) (ck-1)) (R.ks.drop 1 _ O O))
 all_goals
  generalize br:lr N.k N.op=bt at *;try unfold jA at *
  try simp only[ax]at ap
  try (have C:=R.ks.ptr;obtain⟨h,rfl⟩:=C)
  have c:=aj R;first|have B:=kqf (by with_reducible assumption:Hid (N.k=_)).out;have ag:=kqs (by with_reducible assumption:Hid (N.k=_)).out|have B:=kqf (by rfl:Hid (N.op=_)).out;have ag:=kqs (by omega:Hid (N.op=_)).out|have B:∀y:Int,28<=y->(N.k==y)=false:=λy d=>by simp;omega|skip
  try (have C:=al.symm.trans (by with_reducible assumption:N.ks.length=_);subst C)
  have⟨l,m,o,p,q,r,s,t,u⟩:=a.cells
  (try have G:=a.kid0 c.ks Cm)
  (try have H:=a.kid c.ks (j:=1) Cm Z)
  go_in
  repeat (go_wp2_with fail;(first|(go_at_call 216;refine dm (E _ _ _) λad af=>?_;have a:=aj (a.below af);clear l m o p q r s t u;obtain⟨l,m,o,p,q,r,s,t,u⟩:=a.cells;(try have G:=a.kid0 c.ks O);(try have H:=a.kid c.ks (j:=1) Cm Z))|(refine Bx.stp a (ai _ _) (by with_reducible first|exact aj (Ef _)|assumption) ar (by(try simp only[ax]);omega) ?_;intro ad a;have a:=aj a;clear l m o p q r s t u;(try clear aL a0 a1 a2 a3 a4 a5 a6 a7 z0);obtain⟨l,m,o,p,q,r,s,t,u⟩:=a.cells;(try have G:=a.kid0 c.ks Cm);(try have H:=a.kid c.ks (j:=1) Cm Z))))
  go_wp2_with fail;first|go_end0|refine aD (iI rfl _ _ _) rfl ?_
  exact Bx.fin a (by simp only[dJ,ByteArray.empty_append])
