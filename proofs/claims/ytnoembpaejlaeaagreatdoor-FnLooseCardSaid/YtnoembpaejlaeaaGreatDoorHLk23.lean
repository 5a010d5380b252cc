import Derived.Test.YtnoembpaejlaeaaGreatDoorHLk05
import Derived.Test.YtnoembpaejlaeaaGreatDoorHLk22
import Derived.Lib.SmallJoins
set_option linter.all false
set_option maxRecDepth 100000
open Go.Proofs.Tryz renaming prog->M
namespace Go.Proofs.YtnoembpaejlaeaaGreatDoor
open Go.ChangeMaps (open_string shut_string)
open Go.ChangeShapes Go.WideShapes Go.ChangeAt Go.WideMaps Go.WideElems Go.RowKit
variable{W:World}
def aeI{H:Type}{enc:TypeId×Value->H}{P:Program}{w:World}{k:Nat->Bool}{a b c d:String}{j:List (DataW H)}{ps:List MemPlace}(h:DataW.TrodVars enc P w k [a,b,c,d] j ps):∃e f g i,j=[e,f,g,i]:=by
 match j,h with
 |[e,f,g,i],_=>exact⟨e,f,g,i,rfl⟩
 |[],h=>exact h.elim
 |[_],h=>obtain⟨_,_,_,_,_,_,_,_,_,_,h,_⟩:=h;exact h.elim
 |[_,_],h=>obtain⟨_,_,_,_,_,_,_,_,_,_,h,_⟩:=h;obtain⟨_,_,_,_,_,_,_,_,_,_,h,_⟩:=h;exact h.elim
 |[_,_,_],h=>obtain⟨_,_,_,_,_,_,_,_,_,_,h,_⟩:=h;obtain⟨_,_,_,_,_,_,_,_,_,_,h,_⟩:=h;obtain⟨_,_,_,_,_,_,_,_,_,_,h,_⟩:=h;exact h.elim
 |_::_::_::_::_::_,h=>obtain⟨_,_,_,_,_,_,_,_,_,_,h,_⟩:=h;obtain⟨_,_,_,_,_,_,_,_,_,_,h,_⟩:=h;obtain⟨_,_,_,_,_,_,_,_,_,_,h,_⟩:=h;obtain⟨_,_,_,_,_,_,_,_,_,_,h,_⟩:=h;exact h.elim
def aiv{a:Option Addr}{c s:Nat}(i:c<=1048576){fuel:Nat}{H:Type}{enc:TypeId×Value->H}{d:DataW H}{p:List MemPlace}(w:DataW.trod enc M W 0 (λ_=>true) true fuel 22 [.slice a c s]=some (d,p)):∃C:Cd,C.len=c/\Code C W.heap.size W a:=by
 have r:∀b:Nat,0<=(λ_:Nat=>(0:Int)) b/\(λ_:Nat=>(0:Int)) b<256:=λ_=>⟨Int.le_refl 0,by show(0:Int)<256;decide⟩;rcases open_ints Tryz.underlying22 Tryz.underlying5 (by kernel_rfl) w with⟨e,_⟩|⟨A,G,B,f,e,_,E,F,q,_,n,y⟩
 .simp at e;exact⟨⟨c,_,i,r⟩,rfl,.inl e.2.1⟩
 .simp at e;obtain⟨rfl,rfl,rfl⟩:=e;rcases pi c with t|hpos
  .exact⟨⟨c,_,i,r⟩,rfl,.inl t⟩
  .obtain⟨h,k,z⟩:=A;have m:=n 0 (by simp at q;omega);have x:z=none:=by simpa [Addr.add] using World.cell?_spot m
   subst x;have l:∀j,(⟨h,k,none⟩:Addr).add j=⟨h,k+j,none⟩:=λj=>by unfold Addr.add;split<;>simp_all
   have u:∀b,0<=f.getD b 0/\f.getD b 0<256:=λb=>by
    by_cases g:b<f.length
    .have v:=bounds_u8 (y (f.getD b 0) (by rw[List.getD,aA g];exact mw g));exact⟨v.1,by omega⟩
    .rw[List.getD,jr (by omega)];decide
   refine⟨⟨c,λb=>f.getD b 0,i,u⟩,rfl,.inr ⟨h,k,rfl,?_,λb g=>?_⟩⟩
   .have:=Bp W _ m;rw[l]at this;exact this
   .have o:=n b (by simp at q;have:b<c:=g;omega);rw[l]at o;exact o
def alE{a:Option Addr}{c e:Nat}{fuel:Nat}{H:Type}{enc:TypeId×Value->H}{d:DataW H}{p:List MemPlace}(f:DataW.trod enc M W 0 (λ_=>true) true fuel 22 [.slice a c e]=some (d,p)):c<=9223372036854775807:=by
 rcases open_ints Tryz.underlying22 Tryz.underlying5 (by kernel_rfl) f with⟨b,_⟩|⟨n,m,h,o,b,_,j,g,l,_,i,k⟩
 .simp[Value.cells]at b;omega
 .simp[Value.cells]at b;unfold maxLen at g;omega
def aqu:Tryz.prog.globalNamed "strings.asciiSpace" =some 4:=by kernel_rfl
def aot(a:laidMetH M [("strings.asciiSpace",Rows.laid_strings_asciiSpace)] W):Lib.TabIs M W "strings.asciiSpace" .u8 Lib.asciiSpaceTab:=by
 rw[MakeChecks.laidMetH_plain _ _ _ (by kernel_rfl)]at a;have b:laidMet M [("strings.asciiSpace",Lib.tabData .u8 Lib.asciiSpaceTab)] W:=a;exact Lib.tabIs_of_head aqu (t:=273) (by kernel_rfl) Tryz.underlying273 Tryz.underlying5 (by kernel_rfl) (by kernel_rfl) b
def aeJ(os:Os)(bh:os.Started)(H:Type)(enc:TypeId×Value->H):
  ReturnsInHanded {} Tryz.checked os 3 .any (λw args=>(Rows.fnLooseSpec.pre enc M Tryz.f3 [] false w args/\laidMetH M Rows.fnLooseRow.laid w)/\sizedMet enc M Tryz.f3 (OpenSpec.ofChange Rows.fnLooseSpec) false w args)
   (Rows.fnLooseSpec.post enc M Tryz.f3 false true false false):=by
 refine returnsInHanded_of_change_and (C:=Tryz.checked) (X:=λw _=>laidMetH M Rows.fnLooseRow.laid w) (λ_ _ _ a5 h=>h.of_heap a5) own bh (by kernel_rfl) Tryz.func3
  (ChangeSpec.witness_shaped (enc:=enc) (C:=Tryz.checked) (os:=os) (X:=λw _=>laidMetH M Rows.fnLooseRow.laid w) false (World.doorLaid M 126 os) #[.slice none 0 0,.slice none 0 0] 8 rfl (World.shaped_of_RefB (by kernel_rfl) (by kernel_rfl)) (by kernel_rfl) (by kernel_rfl) (by kernel_rfl) (Jk os _)) ?_
 intro a af args ak b0 bn E z _ _ k _;have n:∀(F:Nat) t v,Tryz.f3.params[F]?=some t->args[F]?=some v->Value.okWide M a .any af t v:=E;have a2:=z;obtain⟨a8,bb,u,y,rfl,b2,b3⟩:=z;have s:DataW.TrodAll enc M a 0 (λ_=>true) true Tryz.f3.params.toList args.toList ak a8:=u;rw[Tryz.params3]at s n;obtain⟨L,b6,bo,bs,a9,b4,b1,rfl,rfl,q,bd⟩:=trodAll_cons s;obtain⟨ad,b7,br,bt,ba,b5,a3,rfl,rfl,r,bf⟩:=trodAll_cons bd;obtain⟨rfl,rfl,rfl⟩:=trodAll_nil bf;subst a3;obtain rfl:args=#[L,ad]:=by cases args;simp_all
 obtain⟨bx,bA,bD,bE,rfl⟩:=aeI y;have G:=q;have a6:∀b∈a9,b.block<a.heap.size:=by obtain⟨o,m⟩:=G;exact DataW.trod_lt o _ _ _ m
 obtain⟨f,d,i,rfl⟩:=okWide_slice Tryz.underlying22 (n 0 22 L rfl rfl);obtain⟨bv,A⟩:=q;have J:=alE A;have I:=r;have a7:∀b∈ba,b.block<a.heap.size:=by obtain⟨o,m⟩:=I;exact DataW.trod_lt o _ _ _ m
 obtain⟨g,e,j,rfl⟩:=okWide_slice Tryz.underlying22 (n 1 22 ad rfl rfl);obtain⟨bw,B⟩:=r;have K:=alE B;have x:Lay a:=anF (k.filter λb=>b.1 != "loop.example/warp/impl.powers" &&b.1 != "unicode.White_Space" &&b.1 != "strings.asciiSpace");obtain⟨bj,al,ax⟩:=ako (k.filter λb=>b.1== "loop.example/warp/impl.powers");have ar:=aot (k.filter λb=>b.1== "strings.asciiSpace");clear u E;have ap:12<=a.heap.size:=by
  have l:=x.brj;unfold World.cell? at l;rcases bC 11 a.heap.size with h|h
  .exact h
  .rw[xB h]at l;simp at l
 refine(show Calls M 3 #[.slice f d i,.slice g e j] a λp bk=>p= .returned (.bool true)/\Below a.heap.size a bk by
  by_cases an:d<=1048576
  .by_cases ao:e<=1048576
   .obtain⟨C,rfl,au⟩:=aiv an A;obtain⟨D,rfl,av⟩:=aiv ao B;exact aeH au av ⟨x,ap,⟨bj,al,ax⟩,ar⟩
   .exact uE a f g d e i j (.inr (by omega)) J K
  .exact uE a f g d e i j (.inl (by omega)) J K).mono λp bl ⟨a4,c⟩=>?_
 subst a4;exact⟨_,rfl,_,_,_,[],_,bb,a2,trodAll_mk1 (shut_bool Tryz.underlying4 _),(trodAll_cons_mk (Below.trod Iu (by kernel_rfl) (aE (by kernel_rfl)) G c a6) (trodAll_cons_mk (Below.trod Iu (by kernel_rfl) (aE (by kernel_rfl)) I c a7) trodAll_mk0)),Below.trodVars Iu c (by kernel_rfl) y,c.frame _,λh=>by cases h⟩
