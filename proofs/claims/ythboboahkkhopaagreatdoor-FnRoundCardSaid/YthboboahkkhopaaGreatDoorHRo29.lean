import Derived.Test.YthboboahkkhopaaGreatDoorHRo28
import Derived.Test.YthboboahkkhopaaGreatDoorHRo03
import Derived.Lib.SmallJoins
set_option linter.all false
set_option maxRecDepth 100000
open Go.Proofs.Tryz
open Go.Proofs.Tryz renaming prog->M
namespace Go.Proofs.YthboboahkkhopaaGreatDoor
open Go.ChangeMaps (open_string shut_string)
open Go.ChangeShapes Go.WideShapes Go.ChangeAt Go.WideMaps Go.WideElems Go.RowKit
variable{W:World}
def af8{H:Type}{enc:TypeId×Value->H}{P:Program}{w:World}{k:Nat->Bool}{a b c d:String}{j:List (DataW H)}{ps:List MemPlace}(h:DataW.TrodVars enc P w k [a,b,c,d] j ps):∃e f g i,j=[e,f,g,i]:=by
 match j,h with
 |[e,f,g,i],_=>exact⟨e,f,g,i,rfl⟩
 |[],h=>exact h.elim
 |[_],h=>obtain⟨_,_,_,_,_,_,_,_,_,_,h,_⟩:=h;exact h.elim
 |[_,_],h=>obtain⟨_,_,_,_,_,_,_,_,_,_,h,_⟩:=h;obtain⟨_,_,_,_,_,_,_,_,_,_,h,_⟩:=h;exact h.elim
 |[_,_,_],h=>obtain⟨_,_,_,_,_,_,_,_,_,_,h,_⟩:=h;obtain⟨_,_,_,_,_,_,_,_,_,_,h,_⟩:=h;obtain⟨_,_,_,_,_,_,_,_,_,_,h,_⟩:=h;exact h.elim
 |_::_::_::_::_::_,h=>obtain⟨_,_,_,_,_,_,_,_,_,_,h,_⟩:=h;obtain⟨_,_,_,_,_,_,_,_,_,_,h,_⟩:=h;obtain⟨_,_,_,_,_,_,_,_,_,_,h,_⟩:=h;obtain⟨_,_,_,_,_,_,_,_,_,_,h,_⟩:=h;exact h.elim
def apz{a:Option Addr}{c s:Nat}(i:c<=1048576){fuel:Nat}{H:Type}{enc:TypeId×Value->H}{d:DataW H}{p:List MemPlace}(w:DataW.trod enc M W 0 (λ_=>true) true fuel 22 [.slice a c s]=some (d,p)):∃C:Cd,C.len=c/\Code C W.heap.size W a:=by
 have r:∀b:Nat,0<=(λ_:Nat=>(0:Int)) b/\(λ_:Nat=>(0:Int)) b<256:=λ_=>⟨Int.le_refl 0,by show(0:Int)<256;decide⟩;rcases open_ints underlying22 underlying5 (by kernel_rfl) w with⟨e,_⟩|⟨A,G,B,f,e,_,E,F,q,_,n,y⟩
 .simp at e;exact⟨⟨c,_,i,r⟩,rfl,.inl e.2.1⟩
 .simp at e;obtain⟨rfl,rfl,rfl⟩:=e;rcases nK c with t|hpos
  .exact⟨⟨c,_,i,r⟩,rfl,.inl t⟩
  .obtain⟨h,k,z⟩:=A;have m:=n 0 (by simp at q;omega);have x:z=none:=by simpa [Addr.add] using World.cell?_spot m
   subst x;have l:∀j,(⟨h,k,none⟩:Addr).add j=⟨h,k+j,none⟩:=λj=>by unfold Addr.add;split<;>simp_all
   have u:∀b,0<=f.getD b 0/\f.getD b 0<256:=λb=>by
    by_cases g:b<f.length
    .have v:=bounds_u8 (y (f.getD b 0) (by rw[List.getD,az g];exact iB g));exact⟨v.1,by omega⟩
    .rw[List.getD,jp (by omega)];decide
   refine⟨⟨c,λb=>f.getD b 0,i,u⟩,rfl,.inr ⟨h,k,rfl,?_,λb g=>?_⟩⟩
   .have:=yA W _ m;rw[l]at this;exact this
   .have o:=n b (by simp at q;have:b<c:=g;omega);rw[l]at o;exact o
def arE{a:Option Addr}{c e:Nat}{fuel:Nat}{H:Type}{enc:TypeId×Value->H}{d:DataW H}{p:List MemPlace}(f:DataW.trod enc M W 0 (λ_=>true) true fuel 22 [.slice a c e]=some (d,p)):c<=9223372036854775807:=by
 rcases open_ints underlying22 underlying5 (by kernel_rfl) f with⟨b,_⟩|⟨n,m,h,o,b,_,j,g,l,_,i,k⟩
 .simp[Value.cells]at b;omega
 .simp[Value.cells]at b;unfold maxLen at g;omega
def arF:Tryz.prog.globalNamed "strings.asciiSpace" =some 4:=by kernel_rfl
def apA(a:laidMetH M [("strings.asciiSpace",Rows.laid_strings_asciiSpace)] W):Lib.TabIs M W "strings.asciiSpace" .u8 Lib.asciiSpaceTab:=by
 rw[MakeChecks.laidMetH_plain _ _ _ (by kernel_rfl)]at a;have b:laidMet M [("strings.asciiSpace",Lib.tabData .u8 Lib.asciiSpaceTab)] W:=a;exact Lib.tabIs_of_head arF (t:=268) (by kernel_rfl) underlying268 underlying5 (by kernel_rfl) (by kernel_rfl) b
def af9(os:Os)(av:os.Started)(H:Type)(enc:TypeId×Value->H):
  ReturnsInHanded {} Tryz.checked os 3 .any (λw args=>(Rows.fnRoundSpec.pre enc M Tryz.f3 [] false w args/\laidMetH M Rows.fnRoundRow.laid w)/\sizedMet enc M Tryz.f3 (OpenSpec.ofChange Rows.fnRoundSpec) false w args)
   (Rows.fnRoundSpec.post enc M Tryz.f3 false true false false):=by
 refine returnsInHanded_of_change_and (C:=Tryz.checked) (X:=λw _=>laidMetH M Rows.fnRoundRow.laid w) (λ_ _ _ K h=>h.of_heap K) own av (by kernel_rfl) func3
  (ChangeSpec.witness_shaped (enc:=enc) (C:=Tryz.checked) (os:=os) (X:=λw _=>laidMetH M Rows.fnRoundRow.laid w) false (World.doorLaid M 126 os) #[.slice none 0 0] 8 rfl (World.shaped_of_RefB (by kernel_rfl) (by kernel_rfl)) (by kernel_rfl) (by kernel_rfl) (by kernel_rfl) (Kt os _)) ?_
 intro a u args x bb a2 ad n _ _ d _;have p:∀(q:Nat) t v,Tryz.f3.params[q]?=some t->args[q]?=some v->Value.okWide M a .any u t v:=ad;have I:=n;obtain⟨ao,ar,B,m,rfl,bd,bf⟩:=n;have k:DataW.TrodAll enc M a 0 (λ_=>true) true Tryz.f3.params.toList args.toList x ao:=B;rw[params3]at k p;obtain⟨s,bl,a3,a4,ap,bj,bc,rfl,rfl,j,au⟩:=trodAll_cons k;obtain⟨rfl,rfl,rfl⟩:=trodAll_nil au;obtain rfl:args=#[s]:=by cases args;simp_all
 obtain⟨a7,a8,a9,ba,rfl⟩:=af8 m;have r:=j;have al:∀b∈ap,b.block<a.heap.size:=by obtain⟨an,L⟩:=r;exact DataW.trod_lt an _ _ _ L
 obtain⟨g,f,i,rfl⟩:=okWide_slice underlying22 (p 0 22 s rfl rfl);obtain⟨a6,o⟩:=j;have ak:=arE o;have l:Lay a:=apv (d.filter λb=>b.1 != "loop.example/warp/impl.powers" &&b.1 != "unicode.White_Space" &&b.1 != "strings.asciiSpace");have⟨ax,y,G⟩:=ame (d.filter λb=>b.1== "loop.example/warp/impl.powers");have E:=apA (d.filter λb=>b.1== "strings.asciiSpace");have A:12<=a.heap.size:=by
  obtain⟨_,bk,bh,e⟩:=l.errs;unfold World.cell? at e;rcases bI 11 a.heap.size with h|h
  .exact h
  .rw[yw h]at e;simp at e
 refine(show Calls M 3 #[.slice g f i] a (gy a (.bool true)) by
  by_cases z:f<=1048576
  .obtain⟨C,rfl,F⟩:=apz z o;exact af7 F ⟨l,A,⟨ax,y,G⟩,E⟩
  .exact Fy a g f i (by omega) ak).mono λa5 a1 ⟨J,c⟩=>?_
 subst J;exact⟨_,rfl,_,_,_,[],_,ar,I,trodAll_mk1 (shut_bool underlying4 _),(trodAll_cons_mk (Below.trod ads (by kernel_rfl) (aG (by kernel_rfl)) r c al) trodAll_mk0),Below.trodVars ads c (by kernel_rfl) m,c.frame _,λh=>by cases h⟩
