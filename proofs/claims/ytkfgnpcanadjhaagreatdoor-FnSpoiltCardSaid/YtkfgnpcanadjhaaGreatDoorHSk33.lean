import Derived.Test.YtkfgnpcanadjhaaGreatDoorHSk10
import Derived.Test.YtkfgnpcanadjhaaGreatDoorHSk32
import Derived.Lib.SmallJoins
set_option linter.all false
set_option maxRecDepth 100000
namespace Go.Proofs.YtkfgnpcanadjhaaGreatDoor
open Go.ChangeMaps (open_string shut_string)
open Go.ChangeShapes Go.WideShapes Go.ChangeAt Go.WideMaps Go.WideElems Go.RowKit
theorem Lg{H:Type}{enc:TypeId×Value->H}{P:Program}{w:World}{k:Nat->Bool}{a b c d:String}{j:List (DataW H)}{ps:List MemPlace}(e:DataW.TrodVars enc P w k [a,b,c,d] j ps):∃f g h i,j=[f,g,h,i]:=by
 match j,e with
 |[f,g,h,i],_=>exact⟨f,g,h,i,rfl⟩
 |[],e=>exact e.elim
 |[_],e=>obtain⟨_,_,_,_,_,_,_,_,_,_,e,_⟩:=e;exact e.elim
 |[_,_],e=>obtain⟨_,_,_,_,_,_,_,_,_,_,e,_⟩:=e;obtain⟨_,_,_,_,_,_,_,_,_,_,e,_⟩:=e;exact e.elim
 |[_,_,_],e=>obtain⟨_,_,_,_,_,_,_,_,_,_,e,_⟩:=e;obtain⟨_,_,_,_,_,_,_,_,_,_,e,_⟩:=e;obtain⟨_,_,_,_,_,_,_,_,_,_,e,_⟩:=e;exact e.elim
 |_::_::_::_::_::_,e=>obtain⟨_,_,_,_,_,_,_,_,_,_,e,_⟩:=e;obtain⟨_,_,_,_,_,_,_,_,_,_,e,_⟩:=e;obtain⟨_,_,_,_,_,_,_,_,_,_,e,_⟩:=e;obtain⟨_,_,_,_,_,_,_,_,_,_,e,_⟩:=e;exact e.elim
theorem ah6{W:World}{a:Option Addr}{c cap:Nat}(i:c<=1048576){fuel:Nat}{H:Type}{enc:TypeId×Value->H}{d:DataW H}{p:List MemPlace}(v:DataW.trod enc Tryz.prog W 0 (fun _=>true) true fuel 22 [.slice a c cap]=some (d,p)):∃C:Cd,C.len=c/\Code C W.heap.size W a:=by
 have r:∀b:Nat,0<=(fun _:Nat=>(0:Int)) b/\(fun _:Nat=>(0:Int)) b<256:=fun _=>⟨Int.le_refl 0,by show(0:Int)<256;decide⟩
 rcases open_ints Tryz.underlying22 Tryz.underlying5 (by kernel_rfl) v with⟨e,_⟩|⟨z,F,A,f,e,_,B,E,q,_,n,x⟩
 ·simp at e
  exact⟨⟨c,_,i,r⟩,rfl,.inl e.2.1⟩
 ·simp at e
  obtain⟨rfl,rfl,rfl⟩:=e
  rcases mJ c with s|hpos
  ·exact⟨⟨c,_,i,r⟩,rfl,.inl s⟩
  ·obtain⟨h,k,y⟩:=z
   have m:=n 0 (by simp at q;omega)
   have w:y=none:=by simpa [Addr.add] using World.cell?_spot m
   subst w
   have l:∀j,(⟨h,k,none⟩:Addr).add j=⟨h,k+j,none⟩:=fun j=>by unfold Addr.add;split<;>simp_all
   have t:∀b,0<=f.getD b 0/\f.getD b 0<256:=fun b=>by
    by_cases g:b<f.length
    ·have u:=bounds_u8 (x (f.getD b 0) (by rw[List.getD,aF g];exact xg g))
     exact⟨u.1,by omega⟩
    ·rw[List.getD,iC (by omega)];decide
   refine⟨⟨c,fun b=>f.getD b 0,i,t⟩,rfl,.inr ⟨h,k,rfl,?_,fun b g=>?_⟩⟩
   ·have:=sF W _ m;rw[l]at this;exact this
   ·have o:=n b (by simp at q;have:b<c:=g;omega)
    rw[l]at o
    exact o
theorem ajo:Tryz.prog.globalNamed "strings.asciiSpace" =some 5:=by kernel_rfl
theorem ah7{W:World}(a:laidMetH Tryz.prog [("strings.asciiSpace",Rows.laid_strings_asciiSpace)] W):Lib.TabIs Tryz.prog W "strings.asciiSpace" .u8 Lib.asciiSpaceTab:=by
 rw[MakeChecks.laidMetH_plain _ _ _ (by kernel_rfl)]at a
 have b:laidMet Tryz.prog [("strings.asciiSpace",Lib.tabData .u8 Lib.asciiSpaceTab)] W:=a
 exact Lib.tabIs_of_head ajo (t:=257) (by kernel_rfl) Tryz.underlying257 Tryz.underlying5 (by kernel_rfl) (by kernel_rfl) b
theorem Lh(os:Os)(av:os.Started)(H:Type)(enc:TypeId×Value->H):
  ReturnsInHanded {} Tryz.checked os 3 .any (fun w args=>(Rows.fnSpoiltSpec.pre enc Tryz.prog Tryz.f3 [] false w args/\laidMetH Tryz.prog Rows.fnSpoiltRow.laid w)/\sizedMet enc Tryz.prog Tryz.f3 (OpenSpec.ofChange Rows.fnSpoiltSpec) false w args)
   (Rows.fnSpoiltSpec.post enc Tryz.prog Tryz.f3 false true false false):=by
 refine returnsInHanded_of_change_and (C:=Tryz.checked) (X:=fun w _=>laidMetH Tryz.prog Rows.fnSpoiltRow.laid w) (fun _ _ _ af e=>e.of_heap af) own av (by kernel_rfl) Tryz.func3
  (ChangeSpec.witness_shaped (enc:=enc) (C:=Tryz.checked) (os:=os) (X:=fun w _=>laidMetH Tryz.prog Rows.fnSpoiltRow.laid w) false (World.doorLaid Tryz.prog 126 os) #[.slice none 0 0] 8 rfl (World.shaped_of_RefB (by kernel_rfl) (by kernel_rfl)) (by kernel_rfl) (by kernel_rfl) (by kernel_rfl) (Er os _)) ?_
 intro b z args A bc a4 s q _ _ g _
 have r:∀(u:Nat) t v,Tryz.f3.params[u]?=some t->args[u]?=some v->Value.okWide Tryz.prog b .any z t v:=s
 have L:=q
 obtain⟨an,ap,o,p,rfl,bk,bn⟩:=q
 have n:DataW.TrodAll enc Tryz.prog b 0 (fun _=>true) true Tryz.f3.params.toList args.toList A an:=o
 rw[Tryz.params3]at n r
 obtain⟨y,bv,a6,a7,ao,bt,bd,rfl,rfl,f,ar⟩:=trodAll_cons n
 obtain⟨rfl,rfl,rfl⟩:=trodAll_nil ar
 obtain rfl:args=#[y]:=by cases args;simp_all
 obtain⟨a8,a9,ba,bb,rfl⟩:=Lg p
 have x:=f
 have al:∀a∈ao,a.block<b.heap.size:=by obtain⟨am,j⟩:=x;exact DataW.trod_lt am _ _ _ j
 obtain⟨k,c,l,rfl⟩:=okWide_slice Tryz.underlying22 (r 0 22 y rfl rfl)
 have ak:c<=9223372036854775807:=by
  obtain⟨E,i⟩:=f
  rcases open_ints Tryz.underlying22 Tryz.underlying5 (by kernel_rfl) i with⟨h,_⟩|⟨a,bs,a5,bw,h,_,bl,j,br,_,bf,bo⟩
  ·simp[Value.cells]at h;omega
  ·simp[Value.cells]at h;unfold maxLen at j;omega
 have K:Lm b:=ahz (g.filter fun a=>a.1 != "loop.example/warp/impl.powers" &&a.1 != "unicode.White_Space" &&a.1 != "strings.asciiSpace")
 obtain⟨a1,B,J⟩:=afe (g.filter fun a=>a.1== "loop.example/warp/impl.powers")
 have G:=ah7 (g.filter fun a=>a.1== "strings.asciiSpace")
 clear o s
 refine(show Calls Tryz.prog 3 #[.slice k c l] b fun m a2=>m= .returned (.bool true)/\Below b.heap.size b a2 by
  by_cases F:c<=1048576
  ·obtain⟨E,i⟩:=f
   obtain⟨C,rfl,I⟩:=ah6 F i
   exact ac8 I ⟨K,⟨a1,B,J⟩,G⟩
  ·exact Fw b k c l (by omega) ak).mono fun m a3 ⟨ad,d⟩=>?_
 subst ad
 exact⟨_,rfl,_,_,_,[],_,ap,L,trodAll_mk1 (shut_bool Tryz.underlying4 _),(trodAll_cons_mk (Below.trod H8 (by kernel_rfl) (bi (by kernel_rfl)) x d al) trodAll_mk0),Below.trodVars H8 d (by kernel_rfl) p,d.frame _,fun e=>by cases e⟩
