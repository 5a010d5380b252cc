import Derived.Test.YtnlhhmlcjbohbaaGreatDoorHNk05
import Derived.Test.YtnlhhmlcjbohbaaGreatDoorHNk32
import Derived.Lib.SmallJoins
set_option linter.all false
set_option maxRecDepth 100000
open Go.Proofs.Tryz renaming prog->M
namespace Go.Proofs.YtnlhhmlcjbohbaaGreatDoor
open Go.ChangeMaps (open_string shut_string)
open Go.ChangeShapes Go.WideShapes Go.ChangeAt Go.WideMaps Go.WideElems Go.RowKit
theorem afb{H:Type}{enc:TypeId×Value->H}{P:Program}{w:World}{k:Nat->Bool}{a b c d:String}{j:List (DataW H)}{ps:List MemPlace}(h:DataW.TrodVars enc P w k [a,b,c,d] j ps):∃e f g i,j=[e,f,g,i]:=by
 match j,h with
 |[e,f,g,i],_=>exact⟨e,f,g,i,rfl⟩
 |[],h=>exact h.elim
 |[_],h=>obtain⟨_,_,_,_,_,_,_,_,_,_,h,_⟩:=h;exact h.elim
 |[_,_],h=>obtain⟨_,_,_,_,_,_,_,_,_,_,h,_⟩:=h;obtain⟨_,_,_,_,_,_,_,_,_,_,h,_⟩:=h;exact h.elim
 |[_,_,_],h=>obtain⟨_,_,_,_,_,_,_,_,_,_,h,_⟩:=h;obtain⟨_,_,_,_,_,_,_,_,_,_,h,_⟩:=h;obtain⟨_,_,_,_,_,_,_,_,_,_,h,_⟩:=h;exact h.elim
 |_::_::_::_::_::_,h=>obtain⟨_,_,_,_,_,_,_,_,_,_,h,_⟩:=h;obtain⟨_,_,_,_,_,_,_,_,_,_,h,_⟩:=h;obtain⟨_,_,_,_,_,_,_,_,_,_,h,_⟩:=h;obtain⟨_,_,_,_,_,_,_,_,_,_,h,_⟩:=h;exact h.elim
theorem apE{W:World}{a:Option Addr}{h q:Nat}{fuel:Nat}{H:Type}{enc:TypeId×Value->H}{d:DataW H}{p:List MemPlace}(t:DataW.trod enc M W 0 (fun _=>true) true fuel 22 [.slice a h q]=some (d,p)):Code W.heap.size W a h:=by
 rcases open_ints Tryz.underlying22 Tryz.underlying5 (by kernel_rfl) t with⟨b,_⟩|⟨x,C,y,o,b,_,A,B,e,_,l,v⟩
 ·simp at b;exact .inl b.2.1
 ·simp at b;obtain⟨rfl,rfl,rfl⟩:=b;rcases qI h with r|hpos
  ·exact .inl r
  ·obtain⟨c,i,w⟩:=x;have k:=l 0 (by simp at e;omega);have u:w=none:=by simpa [Addr.add] using World.cell?_spot k
   subst u;have j:∀g,(⟨c,i,none⟩:Addr).add g=⟨c,i+g,none⟩:=fun g=>by unfold Addr.add;split<;>simp_all
   refine .inr ⟨c,i,rfl,?_,fun f z=>?_⟩
   ·have:=Ca W _ k;rw[j]at this;exact this
   ·have m:=l f (by simp at e;omega);rw[j]at m;have s:=bounds_u8 (v (o.getD f 0) (by
     have n:f<o.length:=by simp at e;omega
     rw[List.getD,aE n];exact oe n))
    exact⟨_,s.1,by omega,m⟩
theorem arf:Tryz.prog.globalNamed "strings.asciiSpace" =some 4:=by kernel_rfl
theorem apF{W:World}(a:laidMetH M [("strings.asciiSpace",Rows.laid_strings_asciiSpace)] W):Lib.TabIs M W "strings.asciiSpace" .u8 Lib.asciiSpaceTab:=by
 rw[MakeChecks.laidMetH_plain _ _ _ (by kernel_rfl)]at a;have b:laidMet M [("strings.asciiSpace",Lib.tabData .u8 Lib.asciiSpaceTab)] W:=a;exact Lib.tabIs_of_head arf (t:=269) (by kernel_rfl) Tryz.underlying269 Tryz.underlying5 (by kernel_rfl) (by kernel_rfl) b
theorem afc(os:Os)(ar:os.Started)(H:Type)(enc:TypeId×Value->H):
  ReturnsInHanded {} Tryz.checked os 3 .any (fun w args=>(Rows.fnNextSpec.pre enc M Tryz.f3 [] false w args/\laidMetH M Rows.fnNextRow.laid w)/\sizedMet enc M Tryz.f3 (OpenSpec.ofChange Rows.fnNextSpec) false w args)
   (Rows.fnNextSpec.post enc M Tryz.f3 false true false false):=by
 refine returnsInHanded_of_change_and (C:=Tryz.checked) (X:=fun w _=>laidMetH M Rows.fnNextRow.laid w) (fun _ _ _ af h=>h.of_heap af) own ar (by kernel_rfl) Tryz.func3
  (ChangeSpec.witness_shaped (enc:=enc) (C:=Tryz.checked) (os:=os) (X:=fun w _=>laidMetH M Rows.fnNextRow.laid w) false (World.doorLaid M 126 os) #[.slice none 0 0] 8 rfl (World.shaped_of_RefB (by kernel_rfl) (by kernel_rfl)) (by kernel_rfl) (by kernel_rfl) (by kernel_rfl) (JE os _)) ?_
 intro a A args B bd a2 u r _ _ g _;have s:∀(x:Nat) t v,Tryz.f3.params[x]?=some t->args[x]?=some v->Value.okWide M a .any A t v:=u;have K:=r;obtain⟨am,ao,o,q,rfl,bh,bk⟩:=r;have n:DataW.TrodAll enc M a 0 (fun _=>true) true Tryz.f3.params.toList args.toList B am:=o;rw[Tryz.params3]at n s;obtain⟨z,bs,a4,a5,an,br,be,rfl,rfl,f,ap⟩:=trodAll_cons n;obtain⟨rfl,rfl,rfl⟩:=trodAll_nil ap;obtain rfl:args=#[z]:=by cases args;simp_all
 obtain⟨a7,a8,a9,bb,rfl⟩:=afb q;have y:=f;have ak:∀b∈an,b.block<a.heap.size:=by obtain⟨al,l⟩:=y;exact DataW.trod_lt al _ _ _ l
 obtain⟨d,c,m,rfl⟩:=okWide_slice Tryz.underlying22 (s 0 22 z rfl rfl);have L:Code a.heap.size a d c:=by obtain⟨F,k⟩:=f;exact apE k
 have ag:c<=9223372036854775807:=by
  obtain⟨F,k⟩:=f;rcases open_ints Tryz.underlying22 Tryz.underlying5 (by kernel_rfl) k with⟨j,_⟩|⟨b,bo,a3,bt,j,_,bj,l,bn,_,bf,bl⟩
  ·simp[Value.cells]at j;omega
  ·simp[Value.cells]at j;unfold maxLen at l;omega
 have p:Fy a:=apj (g.filter fun b=>b.1 != "loop.example/warp/impl.powers" &&b.1 != "unicode.White_Space" &&b.1 != "strings.asciiSpace");obtain⟨av,E,J⟩:=alI (g.filter fun b=>b.1== "loop.example/warp/impl.powers");have I:=apF (g.filter fun b=>b.1== "strings.asciiSpace");clear o u;have G:12<=a.heap.size:=by
  have i:=p.brj;unfold World.cell? at i;rcases aH 11 a.heap.size with h|h
  ·exact h
  ·rw[yi h]at i;simp at i
 refine(abK a d c m ag ⟨p,G,⟨av,E,J⟩,I⟩ (fun h=>apv a d c m h L)).mono fun a6 a1 ⟨ad,e⟩=>?_;subst ad;exact⟨_,rfl,_,_,_,[],_,ao,K,trodAll_mk1 (shut_bool Tryz.underlying4 _),(trodAll_cons_mk (Below.trod adw (by kernel_rfl) (aG (by kernel_rfl)) y e ak) trodAll_mk0),Below.trodVars adw e (by kernel_rfl) q,e.frame _,fun h=>by cases h⟩
