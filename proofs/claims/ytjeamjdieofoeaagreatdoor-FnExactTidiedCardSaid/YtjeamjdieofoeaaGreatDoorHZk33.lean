import Derived.Test.YtjeamjdieofoeaaGreatDoorHZk07
import Derived.Test.YtjeamjdieofoeaaGreatDoorHZk32
import Derived.Lib.SmallJoins
set_option linter.all false
set_option maxRecDepth 100000
open Go.Proofs.Tryz renaming prog->M
namespace Go.Proofs.YtjeamjdieofoeaaGreatDoor
open Go.ChangeMaps (open_string shut_string)
open Go.ChangeShapes Go.WideShapes Go.ChangeAt Go.WideMaps Go.WideElems Go.RowKit
theorem aeb{H:Type}{enc:TypeId×Value->H}{P:Program}{w:World}{k:Nat->Bool}{a b c j:String}{i:List (DataW H)}{ps:List MemPlace}(h:DataW.TrodVars enc P w k [a,b,c,j] i ps):∃d e f g,i=[d,e,f,g]:=by
 match i,h with
 |[d,e,f,g],_=>exact⟨d,e,f,g,rfl⟩
 |[],h=>exact h.elim
 |[_],h=>obtain⟨_,_,_,_,_,_,_,_,_,_,h,_⟩:=h;exact h.elim
 |[_,_],h=>obtain⟨_,_,_,_,_,_,_,_,_,_,h,_⟩:=h;obtain⟨_,_,_,_,_,_,_,_,_,_,h,_⟩:=h;exact h.elim
 |[_,_,_],h=>obtain⟨_,_,_,_,_,_,_,_,_,_,h,_⟩:=h;obtain⟨_,_,_,_,_,_,_,_,_,_,h,_⟩:=h;obtain⟨_,_,_,_,_,_,_,_,_,_,h,_⟩:=h;exact h.elim
 |_::_::_::_::_::_,h=>obtain⟨_,_,_,_,_,_,_,_,_,_,h,_⟩:=h;obtain⟨_,_,_,_,_,_,_,_,_,_,h,_⟩:=h;obtain⟨_,_,_,_,_,_,_,_,_,_,h,_⟩:=h;obtain⟨_,_,_,_,_,_,_,_,_,_,h,_⟩:=h;exact h.elim
theorem aon:Tryz.prog.globalNamed "strings.asciiSpace" =some 4:=by kernel_rfl
theorem am2{W:World}(a:laidMetH M [("strings.asciiSpace",Rows.laid_strings_asciiSpace)] W):Lib.TabIs M W "strings.asciiSpace" .u8 Lib.asciiSpaceTab:=by
 rw[MakeChecks.laidMetH_plain _ _ _ (by kernel_rfl)]at a;have b:laidMet M [("strings.asciiSpace",Lib.tabData .u8 Lib.asciiSpaceTab)] W:=a;exact Lib.tabIs_of_head aon (t:=275) (by kernel_rfl) Tryz.underlying275 Tryz.underlying5 (by kernel_rfl) (by kernel_rfl) b
theorem aec(os:Os)(ak:os.Started)(H:Type)(enc:TypeId×Value->H):
  ReturnsInHanded {} Tryz.checked os 3 .any (fun w args=>(Rows.fnExactTidiedSpec.pre enc M Tryz.f3 [] false w args/\laidMetH M Rows.fnExactTidiedRow.laid w)/\sizedMet enc M Tryz.f3 (OpenSpec.ofChange Rows.fnExactTidiedSpec) false w args)
   (Rows.fnExactTidiedSpec.post enc M Tryz.f3 false true false false):=by
 refine returnsInHanded_of_change_and (C:=Tryz.checked) (X:=fun w _=>laidMetH M Rows.fnExactTidiedRow.laid w) (fun _ _ _ F h=>h.of_heap F) own ak (by kernel_rfl) Tryz.func3
  (ChangeSpec.witness_shaped (enc:=enc) (C:=Tryz.checked) (os:=os) (X:=fun w _=>laidMetH M Rows.fnExactTidiedRow.laid w) false (World.doorLaid M 126 os) #[.string ⟨#[]⟩] 8 rfl (World.shaped_of_RefB (by kernel_rfl) (by kernel_rfl)) (by kernel_rfl) (by kernel_rfl) (by kernel_rfl) (I5 os _)) ?_
 intro b s args u a5 ao n l _ _ d _;have m:∀(o:Nat) t v,Tryz.f3.params[o]?=some t->args[o]?=some v->Value.okWide M b .any s t v:=n;have B:=l;obtain⟨K,ad,i,k,rfl,a7,a8⟩:=l;have g:DataW.TrodAll enc M b 0 (fun _=>true) true Tryz.f3.params.toList args.toList u K:=i;rw[Tryz.params3]at g m;obtain⟨q,bc,ap,ar,L,ba,a6,rfl,rfl,f,af⟩:=trodAll_cons g;obtain⟨rfl,rfl,rfl⟩:=trodAll_nil af;obtain rfl:args=#[q]:=by cases args;simp_all
 obtain⟨a1,a2,a3,a4,rfl⟩:=aeb k;have p:=f;have I:∀a∈L,a.block<b.heap.size:=by obtain⟨J,G⟩:=p;exact DataW.trod_lt J _ _ _ G
 obtain⟨r,rfl,rfl,rfl,am⟩:=open_string Tryz.underlying9 (m 0 9 q rfl rfl) f;have j:Cw b:=al6 (d.filter fun a=>a.1 != "loop.example/warp/impl.powers" &&a.1 != "unicode.White_Space" &&a.1 != "strings.asciiSpace");obtain⟨al,x,A⟩:=ajx (d.filter fun a=>a.1== "loop.example/warp/impl.powers");have z:=am2 (d.filter fun a=>a.1== "strings.asciiSpace");clear i n;have y:12<=b.heap.size:=by
  obtain⟨_,bb,a9,e⟩:=j.errs;unfold World.cell? at e;rcases bj 11 b.heap.size with h|h
  ·exact h
  ·rw[xk h]at e;simp at e
 refine(Ku b r (by unfold maxLen at am;omega) ⟨j,y,⟨al,x,A⟩,z⟩).mono fun av an ⟨E,c⟩=>?_;subst E;exact⟨_,rfl,_,_,_,[],_,ad,B,trodAll_mk1 (shut_bool Tryz.underlying4 _),(trodAll_cons_mk (Below.trod abb (by kernel_rfl) (aH (by kernel_rfl)) p c I) trodAll_mk0),Below.trodVars abb c (by kernel_rfl) k,c.frame _,fun h=>by cases h⟩
