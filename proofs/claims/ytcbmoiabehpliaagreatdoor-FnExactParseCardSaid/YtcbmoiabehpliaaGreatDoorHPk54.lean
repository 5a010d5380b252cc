import Derived.Test.YtcbmoiabehpliaaGreatDoorHPk49
import Derived.Test.YtcbmoiabehpliaaGreatDoorHPk10
import Derived.Test.YtcbmoiabehpliaaGreatDoorHPk53
import Derived.Test.YtcbmoiabehpliaaGreatDoorTie
import Derived.Test.YtcbmoiabehpliaaGreatDoorCards
import Derived.SevenTiedAt
import Derived.Lib.SmallJoins
import Derived.Lib.LaidTab
import Derived.Shelf.Strings.Fields
set_option linter.unusedVariables false
set_option maxRecDepth 100000
namespace Go.Proofs.YtcbmoiabehpliaaGreatDoor
open Go.ChangeMaps (open_string shut_string)
open Go.ChangeShapes Go.WideShapes Go.ChangeAt Go.WideMaps Go.WideElems Go.RowKit
theorem Ad{H:Type}{enc:TypeId×Value->H}{P:Program}{w:World}{l:Nat->Bool}{a b c j:String}{f:List (DataW H)}{k:List MemPlace}(h:DataW.TrodVars enc P w l [a,b,c,j] f k):∃e d i g,f=[e,d,i,g]:=by
 match f,h with
 |[e,d,i,g],_=>exact⟨e,d,i,g,rfl⟩
 |[],h=>exact h.elim
 |[_],h=>obtain⟨_,_,_,_,_,_,_,_,_,_,h,_⟩:=h;exact h.elim
 |[_,_],h=>obtain⟨_,_,_,_,_,_,_,_,_,_,h,_⟩:=h;obtain⟨_,_,_,_,_,_,_,_,_,_,h,_⟩:=h;exact h.elim
 |[_,_,_],h=>obtain⟨_,_,_,_,_,_,_,_,_,_,h,_⟩:=h;obtain⟨_,_,_,_,_,_,_,_,_,_,h,_⟩:=h;obtain⟨_,_,_,_,_,_,_,_,_,_,h,_⟩:=h;exact h.elim
 |_::_::_::_::_::_,h=>obtain⟨_,_,_,_,_,_,_,_,_,_,h,_⟩:=h;obtain⟨_,_,_,_,_,_,_,_,_,_,h,_⟩:=h;obtain⟨_,_,_,_,_,_,_,_,_,_,h,_⟩:=h;obtain⟨_,_,_,_,_,_,_,_,_,_,h,_⟩:=h;exact h.elim
theorem JG:Tryz.prog.globalNamed "strings.asciiSpace" =some 4:=by kernel_rfl
theorem Iy{W:World}(a:laidMetH Tryz.prog [("strings.asciiSpace",Rows.laid_strings_asciiSpace)] W):Lib.TabIs Tryz.prog W "strings.asciiSpace" .u8 Lib.asciiSpaceTab:=by
 rw[MakeChecks.laidMetH_plain _ _ _ (by kernel_rfl)]at a;have b:laidMet Tryz.prog [("strings.asciiSpace",Lib.tabData .u8 Lib.asciiSpaceTab)] W:=a;exact Lib.tabIs_of_head JG (t:=252) (by kernel_rfl) Tryz.underlying252 Tryz.underlying5 (by kernel_rfl) (by kernel_rfl) b
theorem sG(os:Os)(u:os.Started)(H:Type)(enc:TypeId×Value->H):
  ReturnsInHanded {} Tryz.checked os 3 .any (fun w args=>(Rows.fnExactParseSpec.pre enc Tryz.prog Tryz.f3 [] false w args/\laidMetH Tryz.prog Rows.fnExactParseRow.laid w)/\sizedMet enc Tryz.prog Tryz.f3 (OpenSpec.ofChange Rows.fnExactParseSpec) false w args)
   (Rows.fnExactParseSpec.post enc Tryz.prog Tryz.f3 false true false false):=by
 refine returnsInHanded_of_change_and (C:=Tryz.checked) (X:=fun w _=>laidMetH Tryz.prog Rows.fnExactParseRow.laid w) (fun _ _ _ A h=>h.of_heap A) own u (by kernel_rfl) Tryz.func3
  (ChangeSpec.witness_shaped (enc:=enc) (C:=Tryz.checked) (os:=os) (X:=fun w _=>laidMetH Tryz.prog Rows.fnExactParseRow.laid w) false (World.doorLaid Tryz.prog 126 os) #[.string ⟨#[]⟩] 8 rfl (World.shaped_of_RefB (by kernel_rfl) (by kernel_rfl)) (by kernel_rfl) (by kernel_rfl) (by kernel_rfl) (nW os _)) ?_
 intro b x args s af ar p l _ _ e _;have j:∀(g:Nat) t v,Tryz.f3.params[g]?=some t->args[g]?=some v->Value.okWide Tryz.prog b .any x t v:=p;have y:=l;obtain⟨r,F,n,m,rfl,W,Y⟩:=l;have k:DataW.TrodAll enc Tryz.prog b 0 (fun _=>true) true Tryz.f3.params.toList args.toList s r:=n;rw[Tryz.params3]at k j;obtain⟨f,ak,U,al,z,am,ao,rfl,rfl,i,Q⟩:=trodAll_cons k;obtain⟨rfl,rfl,rfl⟩:=trodAll_nil Q;obtain rfl:args=#[f]:=by cases args;simp_all
 obtain⟨T,S,V,an,rfl⟩:=Ad m;have q:=i;have I:∀a∈z,a.block<b.heap.size:=by obtain⟨K,G⟩:=q;exact DataW.trod_lt K _ _ _ G
 obtain⟨N,rfl,rfl,rfl,L⟩:=open_string Tryz.underlying9 (j 0 9 f rfl rfl) i;have o:tO b:=H7 (e.filter fun a=>a.1 != "loop.example/warp/impl.powers" &&a.1 != "unicode.White_Space" &&a.1 != "strings.asciiSpace");obtain⟨E,M,B⟩:=Fq (e.filter fun a=>a.1== "loop.example/warp/impl.powers");have O:=Iy (e.filter fun a=>a.1== "strings.asciiSpace");clear n p;have J:12<=b.heap.size:=by
  have d:=o.brj;unfold World.cell? at d;rcases Nat.lt_or_ge 11 b.heap.size with h|h
  ·exact h
  ·rw[Array.getElem?_eq_none h]at d;simp at d
 refine(xu b N (by unfold maxLen at L;omega) ⟨o,J,⟨E,M,B⟩,O⟩).mono fun Z ap ⟨R,c⟩=>?_;subst R;exact⟨_,rfl,_,_,_,[],_,F,y,trodAll_mk1 (shut_bool Tryz.underlying4 _),(trodAll_cons_mk (Below.trod xA (by kernel_rfl) (of_decide_eq_true (by kernel_rfl)) q c I) trodAll_mk0),Below.trodVars xA c (by kernel_rfl) m,c.frame _,fun h=>by cases h⟩
theorem lQ:Rows.FnExactParseSaid:=
 OpenClaim.holds_of_wide 3 Tryz.f3 rfl rfl rfl rfl rfl rfl rfl ⟨rfl,rfl,rfl,rfl,rfl⟩ rfl rfl rfl rfl rfl (by kernel_rfl) Tryz.func3 (by kernel_rfl)
  (of_decide_eq_true (by kernel_rfl)) (by unfold Func.isWrapper;first|(rw[if_pos (by decide+kernel)];kernel_rfl)|(rw[if_neg (by decide+kernel)];exact⟨rfl,rfl⟩))
  (fun d c a b _=>sG d c a b)
theorem fnExactParse_holds:Rows.FnExactParseCardSaid:=
 Claim7.holds_tied_plain_at .later [] Rows.fnExactParseCard.laidKinds true Rows.fnExactParseCard.stood.harness true
  lQ (fun _ a=>by cases a) (by kernel_rfl) (fun _ a=>by cases a) fnExactParse_row_tie rfl ⟨rfl,rfl⟩ (by kernel_rfl) rfl
  (fun i h j f=>by
   obtain rfl:i=3:=Option.some.inj ((show Tryz.prog.funcNamed Rows.fnExactParseRow.func=some 3 by kernel_rfl).symm.trans j) |>.symm;obtain rfl:h=Tryz.f3:=(Option.some.inj (Tryz.func3.symm.trans f)).symm;exact⟨by kernel_rfl,fun k b c=>by
    rw[Tryz.params3]at c;have g:b∈[9]:=by simpa using Array.mem_of_getElem? c
    have d:([9].all fun e=>!Tryz.prog.wantsStandIn e)=true:=by kernel_rfl
    exact(show Tryz.prog.wantsStandIn b=false by simpa using List.all_eq_true.1 d b g)⟩)
  (by kernel_rfl)
#print axioms fnExactParse_holds
end Go.Proofs.YtcbmoiabehpliaaGreatDoor
