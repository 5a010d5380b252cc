import Derived.Test.YthjpdjibdnecoaaGreatDoorHQk53
import Derived.Lib.SmallJoins
import Derived.Test.YthjpdjibdnecoaaGreatDoorHQk54
import Derived.Test.YthjpdjibdnecoaaGreatDoorHQk55
set_option linter.all false
set_option maxRecDepth 100000
open Go.Proofs.Tryz renaming prog->M
namespace Go.Proofs.YthjpdjibdnecoaaGreatDoor
open Go.ChangeMaps (open_string shut_string)
open Go.ChangeShapes Go.WideShapes Go.ChangeAt Go.WideMaps Go.WideElems Go.RowKit
theorem yj{H:Type}{enc:TypeId×Value->H}{P:Program}{w:World}{b:Nat->Bool}:∀(ns:List String)(a:List (DataW H))(ps:List MemPlace),DataW.TrodVars enc P w b ns a ps->a.length=ns.length
 |[],[],_,_=>rfl
 |[],_::_,_,h=>by cases h
 |_::_,[],_,h=>by cases h
 |_::ns,_::a,_,h=>by
  obtain⟨_,_,_,_,_,_,_,_,_,_,h,_⟩:=h;rw[bv,bv,yj ns a _ h]
theorem al8:Tryz.prog.globalNamed "strings.asciiSpace" =some 8:=by kernel_rfl
theorem aks{W:World}(a:laidMetH M [("strings.asciiSpace",Rows.laid_strings_asciiSpace)] W):Lib.TabIs M W "strings.asciiSpace" .u8 Lib.asciiSpaceTab:=by
 rw[MakeChecks.laidMetH_plain _ _ _ (by kernel_rfl)]at a;have b:laidMet M [("strings.asciiSpace",Lib.tabData .u8 Lib.asciiSpaceTab)] W:=a;exact Lib.tabIs_of_head al8 (t:=293) (by kernel_rfl) Tryz.underlying293 Tryz.underlying5 (by kernel_rfl) (by kernel_rfl) b
theorem dq0(os:Os):(World.doorLaid M 400 os).os=os:=by kernel_rfl
theorem Li(os:Os)(a1:os.Started)(H:Type)(enc:TypeId×Value->H):
  ReturnsInHanded {} Tryz.checked os 3 .any (fun w args=>(Rows.fnExactAnswerSpec.pre enc M Tryz.f3 [] false w args/\laidMetH M Rows.fnExactAnswerRow.laid w)/\sizedMet enc M Tryz.f3 (OpenSpec.ofChange Rows.fnExactAnswerSpec) false w args)
   (Rows.fnExactAnswerSpec.post enc M Tryz.f3 false true false false):=by
 refine returnsInHanded_of_change_and (C:=Tryz.checked) (X:=fun w _=>laidMetH M Rows.fnExactAnswerRow.laid w) (fun _ _ _ af h=>h.of_heap af) own a1 (by kernel_rfl) Tryz.func3
  (ChangeSpec.witness_shaped (enc:=enc) (C:=Tryz.checked) (os:=os) (X:=fun w _=>laidMetH M Rows.fnExactAnswerRow.laid w) false (World.doorLaid M 400 os) #[.string ⟨#[]⟩] 8 (dq0 os) (World.shaped_of_RefB (dq1 os) (dq2 os)) (dq3 os) (dq4 os enc) (dq5 os enc) (Fu os _)) ?_
 intro c B args E m a6 u r _ _ b _;have s:∀(x:Nat) t v,Tryz.f3.params[x]?=some t->args[x]?=some v->Value.okWide M c .any B t v:=u;have L:=r;obtain⟨ao,ar,p,q,rfl,bd,bh⟩:=r;have o:DataW.TrodAll enc M c 0 (fun _=>true) true Tryz.f3.params.toList args.toList E ao:=p;rw[Tryz.params3]at o s;obtain⟨z,bo,a7,a8,ap,bl,bb,rfl,rfl,n,av⟩:=trodAll_cons o;obtain⟨rfl,rfl,rfl⟩:=trodAll_nil av;obtain rfl:args=#[z]:=by cases args;simp_all
 obtain⟨e,f,g,i,j,rfl⟩:∃e f g i j,m=[e,f,g,i,j]:=by
  have ak:=yj _ _ _ q
  match m,ak with
  |[e,f,g,i,j],_=>exact⟨e,f,g,i,j,rfl⟩
 have y:=n;have am:∀a∈ap,a.block<c.heap.size:=by obtain⟨an,al⟩:=y;exact DataW.trod_lt an _ _ _ al
 obtain⟨A,rfl,rfl,rfl,a3⟩:=open_string Tryz.underlying9 (s 0 9 z rfl rfl) n;have l:Hg c:=ahm (b.filter fun a=>a.1== "loop.example/warp/impl.wordTexts") (b.filter fun a=>a.1== "loop.example/warp/impl.markTexts") (b.filter fun a=>a.1== "loop.example/warp/impl.binaryTexts") (b.filter fun a=>a.1== "strconv.ErrSyntax") (b.filter fun a=>a.1== "strconv.ErrRange") (b.filter fun a=>a.1== "internal/strconv.uint64pow10") (b.filter fun a=>a.1== "math/bits.deBruijn64tab");have I:AnL c:=⟨am0 (b.filter fun a=>a.1== "errors.errorType"),amL (b.filter fun a=>a.1== "loop.example/warp/impl.errLarge")⟩;obtain⟨a2,F,K⟩:=ahp (b.filter fun a=>a.1== "loop.example/warp/impl.powers");have J:=aks (b.filter fun a=>a.1== "strings.asciiSpace");clear p u;have G:14<=c.heap.size:=by
  obtain⟨_,bn,bk,d⟩:=l.errs;unfold World.cell? at d;rcases co 13 c.heap.size with h|h
  ·exact h
  ·rw[tE h]at d;simp at d
 refine(Ji c A (by unfold maxLen at a3;omega) ⟨l,G,⟨a2,F,K⟩,J⟩ I (fun a5 d=>qu l.pow d (ae _))).mono fun a9 a4 ⟨ad,k⟩=>?_;subst ad;exact⟨_,rfl,_,_,_,[],_,ar,L,trodAll_mk1 (shut_bool Tryz.underlying4 _),(trodAll_cons_mk (Below.trod Ly (by kernel_rfl) (aC (by kernel_rfl)) y k am) trodAll_mk0),Below.trodVars Ly k (by kernel_rfl) q,k.frame _,fun h=>by cases h⟩
theorem yk:Rows.FnExactAnswerSaid:=
 OpenClaim.holds_of_wide 3 Tryz.f3 rfl rfl rfl rfl rfl rfl rfl ⟨rfl,rfl,rfl,rfl,rfl⟩ rfl rfl rfl rfl rfl (by kernel_rfl) Tryz.func3 ann
  (aC (by kernel_rfl)) (by unfold Func.isWrapper;first|(rw[ab (by decide+kernel)];kernel_rfl)|(rw[aa (by decide+kernel)];exact⟨rfl,rfl⟩))
  (fun c d a b _=>Li c d a b)
theorem fnExactAnswer_holds:Rows.FnExactAnswerCardSaid:=
 Claim7.holds_tied_plain_at .later [] Rows.fnExactAnswerCard.laidKinds true Rows.fnExactAnswerCard.stood.harness true
  yk (fun _ a=>by cases a) (by kernel_rfl) (fun _ a=>by cases a) (OpenClaim.laidByTextAt_later rfl rfl amw (by kernel_rfl)) rfl ⟨rfl,rfl⟩ (by kernel_rfl) rfl
  (fun d e g h=>by
   obtain rfl:d=3:=bu ((show Tryz.prog.funcNamed Rows.fnExactAnswerRow.func=some 3 by kernel_rfl).symm.trans g) |>.symm;obtain rfl:e=Tryz.f3:=(bu (Tryz.func3.symm.trans h)).symm;exact⟨by kernel_rfl,fun k b c=>by
    rw[Tryz.params3]at c;have i:b∈[9]:=by simpa using Array.mem_of_getElem? c
    have f:([9].all fun j=>!Tryz.prog.wantsStandIn j)=true:=by kernel_rfl
    exact(show Tryz.prog.wantsStandIn b=false by simpa using List.all_eq_true.1 f b i)⟩)
  (by kernel_rfl)
#print axioms fnExactAnswer_holds
