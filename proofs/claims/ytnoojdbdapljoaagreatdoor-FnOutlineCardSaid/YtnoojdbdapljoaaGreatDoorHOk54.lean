import Derived.Test.YtnoojdbdapljoaaGreatDoorHOk53
import Derived.Test.YtnoojdbdapljoaaGreatDoorTie
import Derived.Test.YtnoojdbdapljoaaGreatDoorCards
import Derived.Lib.SmallJoins
set_option linter.all false
set_option maxRecDepth 100000
open Go.Proofs.Tryz renaming prog->M
namespace Go.Proofs.YtnoojdbdapljoaaGreatDoor
open Go.ChangeShapes Go.WideShapes Go.ChangeAt Go.WideMaps Go.WideElems Go.RowKit
theorem aho:Tryz.prog.globalNamed "internal/strconv.uint64pow10" =some 1:=by kernel_rfl
theorem ajn{a:World}(h:laidMetH M [("math/bits.deBruijn32tab",Rows.laid_math_bits_deBruijn32tab),("math/bits.deBruijn64tab",Rows.laid_math_bits_deBruijn64tab),("internal/strconv.uint64pow10",Rows.laid_internal_strconv_uint64pow10),("strconv.ErrRange",Rows.laid_strconv_ErrRange),("strconv.ErrSyntax",Rows.laid_strconv_ErrSyntax),("unicode.White_Space",Rows.laid_unicode_White_Space),("strings.asciiSpace",Rows.laid_strings_asciiSpace),("loop.example/warp/impl.wordTexts",Rows.laid_loop_example_warp_impl_wordTexts)] a):Lib.TabIs M a "internal/strconv.uint64pow10" .u64 Lib.pow10Tab:=by
 have b:laidMetH M [("internal/strconv.uint64pow10",Rows.laid_internal_strconv_uint64pow10)] a:=h.filter fun d=>d.1== "internal/strconv.uint64pow10";rw[MakeChecks.laidMetH_plain _ _ _ (by kernel_rfl)]at b;have c:laidMet M [("internal/strconv.uint64pow10",Lib.tabData .u64 Lib.pow10Tab)] a:=b;exact Lib.tabIs_of_head aho (t:=211) (by kernel_rfl) Tryz.underlying211 Tryz.underlying48 (by kernel_rfl) (by kernel_rfl) c
theorem akJ{c:World}{a:Option Addr}{i cap:Nat}{fuel:Nat}{H:Type}{enc:TypeId×Value->H}{d:DataW H}{p:List MemPlace}(t:DataW.trod enc M c 0 (fun _=>true) true fuel 22 [.slice a i cap]=some (d,p)):Code c.heap.size c a i:=by
 rcases open_ints Tryz.underlying22 Tryz.underlying5 (by kernel_rfl) t with⟨b,_⟩|⟨x,C,y,q,b,_,A,B,f,_,m,v⟩
 ·simp at b;exact .inl b.2.1
 ·simp at b;obtain⟨rfl,rfl,rfl⟩:=b;rcases li i with r|hpos
  ·exact .inl r
  ·obtain⟨e,j,w⟩:=x;have l:=m 0 (by simp at f;omega);have u:w=none:=by simpa [Addr.add] using World.cell?_spot l
   subst u;have k:∀h,(⟨e,j,none⟩:Addr).add h=⟨e,j+h,none⟩:=fun h=>by unfold Addr.add;split<;>simp_all
   refine .inr ⟨e,j,rfl,?_,fun g z=>?_⟩
   ·have:=Ct c _ l;rw[k]at this;exact this
   ·have n:=m g (by simp at f;omega);rw[k]at n;have s:=bounds_u8 (v (q.getD g 0) (by
     have o:g<q.length:=by simp at f;omega
     rw[List.getD,aI o];exact yv o))
    exact⟨_,s.1,by omega,n⟩
theorem D8(os:Os)(args:Array Value):laidMetH M Rows.fnOutlineRow.laid ((World.doorLaid M 91 os).forCall (fun _ _=>0) ⟨#[],args,[]⟩).memory:=
 laidMetH_of_parts3 (fuel:=8) (laidMet_of_run' 8 (by kernel_rfl) (by kernel_rfl)) (by kernel_rfl) (by kernel_rfl)
theorem IF(os:Os)(av:os.Started)(H:Type)(enc:TypeId×Value->H):
  ReturnsInHanded {} Tryz.checked os 3 .any (fun w args=>(Rows.fnOutlineSpec.pre enc M Tryz.f3 [] false w args/\laidMetH M Rows.fnOutlineRow.laid w)/\sizedMet enc M Tryz.f3 (OpenSpec.ofChange Rows.fnOutlineSpec) false w args)
   (Rows.fnOutlineSpec.post enc M Tryz.f3 false true false false):=by
 refine returnsInHanded_of_change_and (C:=Tryz.checked) (X:=fun w _=>laidMetH M Rows.fnOutlineRow.laid w) (fun _ _ _ ad c=>c.of_heap ad) own av (by kernel_rfl) Tryz.func3
  (ChangeSpec.witness_shaped (enc:=enc) (C:=Tryz.checked) (os:=os) (X:=fun w _=>laidMetH M Rows.fnOutlineRow.laid w) false (World.doorLaid M 91 os) #[.slice none 0 0] 8 rfl (World.shaped_of_RefB (by kernel_rfl) (by kernel_rfl)) (by kernel_rfl) (by kernel_rfl) (by kernel_rfl) (D8 os _)) ?_
 intro a A args E a9 a3 r p _ _ n _;have q:∀(s:Nat) t v,Tryz.f3.params[s]?=some t->args[s]?=some v->Value.okWide M a .any A t v:=r;have J:=p;obtain⟨an,ap,m,o,rfl,bf,bn⟩:=p;have l:DataW.TrodAll enc M a 0 (fun _=>true) true Tryz.f3.params.toList args.toList E an:=m;rw[Tryz.params3]at l q;obtain⟨x,bt,a5,a6,ao,bs,bb,rfl,rfl,d,ar⟩:=trodAll_cons l;obtain⟨rfl,rfl,rfl⟩:=trodAll_nil ar;obtain rfl:args=#[x]:=by cases args;simp_all
 obtain⟨_,_,_,_,a8,_,rfl,_⟩:=trodVars_one o;obtain⟨k,j,B,rfl⟩:=okWide_slice Tryz.underlying22 (q 0 22 x rfl rfl);have u:=d;have ak:∀y∈ao,y.block<a.heap.size:=by obtain⟨am,i⟩:=u;exact DataW.trod_lt am _ _ _ i
 have K:Code a.heap.size a k j:=by obtain⟨G,h⟩:=d;exact akJ h
 have af:j<=9223372036854775807:=by
  obtain⟨G,h⟩:=d;rcases open_ints Tryz.underlying22 Tryz.underlying5 (by kernel_rfl) h with⟨g,_⟩|⟨y,br,a4,bw,g,_,bl,i,bp,_,bd,bo⟩
  ·simp[Value.cells]at g;omega
  ·simp[Value.cells]at g;unfold maxLen at i;omega
 have e:=IE n;obtain⟨a1,F,I⟩:=e.wrd;clear m r;refine(D7 a k j B af (fun _=>K) ⟨e.errs,⟨a1,F,I⟩,fun z f=>Gs akh e.asc f,fun z f=>Gs aho (ajn n) f⟩).mono fun a7 a2 ⟨L,b⟩=>?_;subst L;exact⟨_,rfl,_,_,_,[],_,ap,J,trodAll_mk1 (shut_bool Tryz.underlying4 _),(trodAll_cons_mk (Below.trod Js (by kernel_rfl) (bc (by kernel_rfl)) u b ak) trodAll_mk0),Below.trodVars Js b (by kernel_rfl) o,b.frame _,fun c=>by cases c⟩
theorem Bw:Rows.FnOutlineSaid:=
 OpenClaim.holds_of_wide 3 Tryz.f3 rfl rfl rfl rfl rfl rfl rfl ⟨rfl,rfl,rfl,rfl,rfl⟩ rfl rfl rfl rfl rfl (by kernel_rfl) Tryz.func3 (by kernel_rfl)
  (bc (by kernel_rfl)) (by unfold Func.isWrapper;first|(rw[ab (by decide+kernel)];kernel_rfl)|(rw[aa (by decide+kernel)];exact⟨rfl,rfl⟩))
  (fun c d a b _=>IF c d a b)
theorem fnOutline_holds:Rows.FnOutlineCardSaid:=
 Claim7.holds_tied_plain_at .later [] Rows.fnOutlineCard.laidKinds true Rows.fnOutlineCard.stood.harness true
  Bw (fun _ a=>by cases a) (by kernel_rfl) (fun _ a=>by cases a) fnOutline_row_tie rfl ⟨rfl,rfl⟩ (by kernel_rfl) rfl
  (fun d e g h=>by
   obtain rfl:d=3:=db ((show Tryz.prog.funcNamed Rows.fnOutlineRow.func=some 3 by kernel_rfl).symm.trans g) |>.symm;obtain rfl:e=Tryz.f3:=(db (Tryz.func3.symm.trans h)).symm;exact⟨by kernel_rfl,fun k b c=>by
    rw[Tryz.params3]at c;have i:b∈[22]:=by simpa using Array.mem_of_getElem? c
    have f:([22].all fun j=>!Tryz.prog.wantsStandIn j)=true:=by kernel_rfl
    exact(show Tryz.prog.wantsStandIn b=false by simpa using List.all_eq_true.1 f b i)⟩)
  (by kernel_rfl)
#print axioms fnOutline_holds
