import Derived.Test.YtkdijoogonigpaaGreatDoorHUk53
import Derived.Test.YtkdijoogonigpaaGreatDoorTie
import Derived.Test.YtkdijoogonigpaaGreatDoorCards
import Derived.Lib.SmallJoins
set_option linter.all false
set_option maxRecDepth 100000
open Go.Proofs.Tryz renaming prog->M
namespace Go.Proofs.YtkdijoogonigpaaGreatDoor
open Go.ChangeShapes Go.WideShapes Go.ChangeAt Go.WideMaps Go.WideElems Go.RowKit
theorem aeF{c:World}{a:Option Addr}{i r:Nat}{fuel:Nat}{H:Type}{enc:TypeId×Value->H}{d:DataW H}{p:List MemPlace}(u:DataW.trod enc M c 0 (fun _=>true) true fuel 22 [.slice a i r]=some (d,p)):Code c.heap.size c a i:=by
 rcases open_ints Tryz.underlying22 Tryz.underlying5 (by kernel_rfl) u with⟨b,_⟩|⟨y,E,z,q,b,_,B,C,f,_,m,w⟩
 ·simp at b;exact .inl b.2.1
 ·simp at b;obtain⟨rfl,rfl,rfl⟩:=b;rcases jk i with s|hpos
  ·exact .inl s
  ·obtain⟨e,j,x⟩:=y;have l:=m 0 (by simp at f;omega);have v:x=none:=by simpa [Addr.add] using World.cell?_spot l
   subst v;have k:∀h,(⟨e,j,none⟩:Addr).add h=⟨e,j+h,none⟩:=fun h=>by unfold Addr.add;split<;>simp_all
   refine .inr ⟨e,j,rfl,?_,fun g A=>?_⟩
   ·have:=qB c _ l;rw[k]at this;exact this
   ·have n:=m g (by simp at f;omega);rw[k]at n;have t:=bounds_u8 (w (q.getD g 0) (by
     have o:g<q.length:=by simp at f;omega
     rw[List.getD,aF o];exact lG o))
    exact⟨_,t.1,by omega,n⟩
theorem AD(os:Os)(args:Array Value):laidMetH M Rows.fnTokensRow.laid ((World.doorLaid M 77 os).forCall (fun _ _=>0) ⟨#[],args,[]⟩).memory:=
 laidMetH_of_parts3 (fuel:=8) (laidMet_of_run' 8 (by kernel_rfl) (by kernel_rfl)) (by kernel_rfl) (by kernel_rfl)
theorem Ek(os:Os)(av:os.Started)(H:Type)(enc:TypeId×Value->H):
  ReturnsInHanded {} Tryz.checked os 3 .any (fun w args=>(Rows.fnTokensSpec.pre enc M Tryz.f3 [] false w args/\laidMetH M Rows.fnTokensRow.laid w)/\sizedMet enc M Tryz.f3 (OpenSpec.ofChange Rows.fnTokensSpec) false w args)
   (Rows.fnTokensSpec.post enc M Tryz.f3 false true false false):=by
 refine returnsInHanded_of_change_and (C:=Tryz.checked) (X:=fun w _=>laidMetH M Rows.fnTokensRow.laid w) (fun _ _ _ K h=>h.of_heap K) own av (by kernel_rfl) Tryz.func3
  (ChangeSpec.witness_shaped (enc:=enc) (C:=Tryz.checked) (os:=os) (X:=fun w _=>laidMetH M Rows.fnTokensRow.laid w) false (World.doorLaid M 77 os) #[.slice none 0 0] 8 rfl (World.shaped_of_RefB (by kernel_rfl) (by kernel_rfl)) (by kernel_rfl) (by kernel_rfl) (by kernel_rfl) (AD os _)) ?_
 intro a z args A bb a2 r p _ _ F _;have q:∀(s:Nat) t v,Tryz.f3.params[s]?=some t->args[s]?=some v->Value.okWide M a .any z t v:=r;have G:=p;obtain⟨al,an,m,o,rfl,bj,bn⟩:=p;have l:DataW.TrodAll enc M a 0 (fun _=>true) true Tryz.f3.params.toList args.toList A al:=m;rw[Tryz.params3]at l q;obtain⟨x,bt,a4,a5,am,bs,bd,rfl,rfl,e,ap⟩:=trodAll_cons l;obtain⟨rfl,rfl,rfl⟩:=trodAll_nil ap;obtain rfl:args=#[x]:=by cases args;simp_all
 obtain⟨a7,a8,a9,rfl⟩:=G1 o;have u:=e;have af:∀y∈am,y.block<a.heap.size:=by obtain⟨ak,j⟩:=u;exact DataW.trod_lt ak _ _ _ j
 obtain⟨c,b,k,rfl⟩:=okWide_slice Tryz.underlying22 (q 0 22 x rfl rfl);have I:Code a.heap.size a c b:=by obtain⟨B,i⟩:=e;exact aeF i
 have L:b<=9223372036854775807:=by
  obtain⟨B,i⟩:=e;rcases open_ints Tryz.underlying22 Tryz.underlying5 (by kernel_rfl) i with⟨g,_⟩|⟨y,br,a3,bw,g,_,bl,j,bp,_,bf,bo⟩
  ·simp[Value.cells]at g;omega
  ·simp[Value.cells]at g;unfold maxLen at j;omega
 have n:=ad1 F;clear m r;have E:8<=a.heap.size:=by
  have f:=n.brj;unfold World.cell? at f;rcases be 7 a.heap.size with h|h
  ·exact h
  ·rw[qx h]at f;simp at f
 refine(CI a c b k L n E (fun h=>aab a c b k h I)).mono fun a6 a1 ⟨J,d⟩=>?_;subst J;exact⟨_,rfl,_,_,_,[],_,an,G,trodAll_mk1 (shut_bool Tryz.underlying4 _),(trodAll_cons_mk (Below.trod EJ (by kernel_rfl) (aI (by kernel_rfl)) u d af) trodAll_mk0),Below.trodVars EJ d (by kernel_rfl) o,d.frame _,fun h=>by cases h⟩
theorem AE:Rows.FnTokensSaid:=
 OpenClaim.holds_of_wide 3 Tryz.f3 rfl rfl rfl rfl rfl rfl rfl ⟨rfl,rfl,rfl,rfl,rfl⟩ rfl rfl rfl rfl rfl (by kernel_rfl) Tryz.func3 (by kernel_rfl)
  (aI (by kernel_rfl)) (by unfold Func.isWrapper;first|(rw[ab (by decide+kernel)];kernel_rfl)|(rw[aa (by decide+kernel)];exact⟨rfl,rfl⟩))
  (fun c d a b _=>Ek c d a b)
theorem fnTokens_holds:Rows.FnTokensCardSaid:=
 Claim7.holds_tied_plain_at .later [] Rows.fnTokensCard.laidKinds true Rows.fnTokensCard.stood.harness true
  AE (fun _ a=>by cases a) (by kernel_rfl) (fun _ a=>by cases a) fnTokens_row_tie rfl ⟨rfl,rfl⟩ (by kernel_rfl) rfl
  (fun d e g h=>by
   obtain rfl:d=3:=dr ((show Tryz.prog.funcNamed Rows.fnTokensRow.func=some 3 by kernel_rfl).symm.trans g) |>.symm;obtain rfl:e=Tryz.f3:=(dr (Tryz.func3.symm.trans h)).symm;exact⟨by kernel_rfl,fun k b c=>by
    rw[Tryz.params3]at c;have i:b∈[22]:=by simpa using Array.mem_of_getElem? c
    have f:([22].all fun j=>!Tryz.prog.wantsStandIn j)=true:=by kernel_rfl
    exact(show Tryz.prog.wantsStandIn b=false by simpa using List.all_eq_true.1 f b i)⟩)
  (by kernel_rfl)
#print axioms fnTokens_holds
