import Derived.Test.YtoahhnnflblfaaaGreatDoorHVk39
import Derived.Test.YtoahhnnflblfaaaGreatDoorTie
import Derived.Test.YtoahhnnflblfaaaGreatDoorCards
import Derived.Lib.SmallJoins
set_option linter.all false
set_option maxRecDepth 100000
open Go.Proofs.Tryz renaming prog->M
open Bool renaming true->N,false->O
namespace Go.Proofs.YtoahhnnflblfaaaGreatDoor
open Go.ChangeShapes Go.WideShapes Go.ChangeAt Go.WideMaps Go.WideElems Go.RowKit
theorem ajm{c:World}{a:Option Addr}{i cap:Nat}{fuel:Nat}{H:Type}{enc:TypeId×Value->H}{d:DataW H}{p:List MemPlace}(t:DataW.trod enc M c 0 (fun _=>N) N fuel 22 [.slice a i cap]=some (d,p)):Code c.heap.size c a i:=by
 rcases open_ints Tryz.underlying22 Tryz.underlying5 (by kernel_rfl) t with⟨b,_⟩|⟨x,C,y,q,b,_,A,B,f,_,m,v⟩
 ·simp at b;exact .inl b.2.1
 ·simp at b;obtain⟨rfl,rfl,rfl⟩:=b;rcases kL i with r|hpos
  ·exact .inl r
  ·obtain⟨e,j,w⟩:=x;have l:=m 0 (by simp at f;omega);have u:w=none:=by simpa [Addr.add] using World.cell?_spot l
   subst u;have k:∀h,(⟨e,j,none⟩:Addr).add h=⟨e,j+h,none⟩:=fun h=>by unfold Addr.add;split<;>simp_all
   refine .inr ⟨e,j,rfl,?_,fun g z=>?_⟩
   ·have:=D0 c _ l;rw[k]at this;exact this
   ·have n:=m g (by simp at f;omega);rw[k]at n;have s:=bounds_u8 (v (q.getD g 0) (by
     have o:g<q.length:=by simp at f;omega
     rw[List.getD,aE o];exact lG o))
    exact⟨_,s.1,by omega,n⟩
theorem ajn{e:World}{a:Option Addr}{c cap:Nat}{fuel:Nat}{H:Type}{enc:TypeId×Value->H}{d:DataW H}{p:List MemPlace}(f:DataW.trod enc M e 0 (fun _=>N) N fuel 22 [.slice a c cap]=some (d,p)):c<=9223372036854775807:=by
 rcases open_ints Tryz.underlying22 Tryz.underlying5 (by kernel_rfl) f with⟨b,_⟩|⟨n,m,h,o,b,_,j,g,l,_,i,k⟩
 ·simp at b;omega
 ·simp at b;unfold maxLen at g;omega
theorem FA(os:Os)(args:Array Value):laidMetH M Rows.fnPathRow.laid ((World.doorLaid M 91 os).forCall (fun _ _=>0) ⟨#[],args,[]⟩).memory:=
 laidMetH_of_parts3 (fuel:=8) (laidMet_of_run' 8 (by kernel_rfl) (by kernel_rfl)) (by kernel_rfl) (by kernel_rfl)
theorem Ki(os:Os)(bd:os.Started)(H:Type)(enc:TypeId×Value->H):
  ReturnsInHanded {} Tryz.checked os 3 .any (fun w args=>(Rows.fnPathSpec.pre enc M Tryz.f3 [] O w args/\laidMetH M Rows.fnPathRow.laid w)/\sizedMet enc M Tryz.f3 (OpenSpec.ofChange Rows.fnPathSpec) O w args)
   (Rows.fnPathSpec.post enc M Tryz.f3 O N O O):=by
 refine returnsInHanded_of_change_and (C:=Tryz.checked) (X:=fun w _=>laidMetH M Rows.fnPathRow.laid w) (fun _ _ _ av e=>e.of_heap av) own bd (by kernel_rfl) Tryz.func3
  (ChangeSpec.witness_shaped (enc:=enc) (C:=Tryz.checked) (os:=os) (X:=fun w _=>laidMetH M Rows.fnPathRow.laid w) O (World.doorLaid M 91 os) #[.slice none 0 0,.slice none 0 0] 8 rfl (World.shaped_of_RefB (by kernel_rfl) (by kernel_rfl)) (by kernel_rfl) (by kernel_rfl) (by kernel_rfl) (FA os _)) ?_
 intro a F args J bt bl x u _ _ af _;have j:∀(y:Nat) t v,Tryz.f3.params[y]?=some t->args[y]?=some v->Value.okWide M a .any F t v:=x;have ak:=u;obtain⟨a6,a9,r,s,rfl,bx,bA⟩:=u;have q:DataW.TrodAll enc M a 0 (fun _=>N) N Tryz.f3.params.toList args.toList J a6:=r;rw[Tryz.params3]at q j;obtain⟨B,b0,bn,bp,a7,bD,bw,rfl,rfl,f,ba⟩:=trodAll_cons q;obtain⟨E,b1,bo,bq,a8,bE,al,rfl,rfl,g,bb⟩:=trodAll_cons ba;obtain⟨rfl,rfl,rfl⟩:=trodAll_nil bb;subst al;obtain rfl:args=#[B,E]:=by cases args;simp_all
 obtain⟨_,_,_,_,bs,_,rfl,_⟩:=trodVars_one s;obtain⟨o,k,G,rfl⟩:=okWide_slice Tryz.underlying22 (j 0 22 B rfl rfl);obtain⟨p,l,I,rfl⟩:=okWide_slice Tryz.underlying22 (j 1 22 E rfl rfl);have z:=f;have A:=g;have a4:∀n∈a7,n.block<a.heap.size:=by obtain⟨m,i⟩:=z;exact DataW.trod_lt m _ _ _ i
 have a5:∀n∈a8,n.block<a.heap.size:=by obtain⟨m,i⟩:=A;exact DataW.trod_lt m _ _ _ i
 have an:Code a.heap.size a o k:=by obtain⟨d,b⟩:=f;exact ajm b
 have ao:Code a.heap.size a p l:=by obtain⟨d,b⟩:=g;exact ajm b
 have a2:k<=9223372036854775807:=by obtain⟨d,b⟩:=f;exact ajn b
 have a3:l<=9223372036854775807:=by obtain⟨d,b⟩:=g;exact ajn b
 have h:=Kg af;obtain⟨bf,K,L⟩:=h.wrd;clear r x;refine(Kh a o p k G l I a2 a3 an ao ⟨h.errs,⟨bf,K,L⟩,fun bk am=>agr ann h.asc am⟩).mono fun br bj ⟨ap,c⟩=>?_;subst ap;exact⟨_,rfl,_,_,_,[],_,a9,ak,trodAll_mk1 (shut_bool Tryz.underlying4 _),(trodAll_cons_mk (Below.trod Ev (by kernel_rfl) (aH (by kernel_rfl)) z c a4) (trodAll_cons_mk (Below.trod Ev (by kernel_rfl) (aH (by kernel_rfl)) A c a5) trodAll_mk0)),Below.trodVars Ev c (by kernel_rfl) s,c.frame _,fun e=>by cases e⟩
theorem Kj:Rows.FnPathSaid:=
 OpenClaim.holds_of_wide 3 Tryz.f3 rfl rfl rfl rfl rfl rfl rfl ⟨rfl,rfl,rfl,rfl,rfl⟩ rfl rfl rfl rfl rfl (by kernel_rfl) Tryz.func3 (by kernel_rfl)
  (aH (by kernel_rfl)) (by unfold Func.isWrapper;first|(rw[ab (by decide+kernel)];kernel_rfl)|(rw[aa (by decide+kernel)];exact⟨rfl,rfl⟩))
  (fun c d a b _=>Ki c d a b)
theorem fnPath_holds:Rows.FnPathCardSaid:=
 Claim7.holds_tied_plain_at .later [] Rows.fnPathCard.laidKinds N Rows.fnPathCard.stood.harness N
  Kj (fun _ a=>by cases a) (by kernel_rfl) (fun _ a=>by cases a) fnPath_row_tie rfl ⟨rfl,rfl⟩ (by kernel_rfl) rfl
  (fun d e g h=>by
   obtain rfl:d=3:=db ((show Tryz.prog.funcNamed Rows.fnPathRow.func=some 3 by kernel_rfl).symm.trans g) |>.symm;obtain rfl:e=Tryz.f3:=(db (Tryz.func3.symm.trans h)).symm;exact⟨by kernel_rfl,fun k b c=>by
    rw[Tryz.params3]at c;have i:b∈[22,22]:=by simpa using Array.mem_of_getElem? c
    have f:([22,22].all fun j=>!Tryz.prog.wantsStandIn j)=N:=by kernel_rfl
    exact(show Tryz.prog.wantsStandIn b=O by simpa using List.all_eq_true.1 f b i)⟩)
  (by kernel_rfl)
#print axioms fnPath_holds
