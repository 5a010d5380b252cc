import Derived.Test.YtnoojdbdapljoaaGreatDoorHOk38
import Derived.Test.YtnoojdbdapljoaaGreatDoorHOk07
set_option linter.all false
open Go.Value renaming pointer->A,iface->F,tuple->G
open Go.Proofs.Tryz renaming prog->B
open Option renaming none->C,some->E
namespace Go.Proofs.YtnoojdbdapljoaaGreatDoor
open Go.RowKit
theorem eK(b:Nat)(w:World):Calls B 234 #[A (E ⟨b,0,C⟩)] w fun e a=>e= .returned (A (E ⟨b,0,C⟩))/\a=w:=by
 go_in;go_wp2;go_ret;exact⟨rfl,rfl⟩
def qp(N:Nd):Nat->Nd
 |0=>⟨N.k,N.f,N.t,N.l,0,0,⟨#[]⟩,N.nm,[]⟩
 |1=>⟨N.k,N.f,N.t,N.l,0,N.n,⟨#[]⟩,[],[]⟩
 |2=>⟨N.k,N.f,N.t,N.l,0,N.n,⟨#[]⟩,[],[]⟩
 |3=>⟨N.k,N.f,N.t,N.l,0,0,N.x,[],[]⟩
 |4=>⟨N.k,N.f,N.t,N.l,N.op,0,⟨#[]⟩,[],[]⟩
 |5=>⟨N.k,N.f,N.t,N.l,(if N.op=1 then 1 else 0),0,⟨#[]⟩,N.nm,[]⟩
 |_=>⟨N.k,N.f,N.t,N.l,0,0,⟨#[]⟩,[],[]⟩
def aad(vn:Value):Nat->Value
 |0=>vn
 |5=>vn
 |_=> .slice C 0 0
theorem ahg(b:Nat)(w:World)(d:TypeId)(h:d=96\/d=167\/d=170\/d=173\/d=176\/d=179\/d=182):(method 377 d (A (E ⟨b,0,C⟩)) "loop.example/warp/impl.head").run B w= .ok (234,A (E ⟨b,0,C⟩)) w:=by rcases h with rfl|rfl|rfl|rfl|rfl|rfl|rfl<;>kernel_rfl
theorem ait(k:Nat):lG k=96\/lG k=167\/lG k=170\/lG k=173\/lG k=176\/lG k=179\/lG k=182:=by
 unfold lG;split<;>decide
theorem ajL(k b:Nat)(w:World):(method 377 (lG k) (A (E ⟨b,0,C⟩)) "loop.example/warp/impl.head").run B w= .ok (234,A (E ⟨b,0,C⟩)) w:=ahg b w _ (ait k)
theorem asT(b:Nat)(w:World)(d:TypeId)(h:d=96\/d=167\/d=170\/d=173\/d=176\/d=179\/d=182):(Instr.typeAssert (F d (A (E ⟨b,0,C⟩))) 53 d true).run B w= .ok (G #[A (E ⟨b,0,C⟩),.bool true]) w:=by rcases h with rfl|rfl|rfl|rfl|rfl|rfl|rfl<;>kernel_rfl
theorem Ic(b:Nat)(w:World)(d e:TypeId)(h:d=96\/d=167\/d=170\/d=173\/d=176\/d=179\/d=182)(g:e=96\/e=167\/e=170\/e=173\/e=176\/e=179\/e=182)(a:d≠e):(Instr.typeAssert (F d (A (E ⟨b,0,C⟩))) 53 e true).run B w= .ok (G #[A C,.bool false]) w:=by
 rcases h with rfl|rfl|rfl|rfl|rfl|rfl|rfl;all_goals
  rcases g with rfl|rfl|rfl|rfl|rfl|rfl|rfl;all_goals first|exact absurd rfl a|kernel_rfl
