import Derived.Test.YtnlhhmlcjbohbaaGreatDoorHNk14
import Derived.Test.YtnlhhmlcjbohbaaGreatDoorHNk07
set_option linter.all false
open Go.Value renaming pointer->A,iface->F,tuple->G
open Go.Proofs.Tryz renaming prog->B
open Option renaming none->C,some->E
namespace Go.Proofs.YtnlhhmlcjbohbaaGreatDoor
open Go.RowKit
theorem fx(b:Nat)(w:World):Calls B 285 #[A (E ⟨b,0,C⟩)] w fun e a=>e= .returned (A (E ⟨b,0,C⟩))/\a=w:=by
 go_in;go_wp2;go_ret;exact⟨rfl,rfl⟩
def ny(N:Nd):Nat->Nd
 |0=>⟨N.k,N.f,N.t,N.l,0,0,⟨#[]⟩,N.nm,[]⟩
 |1=>⟨N.k,N.f,N.t,N.l,0,N.n,⟨#[]⟩,[],[]⟩
 |2=>⟨N.k,N.f,N.t,N.l,0,N.n,⟨#[]⟩,[],[]⟩
 |3=>⟨N.k,N.f,N.t,N.l,0,0,N.x,[],[]⟩
 |4=>⟨N.k,N.f,N.t,N.l,N.op,0,⟨#[]⟩,[],[]⟩
 |5=>⟨N.k,N.f,N.t,N.l,(if N.op=1 then 1 else 0),0,⟨#[]⟩,N.nm,[]⟩
 |_=>⟨N.k,N.f,N.t,N.l,0,0,⟨#[]⟩,[],[]⟩
def uo(vn:Value):Nat->Value
 |0=>vn
 |5=>vn
 |_=> .slice C 0 0
theorem ame(b:Nat)(w:World)(d:TypeId)(h:d=159\/d=162\/d=165\/d=168\/d=171\/d=174\/d=118):(method 429 d (A (E ⟨b,0,C⟩)) "loop.example/warp/impl.head").run B w= .ok (285,A (E ⟨b,0,C⟩)) w:=by rcases h with rfl|rfl|rfl|rfl|rfl|rfl|rfl<;>kernel_rfl
theorem ann(k:Nat):pv k=159\/pv k=162\/pv k=165\/pv k=168\/pv k=171\/pv k=174\/pv k=118:=by
 unfold pv;split<;>decide
theorem FI(k b:Nat)(w:World):(method 429 (pv k) (A (E ⟨b,0,C⟩)) "loop.example/warp/impl.head").run B w= .ok (285,A (E ⟨b,0,C⟩)) w:=ame b w _ (ann k)
theorem asT(b:Nat)(w:World)(d:TypeId)(h:d=159\/d=162\/d=165\/d=168\/d=171\/d=174\/d=118):(Instr.typeAssert (F d (A (E ⟨b,0,C⟩))) 72 d true).run B w= .ok (G #[A (E ⟨b,0,C⟩),.bool true]) w:=by rcases h with rfl|rfl|rfl|rfl|rfl|rfl|rfl<;>kernel_rfl
theorem asF(b:Nat)(w:World)(d e:TypeId)(h:d=159\/d=162\/d=165\/d=168\/d=171\/d=174\/d=118)(g:e=159\/e=162\/e=165\/e=168\/e=171\/e=174\/e=118)(a:d≠e):(Instr.typeAssert (F d (A (E ⟨b,0,C⟩))) 72 e true).run B w= .ok (G #[A C,.bool false]) w:=by
 rcases h with rfl|rfl|rfl|rfl|rfl|rfl|rfl;all_goals
  rcases g with rfl|rfl|rfl|rfl|rfl|rfl|rfl;all_goals first|exact absurd rfl a|kernel_rfl
