import Derived.Test.YtoahhnnflblfaaaGreatDoorHVk26
set_option linter.all false
open Go.Value renaming pointer->A,iface->F,tuple->G
open Go.Proofs.Tryz renaming prog->B
open Option renaming none->C,some->E
namespace Go.Proofs.YtoahhnnflblfaaaGreatDoor
open Go.RowKit
theorem gl(b:Nat)(w:World):Calls B 222 #[A (E ⟨b,0,C⟩)] w fun e a=>e= .returned (A (E ⟨b,0,C⟩))/\a=w:=by
 go_in;go_wp2;go_ret;exact⟨rfl,rfl⟩
def rE(N:Nd):Nat->Nd
 |0=>⟨N.k,N.f,N.t,N.l,0,0,⟨#[]⟩,N.nm,[]⟩
 |1=>⟨N.k,N.f,N.t,N.l,0,N.n,⟨#[]⟩,[],[]⟩
 |2=>⟨N.k,N.f,N.t,N.l,0,N.n,⟨#[]⟩,[],[]⟩
 |3=>⟨N.k,N.f,N.t,N.l,0,0,N.x,[],[]⟩
 |4=>⟨N.k,N.f,N.t,N.l,N.op,0,⟨#[]⟩,[],[]⟩
 |5=>⟨N.k,N.f,N.t,N.l,(if N.op=1 then 1 else 0),0,⟨#[]⟩,N.nm,[]⟩
 |_=>⟨N.k,N.f,N.t,N.l,0,0,⟨#[]⟩,[],[]⟩
def ab2(vn:Value):Nat->Value
 |0=>vn
 |5=>vn
 |_=> .slice C 0 0
theorem ai8(b:Nat)(w:World)(d:TypeId)(h:d=140\/d=143\/d=146\/d=149\/d=152\/d=155\/d=158):(method 367 d (A (E ⟨b,0,C⟩)) "loop.example/warp/impl.head").run B w= .ok (222,A (E ⟨b,0,C⟩)) w:=by rcases h with rfl|rfl|rfl|rfl|rfl|rfl|rfl<;>kernel_rfl
theorem akB(k:Nat):nF k=140\/nF k=143\/nF k=146\/nF k=149\/nF k=152\/nF k=155\/nF k=158:=by
 unfold nF;split<;>decide
theorem amE(k b:Nat)(w:World):(method 367 (nF k) (A (E ⟨b,0,C⟩)) "loop.example/warp/impl.head").run B w= .ok (222,A (E ⟨b,0,C⟩)) w:=ai8 b w _ (akB k)
theorem asT(b:Nat)(w:World)(d:TypeId)(h:d=140\/d=143\/d=146\/d=149\/d=152\/d=155\/d=158):(Instr.typeAssert (F d (A (E ⟨b,0,C⟩))) 51 d true).run B w= .ok (G #[A (E ⟨b,0,C⟩),.bool true]) w:=by rcases h with rfl|rfl|rfl|rfl|rfl|rfl|rfl<;>kernel_rfl
theorem asF(b:Nat)(w:World)(d e:TypeId)(h:d=140\/d=143\/d=146\/d=149\/d=152\/d=155\/d=158)(g:e=140\/e=143\/e=146\/e=149\/e=152\/e=155\/e=158)(a:d≠e):(Instr.typeAssert (F d (A (E ⟨b,0,C⟩))) 51 e true).run B w= .ok (G #[A C,.bool false]) w:=by
 rcases h with rfl|rfl|rfl|rfl|rfl|rfl|rfl;all_goals
  rcases g with rfl|rfl|rfl|rfl|rfl|rfl|rfl;all_goals first|exact absurd rfl a|kernel_rfl
