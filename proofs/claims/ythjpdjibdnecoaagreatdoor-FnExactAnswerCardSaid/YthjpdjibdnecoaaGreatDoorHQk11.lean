import Derived.Test.YthjpdjibdnecoaaGreatDoorHQk10
import Derived.Test.YthjpdjibdnecoaaGreatDoorHQk08
set_option linter.all false
open Go.Value renaming pointer->A,iface->F,tuple->G
open Go.Proofs.Tryz renaming prog->B
open Option renaming none->C,some->E
namespace Go.Proofs.YthjpdjibdnecoaaGreatDoor
open Go.RowKit
theorem eA(b:Nat)(w:World):Calls B 301 #[A (E ⟨b,0,C⟩)] w fun e a=>e= .returned (A (E ⟨b,0,C⟩))/\a=w:=by
 go_in;go_wp2;go_ret;exact⟨rfl,rfl⟩
def lE(N:Nd):Nat->Nd
 |0=>⟨N.k,N.f,N.t,N.l,0,0,⟨#[]⟩,N.nm,[]⟩
 |1=>⟨N.k,N.f,N.t,N.l,0,N.n,⟨#[]⟩,[],[]⟩
 |2=>⟨N.k,N.f,N.t,N.l,0,N.n,⟨#[]⟩,[],[]⟩
 |3=>⟨N.k,N.f,N.t,N.l,0,0,N.x,[],[]⟩
 |4=>⟨N.k,N.f,N.t,N.l,N.op,0,⟨#[]⟩,[],[]⟩
 |5=>⟨N.k,N.f,N.t,N.l,(if N.op=1 then 1 else 0),0,⟨#[]⟩,N.nm,[]⟩
 |_=>⟨N.k,N.f,N.t,N.l,0,0,⟨#[]⟩,[],[]⟩
def sa(vn:Value):Nat->Value
 |0=>vn
 |5=>vn
 |_=> .slice C 0 0
theorem ah8(b:Nat)(w:World)(a:TypeId)(h:a=207\/a=210\/a=213\/a=216\/a=219\/a=222\/a=160):(method 466 a (A (E ⟨b,0,C⟩)) "loop.example/warp/impl.head").run B w= .ok (301,A (E ⟨b,0,C⟩)) w:=by rcases h with rfl|rfl|rfl|rfl|rfl|rfl|rfl<;>kernel_rfl
theorem aiG(k:Nat):nH k=207\/nH k=210\/nH k=213\/nH k=216\/nH k=219\/nH k=222\/nH k=160:=by
 unfold nH;split<;>decide
theorem Dy(k b:Nat)(w:World):(method 466 (nH k) (A (E ⟨b,0,C⟩)) "loop.example/warp/impl.head").run B w= .ok (301,A (E ⟨b,0,C⟩)) w:=ah8 b w _ (aiG k)
theorem asT(b:Nat)(w:World)(a:TypeId)(h:a=207\/a=210\/a=213\/a=216\/a=219\/a=222\/a=160):(Instr.typeAssert (F a (A (E ⟨b,0,C⟩))) 102 a true).run B w= .ok (G #[A (E ⟨b,0,C⟩),.bool true]) w:=by rcases h with rfl|rfl|rfl|rfl|rfl|rfl|rfl<;>kernel_rfl
theorem asF(b:Nat)(w:World)(a e:TypeId)(h:a=207\/a=210\/a=213\/a=216\/a=219\/a=222\/a=160)(g:e=207\/e=210\/e=213\/e=216\/e=219\/e=222\/e=160)(c:a≠e):(Instr.typeAssert (F a (A (E ⟨b,0,C⟩))) 102 e true).run B w= .ok (G #[A C,.bool false]) w:=by
 rcases h with rfl|rfl|rfl|rfl|rfl|rfl|rfl;all_goals
  rcases g with rfl|rfl|rfl|rfl|rfl|rfl|rfl;all_goals first|exact absurd rfl c|kernel_rfl
