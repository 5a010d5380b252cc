import Derived.Test.YtbkolnpplhbdmaaGreatDoorHPl11
import Derived.Test.YtbkolnpplhbdmaaGreatDoorHPl05
set_option linter.all false
open Go.Value renaming pointer->A,iface->F,tuple->G
open Go.Proofs.Tryz renaming prog->B
open Option renaming none->C,some->E
namespace Go.Proofs.YtbkolnpplhbdmaaGreatDoor
open Go.RowKit
def gD(b:Nat)(w:World):Calls B 299 #[A (E ⟨b,0,C⟩)] w (jt w (A (E ⟨b,0,C⟩))):=by
 go_in;go_wp2;go_ret;exact⟨rfl,rfl⟩
def oJ(N:Nd):Nat->Nd
 |0=>⟨N.k,N.f,N.t,N.l,0,0,⟨#[]⟩,N.nm,[]⟩
 |1=>⟨N.k,N.f,N.t,N.l,0,N.n,⟨#[]⟩,[],[]⟩
 |2=>⟨N.k,N.f,N.t,N.l,0,N.n,⟨#[]⟩,[],[]⟩
 |3=>⟨N.k,N.f,N.t,N.l,0,0,N.x,[],[]⟩
 |4=>⟨N.k,N.f,N.t,N.l,N.op,0,⟨#[]⟩,[],[]⟩
 |5=>⟨N.k,N.f,N.t,N.l,(if N.op=1 then 1 else 0),0,⟨#[]⟩,N.nm,[]⟩
 |_=>⟨N.k,N.f,N.t,N.l,0,0,⟨#[]⟩,[],[]⟩
def uo(vn:Value):Nat->Value
 |0=>vn
 |5=>vn
 |_=> .slice C 0 0
def am0(b:Nat)(w:World)(d:TypeId)(h:d=142\/d=145\/d=148\/d=151\/d=154\/d=157\/d=91):(method 430 d (A (E ⟨b,0,C⟩)) "loop.example/warp/impl.head").run B w= .ok (299,A (E ⟨b,0,C⟩)) w:=by rcases h with rfl|rfl|rfl|rfl|rfl|rfl|rfl<;>kernel_rfl
def api(k:Nat):pI k=142\/pI k=145\/pI k=148\/pI k=151\/pI k=154\/pI k=157\/pI k=91:=by
 unfold pI;split<;>decide
def G7(k b:Nat)(w:World):(method 430 (pI k) (A (E ⟨b,0,C⟩)) "loop.example/warp/impl.head").run B w= .ok (299,A (E ⟨b,0,C⟩)) w:=am0 b w _ (api k)
def asT(b:Nat)(w:World)(d:TypeId)(h:d=142\/d=145\/d=148\/d=151\/d=154\/d=157\/d=91):(Instr.typeAssert (F d (A (E ⟨b,0,C⟩))) 55 d true).run B w= .ok (G #[A (E ⟨b,0,C⟩),.bool true]) w:=by rcases h with rfl|rfl|rfl|rfl|rfl|rfl|rfl<;>kernel_rfl
def asF(b:Nat)(w:World)(d e:TypeId)(h:d=142\/d=145\/d=148\/d=151\/d=154\/d=157\/d=91)(g:e=142\/e=145\/e=148\/e=151\/e=154\/e=157\/e=91)(a:d≠e):(Instr.typeAssert (F d (A (E ⟨b,0,C⟩))) 55 e true).run B w= .ok (G #[A C,.bool false]) w:=by
 rcases h with rfl|rfl|rfl|rfl|rfl|rfl|rfl;all_goals
  rcases g with rfl|rfl|rfl|rfl|rfl|rfl|rfl;all_goals first|exact absurd rfl a|kernel_rfl
