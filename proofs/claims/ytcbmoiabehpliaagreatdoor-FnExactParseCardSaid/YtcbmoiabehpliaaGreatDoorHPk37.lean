import Derived.Test.YtcbmoiabehpliaaGreatDoorHPk01
import Derived.Test.YtcbmoiabehpliaaGreatDoorHPk36
import Derived.Test.YtcbmoiabehpliaaGreatDoorHPk09
set_option linter.unusedVariables false
namespace Go.Proofs.YtcbmoiabehpliaaGreatDoor
open Go.RowKit
theorem bm(b:Nat)(w:World):Calls Tryz.prog 265 #[.pointer (some ⟨b,0,none⟩)] w fun e a=>e= .returned (.pointer (some ⟨b,0,none⟩))/\a=w:=by
 go_in;go_wp2;go_ret;exact⟨rfl,rfl⟩
def dY(N:Nd):Nat->Nd
 |0=>⟨N.k,N.f,N.t,N.l,0,0,⟨#[]⟩,N.nm,[]⟩
 |1=>⟨N.k,N.f,N.t,N.l,0,N.n,⟨#[]⟩,[],[]⟩
 |2=>⟨N.k,N.f,N.t,N.l,0,N.n,⟨#[]⟩,[],[]⟩
 |3=>⟨N.k,N.f,N.t,N.l,0,0,N.x,[],[]⟩
 |4=>⟨N.k,N.f,N.t,N.l,N.op,0,⟨#[]⟩,[],[]⟩
 |5=>⟨N.k,N.f,N.t,N.l,(if N.op=1 then 1 else 0),0,⟨#[]⟩,N.nm,[]⟩
 |_=>⟨N.k,N.f,N.t,N.l,0,0,⟨#[]⟩,[],[]⟩
def gY(vn:Value):Nat->Value
 |0=>vn
 |5=>vn
 |_=> .slice none 0 0
theorem FV(b:Nat)(w:World)(a:TypeId)(h:a=136\/a=139\/a=142\/a=145\/a=148\/a=151\/a=97):(method 412 a (.pointer (some ⟨b,0,none⟩)) "loop.example/warp/impl.head").run Tryz.prog w= .ok (265,.pointer (some ⟨b,0,none⟩)) w:=by rcases h with rfl|rfl|rfl|rfl|rfl|rfl|rfl<;>kernel_rfl
theorem Hb(k:Nat):eK k=136\/eK k=139\/eK k=142\/eK k=145\/eK k=148\/eK k=151\/eK k=97:=by
 unfold eK;split<;>decide
theorem qF(k b:Nat)(w:World):(method 412 (eK k) (.pointer (some ⟨b,0,none⟩)) "loop.example/warp/impl.head").run Tryz.prog w= .ok (265,.pointer (some ⟨b,0,none⟩)) w:=FV b w _ (Hb k)
theorem E0(b:Nat)(w:World)(a:TypeId)(h:a=136\/a=139\/a=142\/a=145\/a=148\/a=151\/a=97):(Instr.typeAssert (.iface a (.pointer (some ⟨b,0,none⟩))) 51 a true).run Tryz.prog w= .ok (.tuple #[.pointer (some ⟨b,0,none⟩),.bool true]) w:=by rcases h with rfl|rfl|rfl|rfl|rfl|rfl|rfl<;>kernel_rfl
theorem E1(b:Nat)(w:World)(a e:TypeId)(h:a=136\/a=139\/a=142\/a=145\/a=148\/a=151\/a=97)(g:e=136\/e=139\/e=142\/e=145\/e=148\/e=151\/e=97)(c:a≠e):(Instr.typeAssert (.iface a (.pointer (some ⟨b,0,none⟩))) 51 e true).run Tryz.prog w= .ok (.tuple #[.pointer none,.bool false]) w:=by
 rcases h with rfl|rfl|rfl|rfl|rfl|rfl|rfl;all_goals
  rcases g with rfl|rfl|rfl|rfl|rfl|rfl|rfl;all_goals first|exact absurd rfl c|kernel_rfl
end Go.Proofs.YtcbmoiabehpliaaGreatDoor
