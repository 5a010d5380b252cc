import Derived.Test.YtkfgnpcanadjhaaGreatDoorHSk16
import Derived.Test.YtkfgnpcanadjhaaGreatDoorHSk06
set_option linter.all false
namespace Go.Proofs.YtkfgnpcanadjhaaGreatDoor
open Go.RowKit
theorem de(b:Nat)(w:World):Calls Tryz.prog 307 #[.pointer (some ⟨b,0,none⟩)] w fun e a=>e= .returned (.pointer (some ⟨b,0,none⟩))/\a=w:=by
 go_in
 go_wp2
 go_ret
 exact⟨rfl,rfl⟩
def qd(N:Nd):Nat->Nd
 |0=>⟨N.k,N.f,N.t,N.l,0,0,⟨#[]⟩,N.nm,[]⟩
 |1=>⟨N.k,N.f,N.t,N.l,0,N.n,⟨#[]⟩,[],[]⟩
 |2=>⟨N.k,N.f,N.t,N.l,0,N.n,⟨#[]⟩,[],[]⟩
 |3=>⟨N.k,N.f,N.t,N.l,0,0,N.x,[],[]⟩
 |4=>⟨N.k,N.f,N.t,N.l,N.op,0,⟨#[]⟩,[],[]⟩
 |5=>⟨N.k,N.f,N.t,N.l,(if N.op=1 then 1 else 0),0,⟨#[]⟩,N.nm,[]⟩
 |_=>⟨N.k,N.f,N.t,N.l,0,0,⟨#[]⟩,[],[]⟩
def Ka(vn:Value):Nat->Value
 |0=>vn
 |5=>vn
 |_=> .slice none 0 0
theorem afD(b:Nat)(w:World)(d:TypeId)(a:d=109\/d=152\/d=160\/d=163\/d=169\/d=188\/d=191):(method 413 d (.pointer (some ⟨b,0,none⟩)) "loop.example/warp/impl.head").run Tryz.prog w= .ok (307,.pointer (some ⟨b,0,none⟩)) w:=by rcases a with rfl|rfl|rfl|rfl|rfl|rfl|rfl<;>kernel_rfl
theorem agB(k:Nat):jd k=109\/jd k=152\/jd k=160\/jd k=163\/jd k=169\/jd k=188\/jd k=191:=by
 unfold jd
 split<;>decide
theorem vH(k b:Nat)(w:World):(method 413 (jd k) (.pointer (some ⟨b,0,none⟩)) "loop.example/warp/impl.head").run Tryz.prog w= .ok (307,.pointer (some ⟨b,0,none⟩)) w:=afD b w _ (agB k)
theorem asT(b:Nat)(w:World)(d:TypeId)(a:d=109\/d=152\/d=160\/d=163\/d=169\/d=188\/d=191):(Instr.typeAssert (.iface d (.pointer (some ⟨b,0,none⟩))) 45 d true).run Tryz.prog w= .ok (.tuple #[.pointer (some ⟨b,0,none⟩),.bool true]) w:=by rcases a with rfl|rfl|rfl|rfl|rfl|rfl|rfl<;>kernel_rfl
theorem asF(b:Nat)(w:World)(d e:TypeId)(a:d=109\/d=152\/d=160\/d=163\/d=169\/d=188\/d=191)(g:e=109\/e=152\/e=160\/e=163\/e=169\/e=188\/e=191)(c:d≠e):(Instr.typeAssert (.iface d (.pointer (some ⟨b,0,none⟩))) 45 e true).run Tryz.prog w= .ok (.tuple #[.pointer none,.bool false]) w:=by
 rcases a with rfl|rfl|rfl|rfl|rfl|rfl|rfl
 all_goals
  rcases g with rfl|rfl|rfl|rfl|rfl|rfl|rfl
  all_goals first|exact absurd rfl c|kernel_rfl
