import Derived.Test.YtelfejiiabbpfaaGreatDoorHRk05
import Derived.Test.YtelfejiiabbpfaaGreatDoorHRk03
set_option linter.unusedVariables false
set_option maxRecDepth 100000
set_option maxHeartbeats 6400000
namespace Go.Proofs.YtelfejiiabbpfaaGreatDoor
open Go.RowKit
theorem head_any (b:Nat) (w:World):Calls Tryz.prog 233 #[.pointer (some ⟨b,0,none⟩)] w fun e w'=>e= .returned (.pointer (some ⟨b,0,none⟩))/\w'=w:=by
 go_enter Tryz.func233,Tryz.ntmps233
 go_wp2
 go_ret
 exact⟨rfl,rfl⟩
def rowN (N:Nd):Nat->Nd
 |0=>⟨N.k,N.f,N.t,N.l,0,0,⟨#[]⟩,N.nm,[]⟩
 |1=>⟨N.k,N.f,N.t,N.l,0,N.n,⟨#[]⟩,[],[]⟩
 |2=>⟨N.k,N.f,N.t,N.l,0,N.n,⟨#[]⟩,[],[]⟩
 |3=>⟨N.k,N.f,N.t,N.l,0,0,N.x,[],[]⟩
 |4=>⟨N.k,N.f,N.t,N.l,N.op,0,⟨#[]⟩,[],[]⟩
 |5=>⟨N.k,N.f,N.t,N.l,(if N.op=1 then 1 else 0),0,⟨#[]⟩,N.nm,[]⟩
 |_=>⟨N.k,N.f,N.t,N.l,0,0,⟨#[]⟩,[],[]⟩
def rowV (vn:Value):Nat->Value
 |0=>vn
 |5=>vn
 |_=> .slice none 0 0
theorem meth0 (b:Nat) (w:World):(method 371 142 (.pointer (some ⟨b,0,none⟩)) "loop.example/warp/impl.head").run Tryz.prog w= .ok (233,.pointer (some ⟨b,0,none⟩)) w:=by kernel_rfl
theorem meth1 (b:Nat) (w:World):(method 371 109 (.pointer (some ⟨b,0,none⟩)) "loop.example/warp/impl.head").run Tryz.prog w= .ok (233,.pointer (some ⟨b,0,none⟩)) w:=by kernel_rfl
theorem meth2 (b:Nat) (w:World):(method 371 118 (.pointer (some ⟨b,0,none⟩)) "loop.example/warp/impl.head").run Tryz.prog w= .ok (233,.pointer (some ⟨b,0,none⟩)) w:=by kernel_rfl
theorem meth3 (b:Nat) (w:World):(method 371 121 (.pointer (some ⟨b,0,none⟩)) "loop.example/warp/impl.head").run Tryz.prog w= .ok (233,.pointer (some ⟨b,0,none⟩)) w:=by kernel_rfl
theorem meth4 (b:Nat) (w:World):(method 371 128 (.pointer (some ⟨b,0,none⟩)) "loop.example/warp/impl.head").run Tryz.prog w= .ok (233,.pointer (some ⟨b,0,none⟩)) w:=by kernel_rfl
theorem meth5 (b:Nat) (w:World):(method 371 145 (.pointer (some ⟨b,0,none⟩)) "loop.example/warp/impl.head").run Tryz.prog w= .ok (233,.pointer (some ⟨b,0,none⟩)) w:=by kernel_rfl
theorem meth6 (b:Nat) (w:World):(method 371 148 (.pointer (some ⟨b,0,none⟩)) "loop.example/warp/impl.head").run Tryz.prog w= .ok (233,.pointer (some ⟨b,0,none⟩)) w:=by kernel_rfl
theorem as00 (b:Nat) (w:World):(Instr.typeAssert (.iface 142 (.pointer (some ⟨b,0,none⟩))) 49 142 true).run Tryz.prog w= .ok (.tuple #[.pointer (some ⟨b,0,none⟩),.bool true]) w:=by kernel_rfl
theorem as01 (b:Nat) (w:World):(Instr.typeAssert (.iface 142 (.pointer (some ⟨b,0,none⟩))) 49 109 true).run Tryz.prog w= .ok (.tuple #[.pointer none,.bool false]) w:=by kernel_rfl
theorem as10 (b:Nat) (w:World):(Instr.typeAssert (.iface 109 (.pointer (some ⟨b,0,none⟩))) 49 142 true).run Tryz.prog w= .ok (.tuple #[.pointer none,.bool false]) w:=by kernel_rfl
theorem as11 (b:Nat) (w:World):(Instr.typeAssert (.iface 109 (.pointer (some ⟨b,0,none⟩))) 49 109 true).run Tryz.prog w= .ok (.tuple #[.pointer (some ⟨b,0,none⟩),.bool true]) w:=by kernel_rfl
theorem as20 (b:Nat) (w:World):(Instr.typeAssert (.iface 118 (.pointer (some ⟨b,0,none⟩))) 49 142 true).run Tryz.prog w= .ok (.tuple #[.pointer none,.bool false]) w:=by kernel_rfl
theorem as21 (b:Nat) (w:World):(Instr.typeAssert (.iface 118 (.pointer (some ⟨b,0,none⟩))) 49 109 true).run Tryz.prog w= .ok (.tuple #[.pointer none,.bool false]) w:=by kernel_rfl
theorem as22 (b:Nat) (w:World):(Instr.typeAssert (.iface 118 (.pointer (some ⟨b,0,none⟩))) 49 118 true).run Tryz.prog w= .ok (.tuple #[.pointer (some ⟨b,0,none⟩),.bool true]) w:=by kernel_rfl
theorem as23 (b:Nat) (w:World):(Instr.typeAssert (.iface 118 (.pointer (some ⟨b,0,none⟩))) 49 121 true).run Tryz.prog w= .ok (.tuple #[.pointer none,.bool false]) w:=by kernel_rfl
theorem as24 (b:Nat) (w:World):(Instr.typeAssert (.iface 118 (.pointer (some ⟨b,0,none⟩))) 49 128 true).run Tryz.prog w= .ok (.tuple #[.pointer none,.bool false]) w:=by kernel_rfl
theorem as25 (b:Nat) (w:World):(Instr.typeAssert (.iface 118 (.pointer (some ⟨b,0,none⟩))) 49 145 true).run Tryz.prog w= .ok (.tuple #[.pointer none,.bool false]) w:=by kernel_rfl
theorem as30 (b:Nat) (w:World):(Instr.typeAssert (.iface 121 (.pointer (some ⟨b,0,none⟩))) 49 142 true).run Tryz.prog w= .ok (.tuple #[.pointer none,.bool false]) w:=by kernel_rfl
theorem as31 (b:Nat) (w:World):(Instr.typeAssert (.iface 121 (.pointer (some ⟨b,0,none⟩))) 49 109 true).run Tryz.prog w= .ok (.tuple #[.pointer none,.bool false]) w:=by kernel_rfl
theorem as32 (b:Nat) (w:World):(Instr.typeAssert (.iface 121 (.pointer (some ⟨b,0,none⟩))) 49 118 true).run Tryz.prog w= .ok (.tuple #[.pointer none,.bool false]) w:=by kernel_rfl
theorem as33 (b:Nat) (w:World):(Instr.typeAssert (.iface 121 (.pointer (some ⟨b,0,none⟩))) 49 121 true).run Tryz.prog w= .ok (.tuple #[.pointer (some ⟨b,0,none⟩),.bool true]) w:=by kernel_rfl
theorem as40 (b:Nat) (w:World):(Instr.typeAssert (.iface 128 (.pointer (some ⟨b,0,none⟩))) 49 142 true).run Tryz.prog w= .ok (.tuple #[.pointer none,.bool false]) w:=by kernel_rfl
theorem as41 (b:Nat) (w:World):(Instr.typeAssert (.iface 128 (.pointer (some ⟨b,0,none⟩))) 49 109 true).run Tryz.prog w= .ok (.tuple #[.pointer none,.bool false]) w:=by kernel_rfl
theorem as42 (b:Nat) (w:World):(Instr.typeAssert (.iface 128 (.pointer (some ⟨b,0,none⟩))) 49 118 true).run Tryz.prog w= .ok (.tuple #[.pointer none,.bool false]) w:=by kernel_rfl
theorem as43 (b:Nat) (w:World):(Instr.typeAssert (.iface 128 (.pointer (some ⟨b,0,none⟩))) 49 121 true).run Tryz.prog w= .ok (.tuple #[.pointer none,.bool false]) w:=by kernel_rfl
theorem as44 (b:Nat) (w:World):(Instr.typeAssert (.iface 128 (.pointer (some ⟨b,0,none⟩))) 49 128 true).run Tryz.prog w= .ok (.tuple #[.pointer (some ⟨b,0,none⟩),.bool true]) w:=by kernel_rfl
theorem as50 (b:Nat) (w:World):(Instr.typeAssert (.iface 145 (.pointer (some ⟨b,0,none⟩))) 49 142 true).run Tryz.prog w= .ok (.tuple #[.pointer none,.bool false]) w:=by kernel_rfl
theorem as51 (b:Nat) (w:World):(Instr.typeAssert (.iface 145 (.pointer (some ⟨b,0,none⟩))) 49 109 true).run Tryz.prog w= .ok (.tuple #[.pointer none,.bool false]) w:=by kernel_rfl
theorem as52 (b:Nat) (w:World):(Instr.typeAssert (.iface 145 (.pointer (some ⟨b,0,none⟩))) 49 118 true).run Tryz.prog w= .ok (.tuple #[.pointer none,.bool false]) w:=by kernel_rfl
theorem as53 (b:Nat) (w:World):(Instr.typeAssert (.iface 145 (.pointer (some ⟨b,0,none⟩))) 49 121 true).run Tryz.prog w= .ok (.tuple #[.pointer none,.bool false]) w:=by kernel_rfl
theorem as54 (b:Nat) (w:World):(Instr.typeAssert (.iface 145 (.pointer (some ⟨b,0,none⟩))) 49 128 true).run Tryz.prog w= .ok (.tuple #[.pointer none,.bool false]) w:=by kernel_rfl
theorem as55 (b:Nat) (w:World):(Instr.typeAssert (.iface 145 (.pointer (some ⟨b,0,none⟩))) 49 145 true).run Tryz.prog w= .ok (.tuple #[.pointer (some ⟨b,0,none⟩),.bool true]) w:=by kernel_rfl
theorem as60 (b:Nat) (w:World):(Instr.typeAssert (.iface 148 (.pointer (some ⟨b,0,none⟩))) 49 142 true).run Tryz.prog w= .ok (.tuple #[.pointer none,.bool false]) w:=by kernel_rfl
theorem as61 (b:Nat) (w:World):(Instr.typeAssert (.iface 148 (.pointer (some ⟨b,0,none⟩))) 49 109 true).run Tryz.prog w= .ok (.tuple #[.pointer none,.bool false]) w:=by kernel_rfl
theorem as62 (b:Nat) (w:World):(Instr.typeAssert (.iface 148 (.pointer (some ⟨b,0,none⟩))) 49 118 true).run Tryz.prog w= .ok (.tuple #[.pointer none,.bool false]) w:=by kernel_rfl
theorem as63 (b:Nat) (w:World):(Instr.typeAssert (.iface 148 (.pointer (some ⟨b,0,none⟩))) 49 121 true).run Tryz.prog w= .ok (.tuple #[.pointer none,.bool false]) w:=by kernel_rfl
theorem as64 (b:Nat) (w:World):(Instr.typeAssert (.iface 148 (.pointer (some ⟨b,0,none⟩))) 49 128 true).run Tryz.prog w= .ok (.tuple #[.pointer none,.bool false]) w:=by kernel_rfl
theorem as65 (b:Nat) (w:World):(Instr.typeAssert (.iface 148 (.pointer (some ⟨b,0,none⟩))) 49 145 true).run Tryz.prog w= .ok (.tuple #[.pointer none,.bool false]) w:=by kernel_rfl
theorem rowOf0 (w:World) (b:Nat) (nk nf nt nl num:Int) (vk:Value) (a1:Option Addr) (n1 e1:Nat) (hb:w.heap[b]?=some (.cells #[.int .i64 nk,.int .i64 nf,.int .i64 nt,.int .i64 nl,.int .i64 num,vk,.slice a1 n1 e1] 144 (0,0))):
  Calls Tryz.prog 86 #[.iface 142 (.pointer (some ⟨b,0,none⟩))] w fun e w'=>e= .returned (vNd ⟨nk,nf,nt,nl,0,0,⟨#[]⟩,[],[]⟩ (.slice a1 n1 e1) (.slice none 0 0))/\Below w.heap.size w w':=by
 have hm:=fun w=>meth0 b w
 have ha0:=fun w=>as00 b w
 have kh:=fun w=>head_any b w
 have c0:w.cell? ⟨b,0,none⟩=some (.int .i64 nk):=by rw[cell_of_row _ _ _ _ _ _ hb];rfl
 have c1:w.cell? ⟨b,1,none⟩=some (.int .i64 nf):=by rw[cell_of_row _ _ _ _ _ _ hb];rfl
 have c2:w.cell? ⟨b,2,none⟩=some (.int .i64 nt):=by rw[cell_of_row _ _ _ _ _ _ hb];rfl
 have c3:w.cell? ⟨b,3,none⟩=some (.int .i64 nl):=by rw[cell_of_row _ _ _ _ _ _ hb];rfl
 have c6:w.cell? ⟨b,6,none⟩=some (.slice a1 n1 e1):=by rw[cell_of_row _ _ _ _ _ _ hb];rfl
 have hlt:=lt_of_block hb
 have hlt2:b<w.heap.size+1:=by omega
 have hne1:b≠w.heap.size:=by omega
 have hne2:b≠w.heap.size+1:=by omega
 have hbb:∀o1 o2,Below w.heap.size w ((w.alloc o1).alloc o2).drew:=fun o1 o2=>bel_drew1 (((Below.refl _ w).alloc (Nat.le_refl _) o1).alloc (by simp) o2)
 unfold vNd
 go_enter Tryz.func86,Tryz.ntmps86
 go_wp2_with (go_at_call 233;refine(kh _).mono ?_;rintro e w' ⟨rfl,rfl⟩)
 go_region_held3 (fun w'=>w'.cell? ⟨b,0,none⟩=some (.int .i64 nk)/\w'.cell? ⟨b,1,none⟩=some (.int .i64 nf)/\w'.cell? ⟨b,2,none⟩=some (.int .i64 nt)/\w'.cell? ⟨b,3,none⟩=some (.int .i64 nl)) (go_keep) (fail)
 go_wp2_with fail
 exact bodyPost_ret (results_cell_row rfl _ _ w.heap.size _ _ _ _ rfl ((Below.heap_alloc _ _ _ (by simp)).trans (heap_alloc_new w _)) Tryz.underlying44 rfl (by kernel_rfl)) rfl ⟨rfl,hbb _ _⟩
theorem rowOf1 (w:World) (b:Nat) (nk nf nt nl num:Int) (vk:Value) (nn:Int) (hb:w.heap[b]?=some (.cells #[.int .i64 nk,.int .i64 nf,.int .i64 nt,.int .i64 nl,.int .i64 num,vk,.int .i64 nn] 112 (0,0))):
  Calls Tryz.prog 86 #[.iface 109 (.pointer (some ⟨b,0,none⟩))] w fun e w'=>e= .returned (vNd ⟨nk,nf,nt,nl,0,nn,⟨#[]⟩,[],[]⟩ (.slice none 0 0) (.slice none 0 0))/\Below w.heap.size w w':=by
 have hm:=fun w=>meth1 b w
 have ha0:=fun w=>as10 b w
 have ha1:=fun w=>as11 b w
 have kh:=fun w=>head_any b w
 have c0:w.cell? ⟨b,0,none⟩=some (.int .i64 nk):=by rw[cell_of_row _ _ _ _ _ _ hb];rfl
 have c1:w.cell? ⟨b,1,none⟩=some (.int .i64 nf):=by rw[cell_of_row _ _ _ _ _ _ hb];rfl
 have c2:w.cell? ⟨b,2,none⟩=some (.int .i64 nt):=by rw[cell_of_row _ _ _ _ _ _ hb];rfl
 have c3:w.cell? ⟨b,3,none⟩=some (.int .i64 nl):=by rw[cell_of_row _ _ _ _ _ _ hb];rfl
 have c6:w.cell? ⟨b,6,none⟩=some (.int .i64 nn):=by rw[cell_of_row _ _ _ _ _ _ hb];rfl
 have hlt:=lt_of_block hb
 have hlt2:b<w.heap.size+1:=by omega
 have hne1:b≠w.heap.size:=by omega
 have hne2:b≠w.heap.size+1:=by omega
 have hbb:∀o1 o2,Below w.heap.size w ((w.alloc o1).alloc o2).drew:=fun o1 o2=>bel_drew1 (((Below.refl _ w).alloc (Nat.le_refl _) o1).alloc (by simp) o2)
 unfold vNd
 go_enter Tryz.func86,Tryz.ntmps86
 go_wp2_with (go_at_call 233;refine(kh _).mono ?_;rintro e w' ⟨rfl,rfl⟩)
 go_region_held3 (fun w'=>w'.cell? ⟨b,0,none⟩=some (.int .i64 nk)/\w'.cell? ⟨b,1,none⟩=some (.int .i64 nf)/\w'.cell? ⟨b,2,none⟩=some (.int .i64 nt)/\w'.cell? ⟨b,3,none⟩=some (.int .i64 nl)) (go_keep) (fail)
 go_wp2_with fail
 exact bodyPost_ret (results_cell_row rfl _ _ w.heap.size _ _ _ _ rfl ((Below.heap_alloc _ _ _ (by simp)).trans (heap_alloc_new w _)) Tryz.underlying44 rfl (by kernel_rfl)) rfl ⟨rfl,hbb _ _⟩
theorem rowOf2 (w:World) (b:Nat) (nk nf nt nl num:Int) (vk:Value) (nn:Int) (hb:w.heap[b]?=some (.cells #[.int .i64 nk,.int .i64 nf,.int .i64 nt,.int .i64 nl,.int .i64 num,vk,.int .i64 nn] 117 (0,0))):
  Calls Tryz.prog 86 #[.iface 118 (.pointer (some ⟨b,0,none⟩))] w fun e w'=>e= .returned (vNd ⟨nk,nf,nt,nl,0,nn,⟨#[]⟩,[],[]⟩ (.slice none 0 0) (.slice none 0 0))/\Below w.heap.size w w':=by
 have hm:=fun w=>meth2 b w
 have ha0:=fun w=>as20 b w
 have ha1:=fun w=>as21 b w
 have ha2:=fun w=>as22 b w
 have kh:=fun w=>head_any b w
 have c0:w.cell? ⟨b,0,none⟩=some (.int .i64 nk):=by rw[cell_of_row _ _ _ _ _ _ hb];rfl
 have c1:w.cell? ⟨b,1,none⟩=some (.int .i64 nf):=by rw[cell_of_row _ _ _ _ _ _ hb];rfl
 have c2:w.cell? ⟨b,2,none⟩=some (.int .i64 nt):=by rw[cell_of_row _ _ _ _ _ _ hb];rfl
 have c3:w.cell? ⟨b,3,none⟩=some (.int .i64 nl):=by rw[cell_of_row _ _ _ _ _ _ hb];rfl
 have c6:w.cell? ⟨b,6,none⟩=some (.int .i64 nn):=by rw[cell_of_row _ _ _ _ _ _ hb];rfl
 have hlt:=lt_of_block hb
 have hlt2:b<w.heap.size+1:=by omega
 have hne1:b≠w.heap.size:=by omega
 have hne2:b≠w.heap.size+1:=by omega
 have hbb:∀o1 o2,Below w.heap.size w ((w.alloc o1).alloc o2).drew:=fun o1 o2=>bel_drew1 (((Below.refl _ w).alloc (Nat.le_refl _) o1).alloc (by simp) o2)
 unfold vNd
 go_enter Tryz.func86,Tryz.ntmps86
 go_wp2_with (go_at_call 233;refine(kh _).mono ?_;rintro e w' ⟨rfl,rfl⟩)
 go_region_held3 (fun w'=>w'.cell? ⟨b,0,none⟩=some (.int .i64 nk)/\w'.cell? ⟨b,1,none⟩=some (.int .i64 nf)/\w'.cell? ⟨b,2,none⟩=some (.int .i64 nt)/\w'.cell? ⟨b,3,none⟩=some (.int .i64 nl)) (go_keep) (fail)
 go_wp2_with fail
 exact bodyPost_ret (results_cell_row rfl _ _ w.heap.size _ _ _ _ rfl ((Below.heap_alloc _ _ _ (by simp)).trans (heap_alloc_new w _)) Tryz.underlying44 rfl (by kernel_rfl)) rfl ⟨rfl,hbb _ _⟩
theorem rowOf3 (w:World) (b:Nat) (nk nf nt nl num:Int) (vk:Value) (nx:ByteArray) (hb:w.heap[b]?=some (.cells #[.int .i64 nk,.int .i64 nf,.int .i64 nt,.int .i64 nl,.int .i64 num,vk,.string nx] 120 (0,0))):
  Calls Tryz.prog 86 #[.iface 121 (.pointer (some ⟨b,0,none⟩))] w fun e w'=>e= .returned (vNd ⟨nk,nf,nt,nl,0,0,nx,[],[]⟩ (.slice none 0 0) (.slice none 0 0))/\Below w.heap.size w w':=by
 have hm:=fun w=>meth3 b w
 have ha0:=fun w=>as30 b w
 have ha1:=fun w=>as31 b w
 have ha2:=fun w=>as32 b w
 have ha3:=fun w=>as33 b w
 have kh:=fun w=>head_any b w
 have c0:w.cell? ⟨b,0,none⟩=some (.int .i64 nk):=by rw[cell_of_row _ _ _ _ _ _ hb];rfl
 have c1:w.cell? ⟨b,1,none⟩=some (.int .i64 nf):=by rw[cell_of_row _ _ _ _ _ _ hb];rfl
 have c2:w.cell? ⟨b,2,none⟩=some (.int .i64 nt):=by rw[cell_of_row _ _ _ _ _ _ hb];rfl
 have c3:w.cell? ⟨b,3,none⟩=some (.int .i64 nl):=by rw[cell_of_row _ _ _ _ _ _ hb];rfl
 have c6:w.cell? ⟨b,6,none⟩=some (.string nx):=by rw[cell_of_row _ _ _ _ _ _ hb];rfl
 have hlt:=lt_of_block hb
 have hlt2:b<w.heap.size+1:=by omega
 have hne1:b≠w.heap.size:=by omega
 have hne2:b≠w.heap.size+1:=by omega
 have hbb:∀o1 o2,Below w.heap.size w ((w.alloc o1).alloc o2).drew:=fun o1 o2=>bel_drew1 (((Below.refl _ w).alloc (Nat.le_refl _) o1).alloc (by simp) o2)
 unfold vNd
 go_enter Tryz.func86,Tryz.ntmps86
 go_wp2_with (go_at_call 233;refine(kh _).mono ?_;rintro e w' ⟨rfl,rfl⟩)
 go_region_held3 (fun w'=>w'.cell? ⟨b,0,none⟩=some (.int .i64 nk)/\w'.cell? ⟨b,1,none⟩=some (.int .i64 nf)/\w'.cell? ⟨b,2,none⟩=some (.int .i64 nt)/\w'.cell? ⟨b,3,none⟩=some (.int .i64 nl)) (go_keep) (fail)
 go_wp2_with fail
 exact bodyPost_ret (results_cell_row rfl _ _ w.heap.size _ _ _ _ rfl ((Below.heap_alloc _ _ _ (by simp)).trans (heap_alloc_new w _)) Tryz.underlying44 rfl (by kernel_rfl)) rfl ⟨rfl,hbb _ _⟩
theorem rowOf4 (w:World) (b:Nat) (nk nf nt nl num:Int) (vk:Value) (nop:Int) (hb:w.heap[b]?=some (.cells #[.int .i64 nk,.int .i64 nf,.int .i64 nt,.int .i64 nl,.int .i64 num,vk,.int .i64 nop] 130 (0,0))):
  Calls Tryz.prog 86 #[.iface 128 (.pointer (some ⟨b,0,none⟩))] w fun e w'=>e= .returned (vNd ⟨nk,nf,nt,nl,nop,0,⟨#[]⟩,[],[]⟩ (.slice none 0 0) (.slice none 0 0))/\Below w.heap.size w w':=by
 have hm:=fun w=>meth4 b w
 have ha0:=fun w=>as40 b w
 have ha1:=fun w=>as41 b w
 have ha2:=fun w=>as42 b w
 have ha3:=fun w=>as43 b w
 have ha4:=fun w=>as44 b w
 have kh:=fun w=>head_any b w
 have c0:w.cell? ⟨b,0,none⟩=some (.int .i64 nk):=by rw[cell_of_row _ _ _ _ _ _ hb];rfl
 have c1:w.cell? ⟨b,1,none⟩=some (.int .i64 nf):=by rw[cell_of_row _ _ _ _ _ _ hb];rfl
 have c2:w.cell? ⟨b,2,none⟩=some (.int .i64 nt):=by rw[cell_of_row _ _ _ _ _ _ hb];rfl
 have c3:w.cell? ⟨b,3,none⟩=some (.int .i64 nl):=by rw[cell_of_row _ _ _ _ _ _ hb];rfl
 have c6:w.cell? ⟨b,6,none⟩=some (.int .i64 nop):=by rw[cell_of_row _ _ _ _ _ _ hb];rfl
 have hlt:=lt_of_block hb
 have hlt2:b<w.heap.size+1:=by omega
 have hne1:b≠w.heap.size:=by omega
 have hne2:b≠w.heap.size+1:=by omega
 have hbb:∀o1 o2,Below w.heap.size w ((w.alloc o1).alloc o2).drew:=fun o1 o2=>bel_drew1 (((Below.refl _ w).alloc (Nat.le_refl _) o1).alloc (by simp) o2)
 unfold vNd
 go_enter Tryz.func86,Tryz.ntmps86
 go_wp2_with (go_at_call 233;refine(kh _).mono ?_;rintro e w' ⟨rfl,rfl⟩)
 go_region_held3 (fun w'=>w'.cell? ⟨b,0,none⟩=some (.int .i64 nk)/\w'.cell? ⟨b,1,none⟩=some (.int .i64 nf)/\w'.cell? ⟨b,2,none⟩=some (.int .i64 nt)/\w'.cell? ⟨b,3,none⟩=some (.int .i64 nl)) (go_keep) (fail)
 go_wp2_with fail
 exact bodyPost_ret (results_cell_row rfl _ _ w.heap.size _ _ _ _ rfl ((Below.heap_alloc _ _ _ (by simp)).trans (heap_alloc_new w _)) Tryz.underlying44 rfl (by kernel_rfl)) rfl ⟨rfl,hbb _ _⟩
theorem rowOf5 (w:World) (b:Nat) (nk nf nt nl num:Int) (vk:Value) (a1:Option Addr) (n1 e1:Nat) (br:Bool) (hb:w.heap[b]?=some (.cells #[.int .i64 nk,.int .i64 nf,.int .i64 nt,.int .i64 nl,.int .i64 num,vk,.slice a1 n1 e1,.bool br] 147 (0,0))):
  Calls Tryz.prog 86 #[.iface 145 (.pointer (some ⟨b,0,none⟩))] w fun e w'=>e= .returned (vNd ⟨nk,nf,nt,nl,(if br then 1 else 0),0,⟨#[]⟩,[],[]⟩ (.slice a1 n1 e1) (.slice none 0 0))/\Below w.heap.size w w':=by
 have hm:=fun w=>meth5 b w
 have ha0:=fun w=>as50 b w
 have ha1:=fun w=>as51 b w
 have ha2:=fun w=>as52 b w
 have ha3:=fun w=>as53 b w
 have ha4:=fun w=>as54 b w
 have ha5:=fun w=>as55 b w
 have kh:=fun w=>head_any b w
 have c0:w.cell? ⟨b,0,none⟩=some (.int .i64 nk):=by rw[cell_of_row _ _ _ _ _ _ hb];rfl
 have c1:w.cell? ⟨b,1,none⟩=some (.int .i64 nf):=by rw[cell_of_row _ _ _ _ _ _ hb];rfl
 have c2:w.cell? ⟨b,2,none⟩=some (.int .i64 nt):=by rw[cell_of_row _ _ _ _ _ _ hb];rfl
 have c3:w.cell? ⟨b,3,none⟩=some (.int .i64 nl):=by rw[cell_of_row _ _ _ _ _ _ hb];rfl
 have c6:w.cell? ⟨b,6,none⟩=some (.slice a1 n1 e1):=by rw[cell_of_row _ _ _ _ _ _ hb];rfl
 have c7:w.cell? ⟨b,7,none⟩=some (.bool br):=by rw[cell_of_row _ _ _ _ _ _ hb];rfl
 have hlt:=lt_of_block hb
 have hlt2:b<w.heap.size+1:=by omega
 have hne1:b≠w.heap.size:=by omega
 have hne2:b≠w.heap.size+1:=by omega
 have hbb:∀o1 o2,Below w.heap.size w ((w.alloc o1).alloc o2).drew:=fun o1 o2=>bel_drew1 (((Below.refl _ w).alloc (Nat.le_refl _) o1).alloc (by simp) o2)
 unfold vNd
 cases br
 all_goals
  go_enter Tryz.func86,Tryz.ntmps86
  go_wp2_with (go_at_call 233;refine(kh _).mono ?_;rintro e w' ⟨rfl,rfl⟩)
  go_region_held3 (fun w'=>w'.cell? ⟨b,0,none⟩=some (.int .i64 nk)/\w'.cell? ⟨b,1,none⟩=some (.int .i64 nf)/\w'.cell? ⟨b,2,none⟩=some (.int .i64 nt)/\w'.cell? ⟨b,3,none⟩=some (.int .i64 nl)) (go_keep) (fail)
  go_wp2_with fail
  exact bodyPost_ret (results_cell_row rfl _ _ w.heap.size _ _ _ _ rfl ((Below.heap_alloc _ _ _ (by simp)).trans (heap_alloc_new w _)) Tryz.underlying44 rfl (by kernel_rfl)) rfl ⟨rfl,hbb _ _⟩
theorem rowOf6 (w:World) (b:Nat) (nk nf nt nl num:Int) (vk:Value) (hb:w.heap[b]?=some (.cells #[.int .i64 nk,.int .i64 nf,.int .i64 nt,.int .i64 nl,.int .i64 num,vk] 150 (0,0))):
  Calls Tryz.prog 86 #[.iface 148 (.pointer (some ⟨b,0,none⟩))] w fun e w'=>e= .returned (vNd ⟨nk,nf,nt,nl,0,0,⟨#[]⟩,[],[]⟩ (.slice none 0 0) (.slice none 0 0))/\Below w.heap.size w w':=by
 have hm:=fun w=>meth6 b w
 have ha0:=fun w=>as60 b w
 have ha1:=fun w=>as61 b w
 have ha2:=fun w=>as62 b w
 have ha3:=fun w=>as63 b w
 have ha4:=fun w=>as64 b w
 have ha5:=fun w=>as65 b w
 have kh:=fun w=>head_any b w
 have c0:w.cell? ⟨b,0,none⟩=some (.int .i64 nk):=by rw[cell_of_row _ _ _ _ _ _ hb];rfl
 have c1:w.cell? ⟨b,1,none⟩=some (.int .i64 nf):=by rw[cell_of_row _ _ _ _ _ _ hb];rfl
 have c2:w.cell? ⟨b,2,none⟩=some (.int .i64 nt):=by rw[cell_of_row _ _ _ _ _ _ hb];rfl
 have c3:w.cell? ⟨b,3,none⟩=some (.int .i64 nl):=by rw[cell_of_row _ _ _ _ _ _ hb];rfl
 have hlt:=lt_of_block hb
 have hlt2:b<w.heap.size+1:=by omega
 have hne1:b≠w.heap.size:=by omega
 have hne2:b≠w.heap.size+1:=by omega
 have hbb:∀o1 o2,Below w.heap.size w ((w.alloc o1).alloc o2).drew:=fun o1 o2=>bel_drew1 (((Below.refl _ w).alloc (Nat.le_refl _) o1).alloc (by simp) o2)
 unfold vNd
 go_enter Tryz.func86,Tryz.ntmps86
 go_wp2_with (go_at_call 233;refine(kh _).mono ?_;rintro e w' ⟨rfl,rfl⟩)
 go_region_held3 (fun w'=>w'.cell? ⟨b,0,none⟩=some (.int .i64 nk)/\w'.cell? ⟨b,1,none⟩=some (.int .i64 nf)/\w'.cell? ⟨b,2,none⟩=some (.int .i64 nt)/\w'.cell? ⟨b,3,none⟩=some (.int .i64 nl)) (go_keep) (fail)
 go_wp2_with fail
 exact bodyPost_ret (results_cell_row rfl _ _ w.heap.size _ _ _ _ rfl ((Below.heap_alloc _ _ _ (by simp)).trans (heap_alloc_new w _)) Tryz.underlying44 rfl (by kernel_rfl)) rfl ⟨rfl,hbb _ _⟩
end Go.Proofs.YtelfejiiabbpfaaGreatDoor
