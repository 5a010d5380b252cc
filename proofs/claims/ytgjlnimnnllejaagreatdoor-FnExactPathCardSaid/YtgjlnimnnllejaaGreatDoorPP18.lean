import Derived.Test.YtgjlnimnnllejaaGreatDoorPP17
import Derived.Test.YtgjlnimnnllejaaGreatDoorPP07
import Derived.Test.YtgjlnimnnllejaaGreatDoorPP08
import Derived.Test.YtgjlnimnnllejaaGreatDoorPP11
namespace Go.Proofs.YtgjlnimnnllejaaGreatDoor
open Go.RowKit
set_option linter.unusedVariables false

theorem head_any (b : Nat) (w : World) : Calls Tryz.prog 155 #[.pointer (some ⟨b, 0, none⟩)] w fun e w' => e = .returned (.pointer (some ⟨b, 0, none⟩)) ∧ w' = w := by
  go_enter Tryz.func155, Tryz.ntmps155
  go_wp2
  go_ret
  exact ⟨rfl, rfl⟩

/-- What comes back of a row out of its node. -/
def rowN (N : Nd) : Nat → Nd
  | 0 => ⟨N.k, N.f, N.t, N.l, 0, 0, ⟨#[]⟩, N.nm, []⟩
  | 1 => ⟨N.k, N.f, N.t, N.l, 0, N.n, ⟨#[]⟩, [], []⟩
  | 2 => ⟨N.k, N.f, N.t, N.l, 0, N.n, ⟨#[]⟩, [], []⟩
  | 3 => ⟨N.k, N.f, N.t, N.l, 0, 0, N.x, [], []⟩
  | 4 => ⟨N.k, N.f, N.t, N.l, N.op, 0, ⟨#[]⟩, [], []⟩
  | 5 => ⟨N.k, N.f, N.t, N.l, (if N.op = 1 then 1 else 0), 0, ⟨#[]⟩, N.nm, []⟩
  | _ => ⟨N.k, N.f, N.t, N.l, 0, 0, ⟨#[]⟩, [], []⟩
def rowV (vn : Value) : Nat → Value
  | 0 => vn
  | 5 => vn
  | _ => .slice none 0 0

theorem meth0 (b : Nat) (w : World) : (method 329 98 (.pointer (some ⟨b, 0, none⟩)) "loop.example/warp/impl.head").run Tryz.prog w = .ok (155, .pointer (some ⟨b, 0, none⟩)) w := by kernel_rfl
theorem meth1 (b : Nat) (w : World) : (method 329 101 (.pointer (some ⟨b, 0, none⟩)) "loop.example/warp/impl.head").run Tryz.prog w = .ok (155, .pointer (some ⟨b, 0, none⟩)) w := by kernel_rfl
theorem meth2 (b : Nat) (w : World) : (method 329 104 (.pointer (some ⟨b, 0, none⟩)) "loop.example/warp/impl.head").run Tryz.prog w = .ok (155, .pointer (some ⟨b, 0, none⟩)) w := by kernel_rfl
theorem meth3 (b : Nat) (w : World) : (method 329 107 (.pointer (some ⟨b, 0, none⟩)) "loop.example/warp/impl.head").run Tryz.prog w = .ok (155, .pointer (some ⟨b, 0, none⟩)) w := by kernel_rfl
theorem meth4 (b : Nat) (w : World) : (method 329 110 (.pointer (some ⟨b, 0, none⟩)) "loop.example/warp/impl.head").run Tryz.prog w = .ok (155, .pointer (some ⟨b, 0, none⟩)) w := by kernel_rfl
theorem meth5 (b : Nat) (w : World) : (method 329 113 (.pointer (some ⟨b, 0, none⟩)) "loop.example/warp/impl.head").run Tryz.prog w = .ok (155, .pointer (some ⟨b, 0, none⟩)) w := by kernel_rfl
theorem meth6 (b : Nat) (w : World) : (method 329 116 (.pointer (some ⟨b, 0, none⟩)) "loop.example/warp/impl.head").run Tryz.prog w = .ok (155, .pointer (some ⟨b, 0, none⟩)) w := by kernel_rfl

theorem as00 (b : Nat) (w : World) : (Instr.typeAssert (.iface 98 (.pointer (some ⟨b, 0, none⟩))) 50 98 true).run Tryz.prog w = .ok (.tuple #[.pointer (some ⟨b, 0, none⟩), .bool true]) w := by kernel_rfl
theorem as01 (b : Nat) (w : World) : (Instr.typeAssert (.iface 98 (.pointer (some ⟨b, 0, none⟩))) 50 101 true).run Tryz.prog w = .ok (.tuple #[.pointer none, .bool false]) w := by kernel_rfl
theorem as02 (b : Nat) (w : World) : (Instr.typeAssert (.iface 98 (.pointer (some ⟨b, 0, none⟩))) 50 104 true).run Tryz.prog w = .ok (.tuple #[.pointer none, .bool false]) w := by kernel_rfl
theorem as03 (b : Nat) (w : World) : (Instr.typeAssert (.iface 98 (.pointer (some ⟨b, 0, none⟩))) 50 107 true).run Tryz.prog w = .ok (.tuple #[.pointer none, .bool false]) w := by kernel_rfl
theorem as04 (b : Nat) (w : World) : (Instr.typeAssert (.iface 98 (.pointer (some ⟨b, 0, none⟩))) 50 110 true).run Tryz.prog w = .ok (.tuple #[.pointer none, .bool false]) w := by kernel_rfl
theorem as05 (b : Nat) (w : World) : (Instr.typeAssert (.iface 98 (.pointer (some ⟨b, 0, none⟩))) 50 113 true).run Tryz.prog w = .ok (.tuple #[.pointer none, .bool false]) w := by kernel_rfl
theorem as10 (b : Nat) (w : World) : (Instr.typeAssert (.iface 101 (.pointer (some ⟨b, 0, none⟩))) 50 98 true).run Tryz.prog w = .ok (.tuple #[.pointer none, .bool false]) w := by kernel_rfl
theorem as11 (b : Nat) (w : World) : (Instr.typeAssert (.iface 101 (.pointer (some ⟨b, 0, none⟩))) 50 101 true).run Tryz.prog w = .ok (.tuple #[.pointer (some ⟨b, 0, none⟩), .bool true]) w := by kernel_rfl
theorem as12 (b : Nat) (w : World) : (Instr.typeAssert (.iface 101 (.pointer (some ⟨b, 0, none⟩))) 50 104 true).run Tryz.prog w = .ok (.tuple #[.pointer none, .bool false]) w := by kernel_rfl
theorem as13 (b : Nat) (w : World) : (Instr.typeAssert (.iface 101 (.pointer (some ⟨b, 0, none⟩))) 50 107 true).run Tryz.prog w = .ok (.tuple #[.pointer none, .bool false]) w := by kernel_rfl
theorem as14 (b : Nat) (w : World) : (Instr.typeAssert (.iface 101 (.pointer (some ⟨b, 0, none⟩))) 50 110 true).run Tryz.prog w = .ok (.tuple #[.pointer none, .bool false]) w := by kernel_rfl
theorem as15 (b : Nat) (w : World) : (Instr.typeAssert (.iface 101 (.pointer (some ⟨b, 0, none⟩))) 50 113 true).run Tryz.prog w = .ok (.tuple #[.pointer none, .bool false]) w := by kernel_rfl
theorem as20 (b : Nat) (w : World) : (Instr.typeAssert (.iface 104 (.pointer (some ⟨b, 0, none⟩))) 50 98 true).run Tryz.prog w = .ok (.tuple #[.pointer none, .bool false]) w := by kernel_rfl
theorem as21 (b : Nat) (w : World) : (Instr.typeAssert (.iface 104 (.pointer (some ⟨b, 0, none⟩))) 50 101 true).run Tryz.prog w = .ok (.tuple #[.pointer none, .bool false]) w := by kernel_rfl
theorem as22 (b : Nat) (w : World) : (Instr.typeAssert (.iface 104 (.pointer (some ⟨b, 0, none⟩))) 50 104 true).run Tryz.prog w = .ok (.tuple #[.pointer (some ⟨b, 0, none⟩), .bool true]) w := by kernel_rfl
theorem as23 (b : Nat) (w : World) : (Instr.typeAssert (.iface 104 (.pointer (some ⟨b, 0, none⟩))) 50 107 true).run Tryz.prog w = .ok (.tuple #[.pointer none, .bool false]) w := by kernel_rfl
theorem as24 (b : Nat) (w : World) : (Instr.typeAssert (.iface 104 (.pointer (some ⟨b, 0, none⟩))) 50 110 true).run Tryz.prog w = .ok (.tuple #[.pointer none, .bool false]) w := by kernel_rfl
theorem as25 (b : Nat) (w : World) : (Instr.typeAssert (.iface 104 (.pointer (some ⟨b, 0, none⟩))) 50 113 true).run Tryz.prog w = .ok (.tuple #[.pointer none, .bool false]) w := by kernel_rfl
theorem as30 (b : Nat) (w : World) : (Instr.typeAssert (.iface 107 (.pointer (some ⟨b, 0, none⟩))) 50 98 true).run Tryz.prog w = .ok (.tuple #[.pointer none, .bool false]) w := by kernel_rfl
theorem as31 (b : Nat) (w : World) : (Instr.typeAssert (.iface 107 (.pointer (some ⟨b, 0, none⟩))) 50 101 true).run Tryz.prog w = .ok (.tuple #[.pointer none, .bool false]) w := by kernel_rfl
theorem as32 (b : Nat) (w : World) : (Instr.typeAssert (.iface 107 (.pointer (some ⟨b, 0, none⟩))) 50 104 true).run Tryz.prog w = .ok (.tuple #[.pointer none, .bool false]) w := by kernel_rfl
theorem as33 (b : Nat) (w : World) : (Instr.typeAssert (.iface 107 (.pointer (some ⟨b, 0, none⟩))) 50 107 true).run Tryz.prog w = .ok (.tuple #[.pointer (some ⟨b, 0, none⟩), .bool true]) w := by kernel_rfl
theorem as34 (b : Nat) (w : World) : (Instr.typeAssert (.iface 107 (.pointer (some ⟨b, 0, none⟩))) 50 110 true).run Tryz.prog w = .ok (.tuple #[.pointer none, .bool false]) w := by kernel_rfl
theorem as35 (b : Nat) (w : World) : (Instr.typeAssert (.iface 107 (.pointer (some ⟨b, 0, none⟩))) 50 113 true).run Tryz.prog w = .ok (.tuple #[.pointer none, .bool false]) w := by kernel_rfl
theorem as40 (b : Nat) (w : World) : (Instr.typeAssert (.iface 110 (.pointer (some ⟨b, 0, none⟩))) 50 98 true).run Tryz.prog w = .ok (.tuple #[.pointer none, .bool false]) w := by kernel_rfl
theorem as41 (b : Nat) (w : World) : (Instr.typeAssert (.iface 110 (.pointer (some ⟨b, 0, none⟩))) 50 101 true).run Tryz.prog w = .ok (.tuple #[.pointer none, .bool false]) w := by kernel_rfl
theorem as42 (b : Nat) (w : World) : (Instr.typeAssert (.iface 110 (.pointer (some ⟨b, 0, none⟩))) 50 104 true).run Tryz.prog w = .ok (.tuple #[.pointer none, .bool false]) w := by kernel_rfl
theorem as43 (b : Nat) (w : World) : (Instr.typeAssert (.iface 110 (.pointer (some ⟨b, 0, none⟩))) 50 107 true).run Tryz.prog w = .ok (.tuple #[.pointer none, .bool false]) w := by kernel_rfl
theorem as44 (b : Nat) (w : World) : (Instr.typeAssert (.iface 110 (.pointer (some ⟨b, 0, none⟩))) 50 110 true).run Tryz.prog w = .ok (.tuple #[.pointer (some ⟨b, 0, none⟩), .bool true]) w := by kernel_rfl
theorem as45 (b : Nat) (w : World) : (Instr.typeAssert (.iface 110 (.pointer (some ⟨b, 0, none⟩))) 50 113 true).run Tryz.prog w = .ok (.tuple #[.pointer none, .bool false]) w := by kernel_rfl
theorem as50 (b : Nat) (w : World) : (Instr.typeAssert (.iface 113 (.pointer (some ⟨b, 0, none⟩))) 50 98 true).run Tryz.prog w = .ok (.tuple #[.pointer none, .bool false]) w := by kernel_rfl
theorem as51 (b : Nat) (w : World) : (Instr.typeAssert (.iface 113 (.pointer (some ⟨b, 0, none⟩))) 50 101 true).run Tryz.prog w = .ok (.tuple #[.pointer none, .bool false]) w := by kernel_rfl
theorem as52 (b : Nat) (w : World) : (Instr.typeAssert (.iface 113 (.pointer (some ⟨b, 0, none⟩))) 50 104 true).run Tryz.prog w = .ok (.tuple #[.pointer none, .bool false]) w := by kernel_rfl
theorem as53 (b : Nat) (w : World) : (Instr.typeAssert (.iface 113 (.pointer (some ⟨b, 0, none⟩))) 50 107 true).run Tryz.prog w = .ok (.tuple #[.pointer none, .bool false]) w := by kernel_rfl
theorem as54 (b : Nat) (w : World) : (Instr.typeAssert (.iface 113 (.pointer (some ⟨b, 0, none⟩))) 50 110 true).run Tryz.prog w = .ok (.tuple #[.pointer none, .bool false]) w := by kernel_rfl
theorem as55 (b : Nat) (w : World) : (Instr.typeAssert (.iface 113 (.pointer (some ⟨b, 0, none⟩))) 50 113 true).run Tryz.prog w = .ok (.tuple #[.pointer (some ⟨b, 0, none⟩), .bool true]) w := by kernel_rfl
theorem as60 (b : Nat) (w : World) : (Instr.typeAssert (.iface 116 (.pointer (some ⟨b, 0, none⟩))) 50 98 true).run Tryz.prog w = .ok (.tuple #[.pointer none, .bool false]) w := by kernel_rfl
theorem as61 (b : Nat) (w : World) : (Instr.typeAssert (.iface 116 (.pointer (some ⟨b, 0, none⟩))) 50 101 true).run Tryz.prog w = .ok (.tuple #[.pointer none, .bool false]) w := by kernel_rfl
theorem as62 (b : Nat) (w : World) : (Instr.typeAssert (.iface 116 (.pointer (some ⟨b, 0, none⟩))) 50 104 true).run Tryz.prog w = .ok (.tuple #[.pointer none, .bool false]) w := by kernel_rfl
theorem as63 (b : Nat) (w : World) : (Instr.typeAssert (.iface 116 (.pointer (some ⟨b, 0, none⟩))) 50 107 true).run Tryz.prog w = .ok (.tuple #[.pointer none, .bool false]) w := by kernel_rfl
theorem as64 (b : Nat) (w : World) : (Instr.typeAssert (.iface 116 (.pointer (some ⟨b, 0, none⟩))) 50 110 true).run Tryz.prog w = .ok (.tuple #[.pointer none, .bool false]) w := by kernel_rfl
theorem as65 (b : Nat) (w : World) : (Instr.typeAssert (.iface 116 (.pointer (some ⟨b, 0, none⟩))) 50 113 true).run Tryz.prog w = .ok (.tuple #[.pointer none, .bool false]) w := by kernel_rfl
set_option maxRecDepth 100000 in
set_option maxHeartbeats 6400000 in
theorem rowOf0 (w : World) (b : Nat) (nk nf nt nl num : Int) (vk : Value) (a1 : Option Addr) (n1 e1 : Nat) (hb : w.heap[b]? = some (.cells #[.int .i64 nk, .int .i64 nf, .int .i64 nt, .int .i64 nl, .int .i64 num, vk, .slice a1 n1 e1] 100 (0, 0))) :
    Calls Tryz.prog 50 #[.iface 98 (.pointer (some ⟨b, 0, none⟩))] w fun e w' => e = .returned (vNd ⟨nk, nf, nt, nl, 0, 0, ⟨#[]⟩, [], []⟩ (.slice a1 n1 e1) (.slice none 0 0)) ∧ Below w.heap.size w w' := by
  have hm := fun w => meth0 b w
  have ha0 := fun w => as00 b w
  have kh := fun w => head_any b w
  have c0 : w.cell? ⟨b, 0, none⟩ = some (.int .i64 nk) := by rw [cell_of_row _ _ _ _ _ _ hb]; rfl
  have c1 : w.cell? ⟨b, 1, none⟩ = some (.int .i64 nf) := by rw [cell_of_row _ _ _ _ _ _ hb]; rfl
  have c2 : w.cell? ⟨b, 2, none⟩ = some (.int .i64 nt) := by rw [cell_of_row _ _ _ _ _ _ hb]; rfl
  have c3 : w.cell? ⟨b, 3, none⟩ = some (.int .i64 nl) := by rw [cell_of_row _ _ _ _ _ _ hb]; rfl
  have c6 : w.cell? ⟨b, 6, none⟩ = some (.slice a1 n1 e1) := by rw [cell_of_row _ _ _ _ _ _ hb]; rfl
  have hlt := lt_of_block hb
  have hlt2 : b < w.heap.size + 1 := by omega
  have hne1 : b ≠ w.heap.size := by omega
  have hne2 : b ≠ w.heap.size + 1 := by omega
  have hbb : ∀ o1 o2, Below w.heap.size w ((w.alloc o1).alloc o2).drew := fun o1 o2 => bel_drew1 (((Below.refl _ w).alloc (Nat.le_refl _) o1).alloc (by simp) o2)
  unfold vNd
  go_enter Tryz.func50, Tryz.ntmps50
  go_wp2_with (go_at_call 155; refine (kh _).mono ?_; rintro e w' ⟨rfl, rfl⟩)
  go_region_held3 (fun w' => w'.cell? ⟨b, 0, none⟩ = some (.int .i64 nk) ∧ w'.cell? ⟨b, 1, none⟩ = some (.int .i64 nf) ∧ w'.cell? ⟨b, 2, none⟩ = some (.int .i64 nt) ∧ w'.cell? ⟨b, 3, none⟩ = some (.int .i64 nl)) (go_keep) (fail)
  go_wp2_with fail
  exact bodyPost_ret (results_cell_row rfl _ _ w.heap.size _ _ _ _ rfl ((Below.heap_alloc _ _ _ (by simp)).trans (heap_alloc_new w _)) Tryz.underlying45 rfl (by kernel_rfl)) rfl ⟨rfl, hbb _ _⟩
set_option maxRecDepth 100000 in
set_option maxHeartbeats 6400000 in
theorem rowOf1 (w : World) (b : Nat) (nk nf nt nl num : Int) (vk : Value) (nn : Int) (hb : w.heap[b]? = some (.cells #[.int .i64 nk, .int .i64 nf, .int .i64 nt, .int .i64 nl, .int .i64 num, vk, .int .i64 nn] 103 (0, 0))) :
    Calls Tryz.prog 50 #[.iface 101 (.pointer (some ⟨b, 0, none⟩))] w fun e w' => e = .returned (vNd ⟨nk, nf, nt, nl, 0, nn, ⟨#[]⟩, [], []⟩ (.slice none 0 0) (.slice none 0 0)) ∧ Below w.heap.size w w' := by
  have hm := fun w => meth1 b w
  have ha0 := fun w => as10 b w
  have ha1 := fun w => as11 b w
  have kh := fun w => head_any b w
  have c0 : w.cell? ⟨b, 0, none⟩ = some (.int .i64 nk) := by rw [cell_of_row _ _ _ _ _ _ hb]; rfl
  have c1 : w.cell? ⟨b, 1, none⟩ = some (.int .i64 nf) := by rw [cell_of_row _ _ _ _ _ _ hb]; rfl
  have c2 : w.cell? ⟨b, 2, none⟩ = some (.int .i64 nt) := by rw [cell_of_row _ _ _ _ _ _ hb]; rfl
  have c3 : w.cell? ⟨b, 3, none⟩ = some (.int .i64 nl) := by rw [cell_of_row _ _ _ _ _ _ hb]; rfl
  have c6 : w.cell? ⟨b, 6, none⟩ = some (.int .i64 nn) := by rw [cell_of_row _ _ _ _ _ _ hb]; rfl
  have hlt := lt_of_block hb
  have hlt2 : b < w.heap.size + 1 := by omega
  have hne1 : b ≠ w.heap.size := by omega
  have hne2 : b ≠ w.heap.size + 1 := by omega
  have hbb : ∀ o1 o2, Below w.heap.size w ((w.alloc o1).alloc o2).drew := fun o1 o2 => bel_drew1 (((Below.refl _ w).alloc (Nat.le_refl _) o1).alloc (by simp) o2)
  unfold vNd
  go_enter Tryz.func50, Tryz.ntmps50
  go_wp2_with (go_at_call 155; refine (kh _).mono ?_; rintro e w' ⟨rfl, rfl⟩)
  go_region_held3 (fun w' => w'.cell? ⟨b, 0, none⟩ = some (.int .i64 nk) ∧ w'.cell? ⟨b, 1, none⟩ = some (.int .i64 nf) ∧ w'.cell? ⟨b, 2, none⟩ = some (.int .i64 nt) ∧ w'.cell? ⟨b, 3, none⟩ = some (.int .i64 nl)) (go_keep) (fail)
  go_wp2_with fail
  exact bodyPost_ret (results_cell_row rfl _ _ w.heap.size _ _ _ _ rfl ((Below.heap_alloc _ _ _ (by simp)).trans (heap_alloc_new w _)) Tryz.underlying45 rfl (by kernel_rfl)) rfl ⟨rfl, hbb _ _⟩
set_option maxRecDepth 100000 in
set_option maxHeartbeats 6400000 in
theorem rowOf2 (w : World) (b : Nat) (nk nf nt nl num : Int) (vk : Value) (nn : Int) (hb : w.heap[b]? = some (.cells #[.int .i64 nk, .int .i64 nf, .int .i64 nt, .int .i64 nl, .int .i64 num, vk, .int .i64 nn] 106 (0, 0))) :
    Calls Tryz.prog 50 #[.iface 104 (.pointer (some ⟨b, 0, none⟩))] w fun e w' => e = .returned (vNd ⟨nk, nf, nt, nl, 0, nn, ⟨#[]⟩, [], []⟩ (.slice none 0 0) (.slice none 0 0)) ∧ Below w.heap.size w w' := by
  have hm := fun w => meth2 b w
  have ha0 := fun w => as20 b w
  have ha1 := fun w => as21 b w
  have ha2 := fun w => as22 b w
  have kh := fun w => head_any b w
  have c0 : w.cell? ⟨b, 0, none⟩ = some (.int .i64 nk) := by rw [cell_of_row _ _ _ _ _ _ hb]; rfl
  have c1 : w.cell? ⟨b, 1, none⟩ = some (.int .i64 nf) := by rw [cell_of_row _ _ _ _ _ _ hb]; rfl
  have c2 : w.cell? ⟨b, 2, none⟩ = some (.int .i64 nt) := by rw [cell_of_row _ _ _ _ _ _ hb]; rfl
  have c3 : w.cell? ⟨b, 3, none⟩ = some (.int .i64 nl) := by rw [cell_of_row _ _ _ _ _ _ hb]; rfl
  have c6 : w.cell? ⟨b, 6, none⟩ = some (.int .i64 nn) := by rw [cell_of_row _ _ _ _ _ _ hb]; rfl
  have hlt := lt_of_block hb
  have hlt2 : b < w.heap.size + 1 := by omega
  have hne1 : b ≠ w.heap.size := by omega
  have hne2 : b ≠ w.heap.size + 1 := by omega
  have hbb : ∀ o1 o2, Below w.heap.size w ((w.alloc o1).alloc o2).drew := fun o1 o2 => bel_drew1 (((Below.refl _ w).alloc (Nat.le_refl _) o1).alloc (by simp) o2)
  unfold vNd
  go_enter Tryz.func50, Tryz.ntmps50
  go_wp2_with (go_at_call 155; refine (kh _).mono ?_; rintro e w' ⟨rfl, rfl⟩)
  go_region_held3 (fun w' => w'.cell? ⟨b, 0, none⟩ = some (.int .i64 nk) ∧ w'.cell? ⟨b, 1, none⟩ = some (.int .i64 nf) ∧ w'.cell? ⟨b, 2, none⟩ = some (.int .i64 nt) ∧ w'.cell? ⟨b, 3, none⟩ = some (.int .i64 nl)) (go_keep) (fail)
  go_wp2_with fail
  exact bodyPost_ret (results_cell_row rfl _ _ w.heap.size _ _ _ _ rfl ((Below.heap_alloc _ _ _ (by simp)).trans (heap_alloc_new w _)) Tryz.underlying45 rfl (by kernel_rfl)) rfl ⟨rfl, hbb _ _⟩
set_option maxRecDepth 100000 in
set_option maxHeartbeats 6400000 in
theorem rowOf3 (w : World) (b : Nat) (nk nf nt nl num : Int) (vk : Value) (nx : ByteArray) (hb : w.heap[b]? = some (.cells #[.int .i64 nk, .int .i64 nf, .int .i64 nt, .int .i64 nl, .int .i64 num, vk, .string nx] 109 (0, 0))) :
    Calls Tryz.prog 50 #[.iface 107 (.pointer (some ⟨b, 0, none⟩))] w fun e w' => e = .returned (vNd ⟨nk, nf, nt, nl, 0, 0, nx, [], []⟩ (.slice none 0 0) (.slice none 0 0)) ∧ Below w.heap.size w w' := by
  have hm := fun w => meth3 b w
  have ha0 := fun w => as30 b w
  have ha1 := fun w => as31 b w
  have ha2 := fun w => as32 b w
  have ha3 := fun w => as33 b w
  have kh := fun w => head_any b w
  have c0 : w.cell? ⟨b, 0, none⟩ = some (.int .i64 nk) := by rw [cell_of_row _ _ _ _ _ _ hb]; rfl
  have c1 : w.cell? ⟨b, 1, none⟩ = some (.int .i64 nf) := by rw [cell_of_row _ _ _ _ _ _ hb]; rfl
  have c2 : w.cell? ⟨b, 2, none⟩ = some (.int .i64 nt) := by rw [cell_of_row _ _ _ _ _ _ hb]; rfl
  have c3 : w.cell? ⟨b, 3, none⟩ = some (.int .i64 nl) := by rw [cell_of_row _ _ _ _ _ _ hb]; rfl
  have c6 : w.cell? ⟨b, 6, none⟩ = some (.string nx) := by rw [cell_of_row _ _ _ _ _ _ hb]; rfl
  have hlt := lt_of_block hb
  have hlt2 : b < w.heap.size + 1 := by omega
  have hne1 : b ≠ w.heap.size := by omega
  have hne2 : b ≠ w.heap.size + 1 := by omega
  have hbb : ∀ o1 o2, Below w.heap.size w ((w.alloc o1).alloc o2).drew := fun o1 o2 => bel_drew1 (((Below.refl _ w).alloc (Nat.le_refl _) o1).alloc (by simp) o2)
  unfold vNd
  go_enter Tryz.func50, Tryz.ntmps50
  go_wp2_with (go_at_call 155; refine (kh _).mono ?_; rintro e w' ⟨rfl, rfl⟩)
  go_region_held3 (fun w' => w'.cell? ⟨b, 0, none⟩ = some (.int .i64 nk) ∧ w'.cell? ⟨b, 1, none⟩ = some (.int .i64 nf) ∧ w'.cell? ⟨b, 2, none⟩ = some (.int .i64 nt) ∧ w'.cell? ⟨b, 3, none⟩ = some (.int .i64 nl)) (go_keep) (fail)
  go_wp2_with fail
  exact bodyPost_ret (results_cell_row rfl _ _ w.heap.size _ _ _ _ rfl ((Below.heap_alloc _ _ _ (by simp)).trans (heap_alloc_new w _)) Tryz.underlying45 rfl (by kernel_rfl)) rfl ⟨rfl, hbb _ _⟩
set_option maxRecDepth 100000 in
set_option maxHeartbeats 6400000 in
theorem rowOf4 (w : World) (b : Nat) (nk nf nt nl num : Int) (vk : Value) (nop : Int) (hb : w.heap[b]? = some (.cells #[.int .i64 nk, .int .i64 nf, .int .i64 nt, .int .i64 nl, .int .i64 num, vk, .int .i64 nop] 112 (0, 0))) :
    Calls Tryz.prog 50 #[.iface 110 (.pointer (some ⟨b, 0, none⟩))] w fun e w' => e = .returned (vNd ⟨nk, nf, nt, nl, nop, 0, ⟨#[]⟩, [], []⟩ (.slice none 0 0) (.slice none 0 0)) ∧ Below w.heap.size w w' := by
  have hm := fun w => meth4 b w
  have ha0 := fun w => as40 b w
  have ha1 := fun w => as41 b w
  have ha2 := fun w => as42 b w
  have ha3 := fun w => as43 b w
  have ha4 := fun w => as44 b w
  have kh := fun w => head_any b w
  have c0 : w.cell? ⟨b, 0, none⟩ = some (.int .i64 nk) := by rw [cell_of_row _ _ _ _ _ _ hb]; rfl
  have c1 : w.cell? ⟨b, 1, none⟩ = some (.int .i64 nf) := by rw [cell_of_row _ _ _ _ _ _ hb]; rfl
  have c2 : w.cell? ⟨b, 2, none⟩ = some (.int .i64 nt) := by rw [cell_of_row _ _ _ _ _ _ hb]; rfl
  have c3 : w.cell? ⟨b, 3, none⟩ = some (.int .i64 nl) := by rw [cell_of_row _ _ _ _ _ _ hb]; rfl
  have c6 : w.cell? ⟨b, 6, none⟩ = some (.int .i64 nop) := by rw [cell_of_row _ _ _ _ _ _ hb]; rfl
  have hlt := lt_of_block hb
  have hlt2 : b < w.heap.size + 1 := by omega
  have hne1 : b ≠ w.heap.size := by omega
  have hne2 : b ≠ w.heap.size + 1 := by omega
  have hbb : ∀ o1 o2, Below w.heap.size w ((w.alloc o1).alloc o2).drew := fun o1 o2 => bel_drew1 (((Below.refl _ w).alloc (Nat.le_refl _) o1).alloc (by simp) o2)
  unfold vNd
  go_enter Tryz.func50, Tryz.ntmps50
  go_wp2_with (go_at_call 155; refine (kh _).mono ?_; rintro e w' ⟨rfl, rfl⟩)
  go_region_held3 (fun w' => w'.cell? ⟨b, 0, none⟩ = some (.int .i64 nk) ∧ w'.cell? ⟨b, 1, none⟩ = some (.int .i64 nf) ∧ w'.cell? ⟨b, 2, none⟩ = some (.int .i64 nt) ∧ w'.cell? ⟨b, 3, none⟩ = some (.int .i64 nl)) (go_keep) (fail)
  go_wp2_with fail
  exact bodyPost_ret (results_cell_row rfl _ _ w.heap.size _ _ _ _ rfl ((Below.heap_alloc _ _ _ (by simp)).trans (heap_alloc_new w _)) Tryz.underlying45 rfl (by kernel_rfl)) rfl ⟨rfl, hbb _ _⟩
set_option maxRecDepth 100000 in
set_option maxHeartbeats 6400000 in
theorem rowOf5 (w : World) (b : Nat) (nk nf nt nl num : Int) (vk : Value) (a1 : Option Addr) (n1 e1 : Nat) (br : Bool) (hb : w.heap[b]? = some (.cells #[.int .i64 nk, .int .i64 nf, .int .i64 nt, .int .i64 nl, .int .i64 num, vk, .slice a1 n1 e1, .bool br] 115 (0, 0))) :
    Calls Tryz.prog 50 #[.iface 113 (.pointer (some ⟨b, 0, none⟩))] w fun e w' => e = .returned (vNd ⟨nk, nf, nt, nl, (if br then 1 else 0), 0, ⟨#[]⟩, [], []⟩ (.slice a1 n1 e1) (.slice none 0 0)) ∧ Below w.heap.size w w' := by
  have hm := fun w => meth5 b w
  have ha0 := fun w => as50 b w
  have ha1 := fun w => as51 b w
  have ha2 := fun w => as52 b w
  have ha3 := fun w => as53 b w
  have ha4 := fun w => as54 b w
  have ha5 := fun w => as55 b w
  have kh := fun w => head_any b w
  have c0 : w.cell? ⟨b, 0, none⟩ = some (.int .i64 nk) := by rw [cell_of_row _ _ _ _ _ _ hb]; rfl
  have c1 : w.cell? ⟨b, 1, none⟩ = some (.int .i64 nf) := by rw [cell_of_row _ _ _ _ _ _ hb]; rfl
  have c2 : w.cell? ⟨b, 2, none⟩ = some (.int .i64 nt) := by rw [cell_of_row _ _ _ _ _ _ hb]; rfl
  have c3 : w.cell? ⟨b, 3, none⟩ = some (.int .i64 nl) := by rw [cell_of_row _ _ _ _ _ _ hb]; rfl
  have c6 : w.cell? ⟨b, 6, none⟩ = some (.slice a1 n1 e1) := by rw [cell_of_row _ _ _ _ _ _ hb]; rfl
  have c7 : w.cell? ⟨b, 7, none⟩ = some (.bool br) := by rw [cell_of_row _ _ _ _ _ _ hb]; rfl
  have hlt := lt_of_block hb
  have hlt2 : b < w.heap.size + 1 := by omega
  have hne1 : b ≠ w.heap.size := by omega
  have hne2 : b ≠ w.heap.size + 1 := by omega
  have hbb : ∀ o1 o2, Below w.heap.size w ((w.alloc o1).alloc o2).drew := fun o1 o2 => bel_drew1 (((Below.refl _ w).alloc (Nat.le_refl _) o1).alloc (by simp) o2)
  unfold vNd
  cases br
  all_goals
    go_enter Tryz.func50, Tryz.ntmps50
    go_wp2_with (go_at_call 155; refine (kh _).mono ?_; rintro e w' ⟨rfl, rfl⟩)
    go_region_held3 (fun w' => w'.cell? ⟨b, 0, none⟩ = some (.int .i64 nk) ∧ w'.cell? ⟨b, 1, none⟩ = some (.int .i64 nf) ∧ w'.cell? ⟨b, 2, none⟩ = some (.int .i64 nt) ∧ w'.cell? ⟨b, 3, none⟩ = some (.int .i64 nl)) (go_keep) (fail)
    go_wp2_with fail
    exact bodyPost_ret (results_cell_row rfl _ _ w.heap.size _ _ _ _ rfl ((Below.heap_alloc _ _ _ (by simp)).trans (heap_alloc_new w _)) Tryz.underlying45 rfl (by kernel_rfl)) rfl ⟨rfl, hbb _ _⟩
set_option maxRecDepth 100000 in
set_option maxHeartbeats 6400000 in
theorem rowOf6 (w : World) (b : Nat) (nk nf nt nl num : Int) (vk : Value)  (hb : w.heap[b]? = some (.cells #[.int .i64 nk, .int .i64 nf, .int .i64 nt, .int .i64 nl, .int .i64 num, vk] 118 (0, 0))) :
    Calls Tryz.prog 50 #[.iface 116 (.pointer (some ⟨b, 0, none⟩))] w fun e w' => e = .returned (vNd ⟨nk, nf, nt, nl, 0, 0, ⟨#[]⟩, [], []⟩ (.slice none 0 0) (.slice none 0 0)) ∧ Below w.heap.size w w' := by
  have hm := fun w => meth6 b w
  have ha0 := fun w => as60 b w
  have ha1 := fun w => as61 b w
  have ha2 := fun w => as62 b w
  have ha3 := fun w => as63 b w
  have ha4 := fun w => as64 b w
  have ha5 := fun w => as65 b w
  have kh := fun w => head_any b w
  have c0 : w.cell? ⟨b, 0, none⟩ = some (.int .i64 nk) := by rw [cell_of_row _ _ _ _ _ _ hb]; rfl
  have c1 : w.cell? ⟨b, 1, none⟩ = some (.int .i64 nf) := by rw [cell_of_row _ _ _ _ _ _ hb]; rfl
  have c2 : w.cell? ⟨b, 2, none⟩ = some (.int .i64 nt) := by rw [cell_of_row _ _ _ _ _ _ hb]; rfl
  have c3 : w.cell? ⟨b, 3, none⟩ = some (.int .i64 nl) := by rw [cell_of_row _ _ _ _ _ _ hb]; rfl
  have hlt := lt_of_block hb
  have hlt2 : b < w.heap.size + 1 := by omega
  have hne1 : b ≠ w.heap.size := by omega
  have hne2 : b ≠ w.heap.size + 1 := by omega
  have hbb : ∀ o1 o2, Below w.heap.size w ((w.alloc o1).alloc o2).drew := fun o1 o2 => bel_drew1 (((Below.refl _ w).alloc (Nat.le_refl _) o1).alloc (by simp) o2)
  unfold vNd
  go_enter Tryz.func50, Tryz.ntmps50
  go_wp2_with (go_at_call 155; refine (kh _).mono ?_; rintro e w' ⟨rfl, rfl⟩)
  go_region_held3 (fun w' => w'.cell? ⟨b, 0, none⟩ = some (.int .i64 nk) ∧ w'.cell? ⟨b, 1, none⟩ = some (.int .i64 nf) ∧ w'.cell? ⟨b, 2, none⟩ = some (.int .i64 nt) ∧ w'.cell? ⟨b, 3, none⟩ = some (.int .i64 nl)) (go_keep) (fail)
  go_wp2_with fail
  exact bodyPost_ret (results_cell_row rfl _ _ w.heap.size _ _ _ _ rfl ((Below.heap_alloc _ _ _ (by simp)).trans (heap_alloc_new w _)) Tryz.underlying45 rfl (by kernel_rfl)) rfl ⟨rfl, hbb _ _⟩
end Go.Proofs.YtgjlnimnnllejaaGreatDoor

namespace Go.Proofs.YtgjlnimnnllejaaGreatDoor
open Go.RowKit Go.Maps Go.WideMaps
set_option linter.unusedVariables false

/-- The linker: its words (the map of the block mb), its nodes. -/
structure Lk (W : World) (lb mb : Nat) (vs : Value) : Prop where
  b : W.heap[lb]? = some (.cells #[.map (some mb), vs] 69 (0, 0))
  m : W.ownsMap Tryz.prog 9 (plainElem (H := Unit) Tryz.prog 3) mb 22 (wkD 22)
  e : Errs W
theorem wd_keep {W W' : World} {mb n : Nat} {D : DataW Unit} (h : W.ownsMap Tryz.prog 9 (plainElem (H := Unit) Tryz.prog 3) mb n D) (hb : W'.heap[mb]? = W.heap[mb]?) : W'.ownsMap Tryz.prog 9 (plainElem (H := Unit) Tryz.prog 3) mb n D := by
  obtain ⟨es, clock, hh, rest⟩ := h
  exact ⟨es, clock, hb.trans hh, rest⟩
theorem Errs.keep {W W' : World} (h : Errs W) (hb : Below W.heap.size W W') : Errs W' := by
  obtain ⟨⟨a, b, h1⟩, ⟨c, d, h2⟩⟩ := h
  exact ⟨⟨a, b, cell_kept hb h1⟩, ⟨c, d, cell_kept hb h2⟩⟩
theorem Lk.below {W W' : World} {lb mb : Nat} {vs : Value} (h : Lk W lb mb vs) (hb : Below W.heap.size W W') : Lk W' lb mb vs :=
  ⟨(hb.block _ (lt_of_block h.b)).trans h.b, wd_keep h.m (hb.block _ h.m.lt), h.e.keep hb⟩

set_option maxRecDepth 100000 in
set_option maxHeartbeats 3200000 in
theorem isTreeName_any (w : World) (lb mb : Nat) (vs : Value) (s : ByteArray) (hm : s.size ≤ 1100000) (h : Lk w lb mb vs) :
    Calls Tryz.prog 72 #[.pointer (some ⟨lb, 0, none⟩), .string s] w fun e w' => e = .returned (.bool (nmok s)) ∧ w' = w := by
  have c0 : w.cell? ⟨lb, 0, none⟩ = some (.map (some mb)) := by rw [cell_of_row _ _ _ _ _ _ h.b]; rfl
  have kn := isName_any s hm mb w h.m
  by_cases h40 : s.size ≤ 40
  · have e : decide (lettB (bat s 0) = true ∧ nmE s (s.size + 1) 0 = s.size ∧ isWd s = false) = nmok s := by
      unfold nmok
      by_cases h' : lettB (bat s 0) = true ∧ nmE s (s.size + 1) 0 = s.size ∧ isWd s = false
      · rw [decide_eq_true h', decide_eq_true ⟨h40, h'⟩]
      · rw [decide_eq_false h', decide_eq_false (fun g => h' g.2)]
    rw [e] at kn
    generalize nmok s = R at kn ⊢
    clear e h
    have hi : (s.size : Int) ≤ 40 := by omega
    go_enter Tryz.func72, Tryz.ntmps72
    go_wp2_with (go_at_call 87; refine kn.mono ?_; rintro e w' ⟨rfl, rfl⟩)
    go_ret
    exact ⟨rfl, rfl⟩
  · have e : nmok s = false := by unfold nmok; rw [decide_eq_false (fun g => h40 g.1)]
    rw [e]
    have hi : ¬ (s.size : Int) ≤ 40 := by omega
    clear kn
    go_enter Tryz.func72, Tryz.ntmps72
    go_wp2
    go_ret
    exact ⟨rfl, rfl⟩

set_option maxRecDepth 100000 in
set_option maxHeartbeats 3200000 in
theorem areNames_any (w : World) (lb mb : Nat) (vs : Value) (vn : Value) (l : List ByteArray) (h : Lk w lb mb vs) (hn : StrsAt w vn l) (hl : l.length ≤ 1048576) (hs : ∀ s ∈ l, s.size ≤ 1048576) :
    Calls Tryz.prog 61 #[.pointer (some ⟨lb, 0, none⟩), vn] w fun e w' => e = .returned (.bool (nmsB l l.length 0)) ∧ w' = w := by
  have HT : Hid (StrsAt w vn l ∧ (∀ s ∈ l, s.size ≤ 1048576) ∧ Lk w lb mb vs) := ⟨hn, hs, h⟩
  obtain ⟨a2, c2, rfl⟩ := hn.form
  obtain ⟨R, hR⟩ : ∃ R, nmsB l l.length 0 = R := ⟨_, rfl⟩
  rw [hR]
  obtain ⟨L1, hL1⟩ : ∃ n, l.length = n := ⟨_, rfl⟩
  have HL : Hid (l.length = L1) := hL1
  rw [hL1] at HT hl hR ⊢
  have HR : NmsIs l L1 0 R := ⟨hR⟩
  clear hL1 hn hs h hR
  go_enter Tryz.func61, Tryz.ntmps61
  go_wp2_with fail
  go_loop [9] (fun vj => ∃ (j : Nat), vj = .int .i64 j ∧ j ≤ L1 ∧ NmsIs l (L1 - j) j R) (fun vj => L1 - (intOf vj).toNat)
  case atStart => exact ⟨0, rfl, by omega, HR⟩
  case round =>
    obtain ⟨j, rfl, hj, HJ⟩ := hrel
    have hst := HJ.out
    by_cases hlt : j < L1
    · obtain ⟨s, hsk⟩ := some_at HL.out hlt
      have hss := HT.out.2.1 s (List.mem_of_getElem? hsk)
      obtain ⟨p3, rfl, g3⟩ := HT.out.1.get hsk
      rw [show L1 - j = (L1 - (j + 1)) + 1 by omega, nmsB, List.getD_eq_getElem?_getD, hsk, Option.getD_some] at hst
      have hji : (j : Int) < (L1 : Int) := by omega
      have hj0 : (0 : Int) ≤ (j : Int) := by omega
      have ke := isTreeName_any w lb mb vs s (by omega) HT.out.2.2
      clear hsk
      cases hx : nmok s with
      | true =>
        rw [hx, Bool.true_and] at hst
        rw [hx] at ke
        have HS : NmsIs l (L1 - (j + 1)) (j + 1) R := ⟨hst⟩
        clear hst hx
        go_wp2_with (go_at_call 72; refine ke.mono ?_; rintro e w3 ⟨rfl, rfl⟩)
        go_round
        case rel => exact ⟨j + 1, by go_num, by omega, HS⟩
        case measure => simp [intOf]; omega
      | false =>
        rw [hx, Bool.false_and] at hst
        rw [hx] at ke
        have HS : Hid (false = R) := hst
        clear hst hx
        go_wp2_with (go_at_call 72; refine ke.mono ?_; rintro e w3 ⟨rfl, rfl⟩)
        go_ret
        exact ⟨by rw [← HS.out]; rfl, rfl⟩
    · rw [show L1 - j = 0 by omega, nmsB] at hst
      have HS : Hid (true = R) := hst
      have hji : ¬ (j : Int) < (L1 : Int) := by omega
      clear hst
      go_wp2_with fail
      go_ret
      exact ⟨by rw [← HS.out]; rfl, rfl⟩

/-- What the text of a node has to be. -/
def txB (k : Int) (x : ByteArray) : Bool := if k = 24 then fok x else if k = 25 then decide ((x.size : Int) ≤ 4000) else nmok x
set_option maxRecDepth 100000 in
set_option maxHeartbeats 3200000 in
theorem textFits_any (w : World) (lb mb : Nat) (vs : Value) (k : Int) (s : ByteArray) (hm : s.size ≤ 1100000) (h : Lk w lb mb vs) :
    Calls Tryz.prog 62 #[.pointer (some ⟨lb, 0, none⟩), .int .i64 k, .string s] w fun e w' => e = .returned (.bool (txB k s)) ∧ Below w.heap.size w w' := by
  have kt := isTreeName_any w lb mb vs s hm h
  have kf := isFloat_any s hm w h.e
  unfold txB
  by_cases h1 : k = 24
  · subst h1
    rw [if_pos rfl]
    unfold fok
    by_cases h40 : s.size ≤ 40
    · have hi : (s.size : Int) ≤ 40 := by omega
      rw [decide_eq_true h40, Bool.true_and]
      generalize fltI s = R at kf ⊢
      clear kt h
      go_enter Tryz.func62, Tryz.ntmps62
      go_wp2_with (go_at_call 73; refine kf.mono ?_; rintro e w' ⟨rfl, hb⟩)
      go_ret
      exact ⟨rfl, hb⟩
    · have hi : ¬ (s.size : Int) ≤ 40 := by omega
      rw [decide_eq_false h40, Bool.false_and]
      clear kt kf h
      go_enter Tryz.func62, Tryz.ntmps62
      go_wp2
      go_ret
      exact ⟨rfl, Below.refl _ _⟩
  by_cases h2 : k = 25
  · subst h2
    rw [if_neg (by decide), if_pos rfl]
    clear kt kf h h1
    go_enter Tryz.func62, Tryz.ntmps62
    go_wp2
    go_ret
    exact ⟨rfl, Below.refl _ _⟩
  rw [if_neg h1, if_neg h2]
  generalize nmok s = R at kt ⊢
  clear kf h
  go_enter Tryz.func62, Tryz.ntmps62
  go_wp2_with (go_at_call 72; refine kt.mono ?_; rintro e w' ⟨rfl, rfl⟩)
  go_ret
  exact ⟨rfl, Below.refl _ _⟩

/-- How many names a node of a Kind has at most. -/
def mostN (k : Int) : Int := if k = 2 ∨ k = 10 then 200 else if k = 14 then 2 else 1
set_option maxRecDepth 100000 in
theorem nameNumbers_any (k : Int) (w : World) : Calls Tryz.prog 60 #[.int .i64 k] w fun e w' => e = .returned (.tuple #[.int .i64 1, .int .i64 (mostN k)]) ∧ w' = w := by
  unfold mostN
  rcases (show k = 2 ∨ k = 10 ∨ k = 14 ∨ (¬ k = 2 ∧ ¬ k = 10 ∧ ¬ k = 14) by omega) with rfl | rfl | rfl | ⟨h1, h2, h3⟩
  · rw [if_pos (by decide)]
    go_enter Tryz.func60, Tryz.ntmps60
    go_wp2
    go_ret2
    exact ⟨rfl, rfl⟩
  · rw [if_pos (by decide)]
    go_enter Tryz.func60, Tryz.ntmps60
    go_wp2
    go_ret2
    exact ⟨rfl, rfl⟩
  · rw [if_neg (by decide), if_pos rfl]
    go_enter Tryz.func60, Tryz.ntmps60
    go_wp2
    go_ret2
    exact ⟨rfl, rfl⟩
  · rw [if_neg (by omega), if_neg h3]
    go_enter Tryz.func60, Tryz.ntmps60
    go_wp2
    go_ret2
    exact ⟨rfl, rfl⟩
end Go.Proofs.YtgjlnimnnllejaaGreatDoor

namespace Go.Proofs.YtgjlnimnnllejaaGreatDoor
open Go.RowKit Go.Maps Go.WideMaps
set_option linter.unusedVariables false

set_option maxRecDepth 100000 in
set_option maxHeartbeats 3200000 in
theorem ff0 (w : World) (lb mb : Nat) (vs : Value) (h : Lk w lb mb vs) (b : Nat) (nk nf nt nl num : Int) (vk : Value) (vn : Value) (l : List ByteArray) (hn : StrsAt w vn l) (hl : l.length ≤ 1048576) (hs : ∀ s ∈ l, s.size ≤ 1048576)
    (hb : w.heap[b]? = some (.cells #[.int .i64 nk, .int .i64 nf, .int .i64 nt, .int .i64 nl, .int .i64 num, vk, vn] 100 (0, 0))) :
    Calls Tryz.prog 51 #[.pointer (some ⟨lb, 0, none⟩), .iface 98 (.pointer (some ⟨b, 0, none⟩))] w fun e w' => e = .returned (.bool (decide (1 ≤ (l.length : Int) ∧ (l.length : Int) ≤ mostN nk) && nmsB l l.length 0)) ∧ w' = w := by
  have ha := fun w => as00 b w
  have kn := fun w => nameNumbers_any nk w
  have ka := areNames_any w lb mb vs vn l h hn hl hs
  obtain ⟨a1, e1, rfl⟩ := hn.form
  have c0 : w.cell? ⟨b, 0, none⟩ = some (.int .i64 nk) := by rw [cell_of_row _ _ _ _ _ _ hb]; rfl
  have c6 : w.cell? ⟨b, 6, none⟩ = some (.slice a1 l.length e1) := by rw [cell_of_row _ _ _ _ _ _ hb]; rfl
  generalize nmsB l l.length 0 = R at ka ⊢
  generalize l.length = n at hl ka c6 ⊢
  generalize mostN nk = M at kn ⊢
  clear hb hn hs h
  by_cases g1 : 1 ≤ (n : Int)
  · by_cases g2 : (n : Int) ≤ M
    · rw [decide_eq_true ⟨g1, g2⟩, Bool.true_and]
      go_enter Tryz.func51, Tryz.ntmps51
      go_wp2_with (first | (go_at_call 60; refine (kn _).mono ?_; rintro e w' ⟨rfl, rfl⟩) | (go_at_call 61; refine ka.mono ?_; rintro e w' ⟨rfl, rfl⟩))
      go_ret
      exact ⟨rfl, rfl⟩
    · rw [decide_eq_false (fun g => g2 g.2), Bool.false_and]
      clear ka
      go_enter Tryz.func51, Tryz.ntmps51
      go_wp2_with (go_at_call 60; refine (kn _).mono ?_; rintro e w' ⟨rfl, rfl⟩)
      go_ret
      exact ⟨rfl, rfl⟩
  · rw [decide_eq_false (fun g => g1 g.1), Bool.false_and]
    clear ka
    go_enter Tryz.func51, Tryz.ntmps51
    go_wp2_with (go_at_call 60; refine (kn _).mono ?_; rintro e w' ⟨rfl, rfl⟩)
    go_ret
    exact ⟨rfl, rfl⟩

set_option maxRecDepth 100000 in
set_option maxHeartbeats 3200000 in
theorem ff1 (w : World) (lb : Nat) (b : Nat) (nk nf nt nl num nn : Int) (ak : Option Addr) (L ck : Nat) (hL : L ≤ 1048576)
    (hb : w.heap[b]? = some (.cells #[.int .i64 nk, .int .i64 nf, .int .i64 nt, .int .i64 nl, .int .i64 num, .slice ak L ck, .int .i64 nn] 103 (0, 0))) :
    Calls Tryz.prog 51 #[.pointer (some ⟨lb, 0, none⟩), .iface 101 (.pointer (some ⟨b, 0, none⟩))] w fun e w' => e = .returned (.bool (decide (1 ≤ nn ∧ nn < (L : Int)))) ∧ Below w.heap.size w w' := by
  have ha0 := fun w => as10 b w
  have ha1 := fun w => as11 b w
  have c5 : w.cell? ⟨b, 5, none⟩ = some (.slice ak L ck) := by rw [cell_of_row _ _ _ _ _ _ hb]; rfl
  have c6 : w.cell? ⟨b, 6, none⟩ = some (.int .i64 nn) := by rw [cell_of_row _ _ _ _ _ _ hb]; rfl
  clear hb
  by_cases g1 : 1 ≤ nn
  · by_cases g2 : nn < (L : Int)
    · rw [decide_eq_true ⟨g1, g2⟩]
      go_enter Tryz.func51, Tryz.ntmps51
      go_wp2_with fail
      go_quiet (fail)
      go_wp2_with fail
      go_ret
      exact ⟨rfl, bel_drew (Below.refl _ _) _⟩
    · rw [decide_eq_false (fun g => g2 g.2)]
      have HG : Hid (¬ nn < (L : Int)) := g2
      go_enter Tryz.func51, Tryz.ntmps51
      go_wp2_with fail
      go_quiet (fail)
      go_wp2_with fail
      go_ret
      exact ⟨by show Ending.returned (.bool (decide (nn < (L : Int)))) = _; rw [decide_eq_false (by have := HG.out; omega)], bel_drew (Below.refl _ _) _⟩
  · rw [decide_eq_false (fun g => g1 g.1)]
    have hd : decide ((1 : Int) ≤ nn) = false := decide_eq_false g1
    go_enter Tryz.func51, Tryz.ntmps51
    go_wp2_with fail
    go_quiet (fail)
    go_wp2_with fail
    go_ret
    exact ⟨rfl, bel_drew (Below.refl _ _) _⟩

set_option maxRecDepth 100000 in
set_option maxHeartbeats 3200000 in
theorem ff2 (w : World) (lb : Nat) (b : Nat) :
    Calls Tryz.prog 51 #[.pointer (some ⟨lb, 0, none⟩), .iface 104 (.pointer (some ⟨b, 0, none⟩))] w fun e w' => e = .returned (.bool true) ∧ w' = w := by
  have ha0 := fun w => as20 b w
  have ha1 := fun w => as21 b w
  have ha3 := fun w => as23 b w
  have ha4 := fun w => as24 b w
  have ha5 := fun w => as25 b w
  go_enter Tryz.func51, Tryz.ntmps51
  go_wp2
  go_ret
  exact ⟨rfl, rfl⟩
set_option maxRecDepth 100000 in
set_option maxHeartbeats 3200000 in
theorem ff6 (w : World) (lb : Nat) (b : Nat) :
    Calls Tryz.prog 51 #[.pointer (some ⟨lb, 0, none⟩), .iface 116 (.pointer (some ⟨b, 0, none⟩))] w fun e w' => e = .returned (.bool true) ∧ w' = w := by
  have ha0 := fun w => as60 b w
  have ha1 := fun w => as61 b w
  have ha3 := fun w => as63 b w
  have ha4 := fun w => as64 b w
  have ha5 := fun w => as65 b w
  go_enter Tryz.func51, Tryz.ntmps51
  go_wp2
  go_ret
  exact ⟨rfl, rfl⟩

set_option maxRecDepth 100000 in
set_option maxHeartbeats 3200000 in
theorem ff3 (w : World) (lb mb : Nat) (vs : Value) (h : Lk w lb mb vs) (b : Nat) (nk nf nt nl num : Int) (vk : Value) (x : ByteArray) (hx : x.size ≤ 1100000)
    (hb : w.heap[b]? = some (.cells #[.int .i64 nk, .int .i64 nf, .int .i64 nt, .int .i64 nl, .int .i64 num, vk, .string x] 109 (0, 0))) :
    Calls Tryz.prog 51 #[.pointer (some ⟨lb, 0, none⟩), .iface 107 (.pointer (some ⟨b, 0, none⟩))] w fun e w' => e = .returned (.bool (txB nk x)) ∧ Below w.heap.size w w' := by
  have ha0 := fun w => as30 b w
  have ha1 := fun w => as31 b w
  have ha3 := fun w => as33 b w
  have kt := textFits_any w.drew lb mb vs nk x hx (h.below (bel_drew1 (Below.refl _ w)))
  have c0 : w.cell? ⟨b, 0, none⟩ = some (.int .i64 nk) := by rw [cell_of_row _ _ _ _ _ _ hb]; rfl
  have c6 : w.cell? ⟨b, 6, none⟩ = some (.string x) := by rw [cell_of_row _ _ _ _ _ _ hb]; rfl
  generalize txB nk x = R at kt ⊢
  clear hb h
  go_enter Tryz.func51, Tryz.ntmps51
  go_wp2_with fail
  go_region_held3 (fun w' => w'.cell? ⟨b, 0, none⟩ = some (.int .i64 nk) ∧ w'.cell? ⟨b, 6, none⟩ = some (.string x)) (first | go_keep | exact ⟨cell_kept hb4 c0, cell_kept hb4 c6⟩) ((go_at_call 62; refine kt.mono ?_; rintro e w4 ⟨rfl, hb4⟩))
  go_wp2_with fail
  go_ret
  exact ⟨rfl, (bel_drew1 (Below.refl _ w)).trans hb4⟩

set_option maxRecDepth 100000 in
set_option maxHeartbeats 3200000 in
theorem ff4 (w : World) (lb : Nat) (b : Nat) (nk nf nt nl num nop : Int) (vk : Value)
    (hb : w.heap[b]? = some (.cells #[.int .i64 nk, .int .i64 nf, .int .i64 nt, .int .i64 nl, .int .i64 num, vk, .int .i64 nop] 112 (0, 0))) :
    Calls Tryz.prog 51 #[.pointer (some ⟨lb, 0, none⟩), .iface 110 (.pointer (some ⟨b, 0, none⟩))] w fun e w' => e = .returned (.bool (if nk = 30 then (decide ((19 : Int) ≤ nop) && decide (nop ≤ 22)) else (decide ((1 : Int) ≤ nop) && decide (nop ≤ 18)))) ∧ w' = w := by
  have ha0 := fun w => as40 b w
  have ha1 := fun w => as41 b w
  have ha3 := fun w => as43 b w
  have ha4 := fun w => as44 b w
  have c0 : w.cell? ⟨b, 0, none⟩ = some (.int .i64 nk) := by rw [cell_of_row _ _ _ _ _ _ hb]; rfl
  have c6 : w.cell? ⟨b, 6, none⟩ = some (.int .i64 nop) := by rw [cell_of_row _ _ _ _ _ _ hb]; rfl
  clear hb
  by_cases hk : nk = 30
  · rw [if_pos hk]
    by_cases g1 : (19 : Int) ≤ nop
    · rw [decide_eq_true g1, Bool.true_and]
      go_enter Tryz.func51, Tryz.ntmps51
      go_wp2
      go_ret
      exact ⟨rfl, rfl⟩
    · rw [decide_eq_false g1, Bool.false_and]
      go_enter Tryz.func51, Tryz.ntmps51
      go_wp2
      go_ret
      exact ⟨rfl, rfl⟩
  · rw [if_neg hk]
    by_cases g1 : (1 : Int) ≤ nop
    · rw [decide_eq_true g1, Bool.true_and]
      go_enter Tryz.func51, Tryz.ntmps51
      go_wp2
      go_ret
      exact ⟨rfl, rfl⟩
    · rw [decide_eq_false g1, Bool.false_and]
      go_enter Tryz.func51, Tryz.ntmps51
      go_wp2
      go_ret
      exact ⟨rfl, rfl⟩

set_option maxRecDepth 100000 in
set_option maxHeartbeats 3200000 in
theorem ff5 (w : World) (lb mb : Nat) (vs : Value) (h : Lk w lb mb vs) (b : Nat) (nk nf nt nl num : Int) (vk : Value) (vn : Value) (br : Bool) (l : List ByteArray) (hn : StrsAt w vn l) (hl : l.length ≤ 1048576) (hs : ∀ s ∈ l, s.size ≤ 1048576)
    (hb : w.heap[b]? = some (.cells #[.int .i64 nk, .int .i64 nf, .int .i64 nt, .int .i64 nl, .int .i64 num, vk, vn, .bool br] 115 (0, 0))) :
    Calls Tryz.prog 51 #[.pointer (some ⟨lb, 0, none⟩), .iface 113 (.pointer (some ⟨b, 0, none⟩))] w fun e w' => e = .returned (.bool (nmsB l l.length 0)) ∧ w' = w := by
  have ha0 := fun w => as50 b w
  have ha1 := fun w => as51 b w
  have ha3 := fun w => as53 b w
  have ha4 := fun w => as54 b w
  have ha5 := fun w => as55 b w
  have ka := areNames_any w lb mb vs vn l h hn hl hs
  obtain ⟨a1, e1, rfl⟩ := hn.form
  have c6 : w.cell? ⟨b, 6, none⟩ = some (.slice a1 l.length e1) := by rw [cell_of_row _ _ _ _ _ _ hb]; rfl
  generalize nmsB l l.length 0 = R at ka ⊢
  generalize l.length = n at hl ka c6 ⊢
  clear hb hn hs h
  go_enter Tryz.func51, Tryz.ntmps51
  go_wp2_with (go_at_call 61; refine ka.mono ?_; rintro e w' ⟨rfl, rfl⟩)
  go_ret
  exact ⟨rfl, rfl⟩
end Go.Proofs.YtgjlnimnnllejaaGreatDoor
