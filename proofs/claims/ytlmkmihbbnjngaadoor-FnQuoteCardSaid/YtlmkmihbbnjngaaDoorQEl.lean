import Derived.Test.YtlmkmihbbnjngaaDoorProg
import Derived.WalkKit
import Derived.WalkSpells
import Derived.StillTactics
import Derived.OwnWalk
import Derived.Laws.Pointers
import Derived.Deep.RegionHeld3
import Derived.Deep.AppendLies
import Derived.KernelRfl
namespace Go.Proofs.YtlmkmihbbnjngaaDoor
open Go.RowKit

theorem Tryd.info5 : (Tryd.prog.info? 5).map (fun i => (i.zero, i.size, i.bytes)) = some (some (.int .u8 0), 1, 1) := by kernel_rfl

/-- A row of bytes as cells. -/
def B8 (l : List Int) : List Value := l.map (Value.int .u8)
theorem B8_app (a b : List Int) : B8 (a ++ b) = B8 a ++ B8 b := by simp [B8]
theorem B8_len (a : List Int) : (B8 a).length = a.length := by simp [B8]

theorem own_len {w : World} {base n : Nat} {v : Value} {l : List Int} (h : w.ownsRow base 5 1 v n (B8 l)) : l.length = n := by
  have := h.1; simpa [B8] using this

/-- 'append' of a few bytes that lie in a block just laid. -/
theorem ap_law {ops : Array Oper} {rest : List Oper} {o : Oper} {a : Act} {Q : Exit → Act → World → Prop} {w : World} (hgd : o.guard = none) (s x : Operand)
    (ho : o.op = .call { callee := .builtin .append, args := #[s, x], argTypes := #[22, 22] }) (base : Nat) (v : Value) (n : Nat) (l : List Int) (hs : a.eval s = v)
    (hown : w.ownsRow base 5 1 v n (B8 l)) (hbase : base ≤ w.heap.size) (hn : n ≤ 100000) (news : List Int) (m : Nat) (hm : news.length = m) (hm0 : 0 < m) (hm1 : m ≤ 100) (cs : Array Value) (hcs : cs.toList = B8 news)
    (hx : a.eval x = .slice (some ⟨w.heap.size, 0, none⟩) m m)
    (h : ∀ g cap w1, w1.ownsRow base 5 1 (.slice (some ⟨g, 0, none⟩) (n + m) cap) (n + m) (B8 (l ++ news)) → Below base w w1 → wpList Tryd.prog ops Q rest (a.put o.dst (.slice (some ⟨g, 0, none⟩) (n + m) cap)) w1) :
    wpList Tryd.prog ops Q (o :: rest) a (w.alloc (.cells cs 5)) := by
  obtain ⟨i0, hi0, hz0, hz1, hz2⟩ := info_parts Tryd.info5
  refine wpList_append_lies _ hgd s x 22 ho base 5 i0 (.int .u8 0) 1 1 Tryd.underlying22 hi0 hz0 hz1 hz2 rfl (by decide) v n (B8 l) hs (hown.alloc _) ⟨w.heap.size, 0, none⟩ m m (B8 news) hx (by simp [B8, hm])
    (by rw [← hcs]; exact World.news_of_block (fr := (0, 0)) (heap_alloc_new w _)) (by intro u hu; simp [B8] at hu; obtain ⟨q, _, rfl⟩ := hu; rfl) hm0 (by unfold maxLen; omega) (by omega) (by simp; omega) (w.heap.size + 1) (by simp) ?_
  intro g cap w1 hown1 hgrow _ _
  refine h g cap w1 (by rw [B8_app]; exact hown1) (((Below.refl base w).alloc hbase _).grown hgrow (by simp; omega) (fun k hk => (hown.lt k hk).1))

def hexd (d : Int) : Int := if d < 10 then 48 + d else 87 + d
def esc (c : Int) : List Int := if c = 10 then [92, 110] else if c = 9 then [92, 116] else if c = 34 ∨ c = 92 then [92, c] else if c < 32 ∨ 126 < c then [92, 120, hexd (c / 16), hexd (c % 16)] else [c]

set_option maxHeartbeats 400000 in
theorem el_nl (v : Value) (n base : Nat) (l : List Int) (w : World) (hown : w.ownsRow base 5 1 v n (B8 l)) (hbase : base ≤ w.heap.size) (hn : n ≤ 100000) :
    Calls Tryd.prog 15 #[v, .int .u8 10] w fun e w' => ∃ g cap, e = .returned (.slice (some ⟨g, 0, none⟩) (n + 2) cap) ∧
      w'.ownsRow base 5 1 (.slice (some ⟨g, 0, none⟩) (n + 2) cap) (n + 2) (B8 (l ++ [92, 110])) ∧ Below base w w' := by
  go_enter Tryd.func15, Tryd.ntmps15
  go_wp2_with (at_builtin; refine ap_law rfl (.tmp 8) (.tmp 9) rfl base v n l rfl hown hbase hn [92, 110] 2 rfl (by decide) (by decide) _ rfl rfl ?_; intro g cap w1 hown1 hb1)
  go_wp2
  go_ret
  exact ⟨g, cap, rfl, hown1, hb1⟩

set_option maxHeartbeats 400000 in
theorem el_tab (v : Value) (n base : Nat) (l : List Int) (w : World) (hown : w.ownsRow base 5 1 v n (B8 l)) (hbase : base ≤ w.heap.size) (hn : n ≤ 100000) :
    Calls Tryd.prog 15 #[v, .int .u8 9] w fun e w' => ∃ g cap, e = .returned (.slice (some ⟨g, 0, none⟩) (n + 2) cap) ∧
      w'.ownsRow base 5 1 (.slice (some ⟨g, 0, none⟩) (n + 2) cap) (n + 2) (B8 (l ++ [92, 116])) ∧ Below base w w' := by
  go_enter Tryd.func15, Tryd.ntmps15
  go_wp2_with (at_builtin; refine ap_law rfl (.tmp 14) (.tmp 15) rfl base v n l rfl hown hbase hn [92, 116] 2 rfl (by decide) (by decide) _ rfl rfl ?_; intro g cap w1 hown1 hb1)
  go_wp2
  go_ret
  exact ⟨g, cap, rfl, hown1, hb1⟩

set_option maxHeartbeats 400000 in
theorem el_esc (v : Value) (n base : Nat) (l : List Int) (c : Int) (hc : c = 34 ∨ c = 92) (w : World) (hown : w.ownsRow base 5 1 v n (B8 l)) (hbase : base ≤ w.heap.size) (hn : n ≤ 100000) :
    Calls Tryd.prog 15 #[v, .int .u8 c] w fun e w' => ∃ g cap, e = .returned (.slice (some ⟨g, 0, none⟩) (n + 2) cap) ∧
      w'.ownsRow base 5 1 (.slice (some ⟨g, 0, none⟩) (n + 2) cap) (n + 2) (B8 (l ++ [92, c])) ∧ Below base w w' := by
  rcases hc with rfl | rfl
  · go_enter Tryd.func15, Tryd.ntmps15
    go_wp2_with (at_builtin; refine ap_law rfl (.tmp 24) (.tmp 26) rfl base v n l rfl hown hbase hn [92, 34] 2 rfl (by decide) (by decide) _ rfl rfl ?_; intro g cap w1 hown1 hb1)
    go_wp2
    go_ret
    exact ⟨g, cap, rfl, hown1, hb1⟩
  · go_enter Tryd.func15, Tryd.ntmps15
    go_wp2_with (at_builtin; refine ap_law rfl (.tmp 24) (.tmp 26) rfl base v n l rfl hown hbase hn [92, 92] 2 rfl (by decide) (by decide) _ rfl rfl ?_; intro g cap w1 hown1 hb1)
    go_wp2
    go_ret
    exact ⟨g, cap, rfl, hown1, hb1⟩

set_option maxHeartbeats 400000 in
theorem el_self (v : Value) (n base : Nat) (l : List Int) (c : Int) (h1 : 32 ≤ c) (h2 : c ≤ 126) (h3 : (c == 34) = false) (h4 : (c == 92) = false) (w : World) (hown : w.ownsRow base 5 1 v n (B8 l)) (hbase : base ≤ w.heap.size) (hn : n ≤ 100000) :
    Calls Tryd.prog 15 #[v, .int .u8 c] w fun e w' => ∃ g cap, e = .returned (.slice (some ⟨g, 0, none⟩) (n + 1) cap) ∧
      w'.ownsRow base 5 1 (.slice (some ⟨g, 0, none⟩) (n + 1) cap) (n + 1) (B8 (l ++ [c])) ∧ Below base w w' := by
  go_enter Tryd.func15, Tryd.ntmps15
  go_wp2_with (at_builtin; refine ap_law rfl (.tmp 44) (.tmp 46) rfl base v n l rfl hown hbase hn [c] 1 rfl (by decide) (by decide) _ rfl rfl ?_; intro g cap w1 hown1 hb1)
  go_wp2
  go_ret
  exact ⟨g, cap, rfl, hown1, hb1⟩

end Go.Proofs.YtlmkmihbbnjngaaDoor
