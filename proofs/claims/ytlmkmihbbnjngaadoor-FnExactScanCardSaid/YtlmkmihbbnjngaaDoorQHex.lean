import Derived.Test.YtlmkmihbbnjngaaDoorQEl
namespace Go.Proofs.YtlmkmihbbnjngaaDoor
open Go.RowKit

/-- The digits. -/
def DG : ByteArray := { data := #[48, 49, 50, 51, 52, 53, 54, 55, 56, 57, 97, 98, 99, 100, 101, 102] }
theorem DG_nat : ∀ i : Fin 16, ((DG[i.val]'(by have := i.isLt; exact this)).toNat : Int) = hexd (i.val : Int) := by decide
theorem DG_at (d : Int) (h0 : 0 ≤ d) (h1 : d < 16) (h : d.toNat < DG.size) : ((DG[d.toNat]'h).toNat : Int) = hexd d := by
  have := DG_nat ⟨d.toNat, by omega⟩
  have e : ((d.toNat : Nat) : Int) = d := by omega
  simp only [e] at this
  exact this

theorem DG_run (d : Int) (h0 : 0 ≤ d) (h1 : d < 16) (w : World) : (Instr.index 9 (.string { data := #[48, 49, 50, 51, 52, 53, 54, 55, 56, 57, 97, 98, 99, 100, 101, 102] }) (.int .u8 d)).run Tryd.prog w = .ok (.int .u8 (hexd d)) w := by
  have h : d.toNat < DG.size := by simp only [DG]; show d.toNat < 16; omega
  have q := DG_at d h0 h1 h
  go_simp
  exact q

theorem low4 (c : Int) (h0 : 0 ≤ c) (h1 : c < 256) : bits .and .u8 c 15 = c % 16 := by
  have := bits_mask .u8 8 (by decide) wraps_u8 4 (by decide) c h0 h1
  simpa using this

theorem ap_step {ops : Array Oper} {o : Oper} {a : Act} {K : Act → World → Prop} {Q : Exit → Act → World → Prop} {E : Prop} {w : World} (hgd : o.guard = none) (s x : Operand)
    (ho : o.op = .call { callee := .builtin .append, args := #[s, x], argTypes := #[22, 22] }) (base : Nat) (v : Value) (n : Nat) (l : List Int) (hs : a.eval s = v)
    (hown : w.ownsRow base 5 1 v n (B8 l)) (hbase : base ≤ w.heap.size) (hn : n ≤ 100000) (news : List Int) (m : Nat) (hm : news.length = m) (hm0 : 0 < m) (hm1 : m ≤ 100) (cs : Array Value) (hcs : cs.toList = B8 news)
    (hx : a.eval x = .slice (some ⟨w.heap.size, 0, none⟩) m m)
    (h : ∀ g cap w1, w1.ownsRow base 5 1 (.slice (some ⟨g, 0, none⟩) (n + m) cap) (n + m) (B8 (l ++ news)) → Below base w w1 → K (a.put o.dst (.slice (some ⟨g, 0, none⟩) (n + m) cap)) w1) :
    if Region.wanted o (yielded ops a.tmps) = true then Oper.wp Tryd.prog o a (w.alloc (.cells cs 5)).drew K Q else E := by
  obtain ⟨i0, hi0, hz0, hz1, hz2⟩ := info_parts Tryd.info5
  refine step_append_lies _ hgd s x 22 ho base 5 i0 (.int .u8 0) 1 1 Tryd.underlying22 hi0 hz0 hz1 hz2 rfl (by decide) v n (B8 l) hs ((hown.alloc _).drew) ⟨w.heap.size, 0, none⟩ m m (B8 news) hx (by simp [B8, hm])
    (by rw [← hcs]; exact World.news_of_block (fr := (0, 0)) (heap_alloc_new w _)) (by intro u hu; simp [B8] at hu; obtain ⟨q, _, rfl⟩ := hu; rfl) hm0 (by unfold maxLen; omega) (by omega) (by simp; omega) (w.heap.size + 1) (by simp) ?_
  intro g cap w1 hown1 hgrow _ _
  refine h g cap w1 (by rw [B8_app]; exact hown1) ((((Below.refl base w).alloc hbase _).drew).grown hgrow (by simp; omega) (fun k hk => (hown.lt k hk).1))

set_option maxHeartbeats 800000 in
theorem el_hex (v : Value) (n base : Nat) (l : List Int) (c : Int) (h0 : 0 ≤ c) (h1 : c < 32) (h3 : (c == 10) = false) (h4 : (c == 9) = false) (h5 : (c == 34) = false) (h6 : (c == 92) = false) (w : World) (hown : w.ownsRow base 5 1 v n (B8 l)) (hbase : base ≤ w.heap.size) (hn : n ≤ 100000) :
    Calls Tryd.prog 15 #[v, .int .u8 c] w fun e w' => ∃ g cap, e = .returned (.slice (some ⟨g, 0, none⟩) (n + 4) cap) ∧
      w'.ownsRow base 5 1 (.slice (some ⟨g, 0, none⟩) (n + 4) cap) (n + 4) (B8 (l ++ [92, 120, hexd (c / 16), hexd (c % 16)])) ∧ Below base w w' := by
  have i1 := DG_run (c / 16) (by omega) (by omega)
  have i2 := DG_run (c % 16) (by omega) (by omega)
  have hbit : bits .and .u8 c 15 = c % 16 := low4 c h0 (by omega)
  have a1 : 0 ≤ c / 16 := by omega
  have a2 : c / 16 < 16 := by omega
  have a3 : 0 ≤ c % 16 := by omega
  have a4 : c % 16 < 16 := by omega
  go_enter Tryd.func15, Tryd.ntmps15
  go_wp2_with fail
  go_region_held3 (fun w' => True) (trivial) ((refine ap_step (by rfl) _ _ (by rfl) base v n l (by rfl) hown hbase hn [92, 120, _, _] 4 (by rfl) (by decide) (by decide) _ (by rfl) (by rfl) ?_; intro g cap w1 hown1 hb1))
  all_goals
    go_wp2
    go_ret
    exact ⟨_, _, rfl, by assumption, by assumption⟩

set_option maxHeartbeats 800000 in
theorem el_hexhi (v : Value) (n base : Nat) (l : List Int) (c : Int) (h1 : 126 < c) (h2 : c < 256) (h3 : (c == 10) = false) (h4 : (c == 9) = false) (h5 : (c == 34) = false) (h6 : (c == 92) = false) (w : World) (hown : w.ownsRow base 5 1 v n (B8 l)) (hbase : base ≤ w.heap.size) (hn : n ≤ 100000) :
    Calls Tryd.prog 15 #[v, .int .u8 c] w fun e w' => ∃ g cap, e = .returned (.slice (some ⟨g, 0, none⟩) (n + 4) cap) ∧
      w'.ownsRow base 5 1 (.slice (some ⟨g, 0, none⟩) (n + 4) cap) (n + 4) (B8 (l ++ [92, 120, hexd (c / 16), hexd (c % 16)])) ∧ Below base w w' := by
  have i1 := DG_run (c / 16) (by omega) (by omega)
  have i2 := DG_run (c % 16) (by omega) (by omega)
  have hbit : bits .and .u8 c 15 = c % 16 := low4 c (by omega) h2
  have a1 : 0 ≤ c / 16 := by omega
  have a2 : c / 16 < 16 := by omega
  have a3 : 0 ≤ c % 16 := by omega
  have a4 : c % 16 < 16 := by omega
  go_enter Tryd.func15, Tryd.ntmps15
  go_wp2_with fail
  go_region_held3 (fun w' => True) (trivial) ((refine ap_step (by rfl) _ _ (by rfl) base v n l (by rfl) hown hbase hn [92, 120, _, _] 4 (by rfl) (by decide) (by decide) _ (by rfl) (by rfl) ?_; intro g cap w1 hown1 hb1))
  all_goals
    go_wp2
    go_ret
    exact ⟨_, _, rfl, by assumption, by assumption⟩

/-- 'appendElement' at every byte. -/
theorem el_any (v : Value) (n base : Nat) (l : List Int) (c : Int) (h0 : 0 ≤ c) (h1 : c < 256) (w : World) (hown : w.ownsRow base 5 1 v n (B8 l)) (hbase : base ≤ w.heap.size) (hn : n ≤ 100000) :
    Calls Tryd.prog 15 #[v, .int .u8 c] w fun e w' => ∃ g cap, e = .returned (.slice (some ⟨g, 0, none⟩) (n + (esc c).length) cap) ∧
      w'.ownsRow base 5 1 (.slice (some ⟨g, 0, none⟩) (n + (esc c).length) cap) (n + (esc c).length) (B8 (l ++ esc c)) ∧ Below base w w' := by
  by_cases e1 : c = 10
  · subst e1; exact el_nl v n base l w hown hbase hn
  by_cases e2 : c = 9
  · subst e2; exact el_tab v n base l w hown hbase hn
  by_cases e3 : c = 34 ∨ c = 92
  · have : esc c = [92, c] := by unfold esc; rw [if_neg e1, if_neg e2, if_pos e3]
    rw [this]; exact el_esc v n base l c e3 w hown hbase hn
  by_cases e4 : c < 32 ∨ 126 < c
  · have : esc c = [92, 120, hexd (c / 16), hexd (c % 16)] := by unfold esc; rw [if_neg e1, if_neg e2, if_neg e3, if_pos e4]
    rw [this]
    rcases e4 with e4 | e4
    · exact el_hex v n base l c h0 e4 (by simp [e1]) (by simp [e2]) (by simp; omega) (by simp; omega) w hown hbase hn
    · exact el_hexhi v n base l c e4 h1 (by simp [e1]) (by simp [e2]) (by simp; omega) (by simp; omega) w hown hbase hn
  · have : esc c = [c] := by unfold esc; rw [if_neg e1, if_neg e2, if_neg e3, if_neg e4]
    rw [this]; exact el_self v n base l c (by omega) (by omega) (by simp; omega) (by simp; omega) w hown hbase hn
end Go.Proofs.YtlmkmihbbnjngaaDoor
