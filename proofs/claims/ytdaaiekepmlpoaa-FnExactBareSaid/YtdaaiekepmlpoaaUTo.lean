import Derived.Test.YtdaaiekepmlpoaaUTree
namespace Go.Proofs.Ytdaaiekepmlpoaa
open Go.RowKit
set_option linter.unusedVariables false

theorem infoStr : (Try.prog.info? 9).map (fun i => (i.zero, i.size, i.bytes)) = some (some (.string ⟨#[]⟩), 1, 16) := by kernel_rfl
theorem infoInt : (Try.prog.info? 3).map (fun i => (i.zero, i.size, i.bytes)) = some (some (.int .i64 0), 1, 8) := by kernel_rfl
theorem fill_set {α : Type} (xs : List α) (f : α → Value) (z : Value) (n k : Nat) (s : α) (hn : xs.length = n) (hs : xs[k]? = some s) (hk : k < n) :
    ((xs.take k).map f ++ List.replicate (n - k) z).set k (f s) = (xs.take (k + 1)).map f ++ List.replicate (n - (k + 1)) z := by
  have hl : ((xs.take k).map f).length = k := by rw [List.length_map, List.length_take]; omega
  rw [List.set_append_right _ _ (by omega), hl, Nat.sub_self, show n - k = (n - (k + 1)) + 1 by omega, List.replicate_succ, List.set_cons_zero, List.take_add_one, hs]
  simp

set_option maxRecDepth 100000 in
set_option maxHeartbeats 1600000 in
theorem toStringS_any (w : World) (v : Value) (l : List ByteArray) (h : StrsAt w v l) (hl : l.length ≤ 1048576) :
    Calls Try.prog 38 #[v] w fun e w' => e = .returned (.slice (some ⟨w.heap.size, 0, none⟩) l.length l.length) ∧ w'.ownsRow w.heap.size 9 1 (.slice (some ⟨w.heap.size, 0, none⟩) l.length l.length) l.length (l.map Value.string) ∧ Below w.heap.size w w' := by
  obtain ⟨a, c, rfl⟩ := h.form
  obtain ⟨n, hn⟩ : ∃ n, l.length = n := ⟨_, rfl⟩
  have HN : Hid (l.length = n) := hn
  have HA : Hid (StrsAt w (.slice a n c) l) := by rw [← hn]; exact h
  rw [hn] at hl ⊢
  clear h hn
  obtain ⟨i0, hi, hz0, hz1, hz2⟩ := info_parts infoStr
  go_enter Try.func38, Try.ntmps38
  go_wp2_with (at_make; refine wpList_make_full _ rfl _ _ 39 rfl w.heap.size 9 i0 (.string ⟨#[]⟩) 1 Try.underlying39 hi hz0 hz1 .i64 .i64 _ _ n rfl rfl rfl rfl (by rw [hz2]; omega) (by unfold maxLen; omega) (Nat.le_refl _) ?_; intro w0 hown0 hgrow0)
  have hb0 : Below w.heap.size w w0 := ⟨hgrow0.os, hgrow0.tape, hgrow0.output, hgrow0.size, fun k hk => hgrow0.block k hk (by simp)⟩
  go_loopw [4] (fun vi wr => ∃ k : Nat, k ≤ n ∧ vi = .int .i64 k ∧ wr.ownsRow w.heap.size 9 1 (.slice (some ⟨w.heap.size, 0, none⟩) n n) n ((l.take k).map Value.string ++ List.replicate (n - k) (.string ⟨#[]⟩)) ∧ Below w.heap.size w wr) (fun vi _ => n - (intOf vi).toNat)
  case atStart =>
    refine ⟨0, by omega, rfl, ?_, hb0⟩
    have e : (madeCells (Value.string ⟨#[]⟩).cells (n * 1)).toList = (l.take 0).map Value.string ++ List.replicate (n - 0) (.string ⟨#[]⟩) := by
      rw [Nat.mul_one]; exact toList_madeCells_one _ n
    rw [← e]; exact hown0
  case round =>
    obtain ⟨k, hk, rfl, ho, hb⟩ := hrel
    clear hown0 hgrow0 hb0
    by_cases hlt : k < n
    · obtain ⟨s, hsk⟩ := some_at HN.out hlt
      obtain ⟨a', rfl, hck⟩ := (HA.out.below hb).get hsk
      have hki : (k : Int) < (n : Int) := by omega
      have hk0 : (0 : Int) ≤ (k : Int) := by omega
      have fz := ho.frozenAt k
      have dc : wr.cell? ⟨w.heap.size, k, none⟩ = some (.string ⟨#[]⟩) := by
        rw [ho.cellAt k (by omega), List.getElem?_append_right (by rw [List.length_map, List.length_take]; omega), List.length_map, List.length_take, List.getElem?_replicate]
        rw [if_pos (by have := HN.out; omega)]
      have ho2 := (ho.stored k (.string s)).1
      rw [fill_set l Value.string _ n k s HN.out hsk hlt] at ho2
      go_wp2_with fail
      exact ⟨⟨k + 1, by omega, by go_num, ho2, hb.setCell (by simp) _⟩, by simp [intOf]; omega⟩
    · obtain rfl : k = n := by omega
      go_wp2_with fail
      go_ret
      refine ⟨rfl, ?_, hb⟩
      rw [List.take_of_length_le (by have := HN.out; omega), Nat.sub_self, List.replicate_zero, List.append_nil] at ho
      exact ho

set_option maxRecDepth 100000 in
set_option maxHeartbeats 1600000 in
theorem toIntS_any (w : World) (v : Value) (l : List Int) (h : IntsAt w v l) (hl : l.length ≤ 1048576) :
    Calls Try.prog 39 #[v] w fun e w' => e = .returned (.slice (some ⟨w.heap.size, 0, none⟩) l.length l.length) ∧ w'.ownsRow w.heap.size 3 1 (.slice (some ⟨w.heap.size, 0, none⟩) l.length l.length) l.length (l.map (Value.int .i64)) ∧ Below w.heap.size w w' := by
  obtain ⟨a, c, rfl⟩ := h.form
  obtain ⟨n, hn⟩ : ∃ n, l.length = n := ⟨_, rfl⟩
  have HN : Hid (l.length = n) := hn
  have HA : Hid (IntsAt w (.slice a n c) l) := by rw [← hn]; exact h
  rw [hn] at hl ⊢
  clear h hn
  obtain ⟨i0, hi, hz0, hz1, hz2⟩ := info_parts infoInt
  go_enter Try.func39, Try.ntmps39
  go_wp2_with (at_make; refine wpList_make_full _ rfl _ _ 40 rfl w.heap.size 3 i0 (.int .i64 0) 1 Try.underlying40 hi hz0 hz1 .i64 .i64 _ _ n rfl rfl rfl rfl (by rw [hz2]; omega) (by unfold maxLen; omega) (Nat.le_refl _) ?_; intro w0 hown0 hgrow0)
  have hb0 : Below w.heap.size w w0 := ⟨hgrow0.os, hgrow0.tape, hgrow0.output, hgrow0.size, fun k hk => hgrow0.block k hk (by simp)⟩
  go_loopw [4] (fun vi wr => ∃ k : Nat, k ≤ n ∧ vi = .int .i64 k ∧ wr.ownsRow w.heap.size 3 1 (.slice (some ⟨w.heap.size, 0, none⟩) n n) n ((l.take k).map (Value.int .i64) ++ List.replicate (n - k) (.int .i64 0)) ∧ Below w.heap.size w wr) (fun vi _ => n - (intOf vi).toNat)
  case atStart =>
    refine ⟨0, by omega, rfl, ?_, hb0⟩
    have e : (madeCells (Value.int .i64 0).cells (n * 1)).toList = (l.take 0).map (Value.int .i64) ++ List.replicate (n - 0) (.int .i64 0) := by
      rw [Nat.mul_one]; exact toList_madeCells_one _ n
    rw [← e]; exact hown0
  case round =>
    obtain ⟨k, hk, rfl, ho, hb⟩ := hrel
    clear hown0 hgrow0 hb0
    by_cases hlt : k < n
    · obtain ⟨s, hsk⟩ := some_at HN.out hlt
      obtain ⟨a', rfl, hck⟩ := (HA.out.below hb).get hsk
      have hki : (k : Int) < (n : Int) := by omega
      have hk0 : (0 : Int) ≤ (k : Int) := by omega
      have fz := ho.frozenAt k
      have dc : wr.cell? ⟨w.heap.size, k, none⟩ = some (.int .i64 0) := by
        rw [ho.cellAt k (by omega), List.getElem?_append_right (by rw [List.length_map, List.length_take]; omega), List.length_map, List.length_take, List.getElem?_replicate]
        rw [if_pos (by have := HN.out; omega)]
      have ho2 := (ho.stored k (.int .i64 s)).1
      rw [fill_set l (Value.int .i64) _ n k s HN.out hsk hlt] at ho2
      go_wp2_with fail
      exact ⟨⟨k + 1, by omega, by go_num, ho2, hb.setCell (by simp) _⟩, by simp [intOf]; omega⟩
    · obtain rfl : k = n := by omega
      go_wp2_with fail
      go_ret
      refine ⟨rfl, ?_, hb⟩
      rw [List.take_of_length_le (by have := HN.out; omega), Nat.sub_self, List.replicate_zero, List.append_nil] at ho
      exact ho

theorem own_strs {W : World} {base g n c : Nat} {l : List ByteArray} (h : W.ownsRow base 9 1 (.slice (some ⟨g, 0, none⟩) n c) n (l.map Value.string)) (hn : l.length = n) : StrsAt W (.slice (some ⟨g, 0, none⟩) n c) l := by
  subst hn
  refine .inr ⟨⟨g, 0, none⟩, c, rfl, fun j s hs => ?_⟩
  have hj : j < l.length := by rcases Nat.lt_or_ge j l.length with h | h; exact h; rw [List.getElem?_eq_none h] at hs; cases hs
  have e : (⟨g, 0, none⟩ : Addr).add j = ⟨g, j, none⟩ := by unfold Addr.add; split <;> simp_all
  rw [e, h.cellAt j (by omega), List.getElem?_map, hs]; rfl
theorem own_ints {W : World} {base g n c : Nat} {l : List Int} (h : W.ownsRow base 3 1 (.slice (some ⟨g, 0, none⟩) n c) n (l.map (Value.int .i64))) (hn : l.length = n) : IntsAt W (.slice (some ⟨g, 0, none⟩) n c) l := by
  subst hn
  refine .inr ⟨⟨g, 0, none⟩, c, rfl, fun j s hs => ?_⟩
  have hj : j < l.length := by rcases Nat.lt_or_ge j l.length with h | h; exact h; rw [List.getElem?_eq_none h] at hs; cases hs
  have e : (⟨g, 0, none⟩ : Addr).add j = ⟨g, j, none⟩ := by unfold Addr.add; split <;> simp_all
  rw [e, h.cellAt j (by omega), List.getElem?_map, hs]; rfl
end Go.Proofs.Ytdaaiekepmlpoaa
