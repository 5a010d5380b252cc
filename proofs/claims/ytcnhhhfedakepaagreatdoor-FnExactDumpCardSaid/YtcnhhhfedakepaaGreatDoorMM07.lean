import Derived.Test.YtcnhhhfedakepaaGreatDoorMM06
import Derived.Maps.AppendAt
import Derived.Deep.AppendLies
import Derived.Laws.AppendOwnNone
import Derived.Test.YtcnhhhfedakepaaGreatDoorMM05
namespace Go.Proofs.YtcnhhhfedakepaaGreatDoor
open Go.RowKit Go.Maps Go.WideMaps
set_option linter.unusedVariables false

/-- A row of texts that a call has made. -/
def WsAt (base : Nat) (W : World) (v : Value) (xs : List ByteArray) : Prop := W.ownsRow base 9 1 v xs.length (xs.map Value.string)
theorem WsAt.form {base : Nat} {W : World} {v : Value} {xs : List ByteArray} (h : WsAt base W v xs) : ∃ a c, v = .slice a xs.length c := own_form h
theorem WsAt.below {base : Nat} {W W' : World} {v : Value} {xs : List ByteArray} (h : WsAt base W v xs) (hb : Below W.heap.size W W') : WsAt base W' v xs := own_keep h hb
theorem infoStr2 : (Tryz.prog.info? 9).map (fun i => (i.zero, i.size, i.bytes)) = some (some (.string ⟨#[]⟩), 1, 16) := by kernel_rfl
theorem run_append_zero {w : World} {base : Nat} {v : Value} {n : Nat} {xs : List Value} (ty : TypeId) (c : Nat) (hown : w.ownsRow base 9 1 v n xs) :
    (Builtin.append_ #[64, 64] ty #[v, .slice none 0 c]).run Tryz.prog w = .ok v w := by
  obtain ⟨i0, hi, hz0, hz1, hz2⟩ := info_parts infoStr2
  rcases hown.2 with ⟨rfl, rfl⟩ | ⟨g, cap, cur, rfl, _, _, hnc, _⟩
  · simp [Builtin.append_, run_underlying Tryz.underlying64, sizeOf, typeInfo, hi, Builtin.lenOf, Builtin.firstCells]
  · simp [Builtin.append_, run_underlying Tryz.underlying64, sizeOf, typeInfo, hi, Builtin.lenOf, Builtin.firstCells, hnc, storeCells]
theorem one_str : ∀ (l : List ByteArray), ∀ u ∈ l.map Value.string, u.oneCell' = true := fun l u hu => by
  obtain ⟨s, _, rfl⟩ := List.mem_map.1 hu
  rfl
/-- append of texts that lie somewhere, at such a row. -/
theorem wpList_ws {w : World} {ops : Array Oper} {rest : List Oper} {o : Oper} {a : Act} {Q : Exit → Act → World → Prop} (hgd : o.guard = none) (s x : Operand)
    (ho : o.op = .call { callee := .builtin .append, args := #[s, x], argTypes := #[64, 64] }) (base : Nat) (v : Value) (xs : List ByteArray) (hs : a.eval s = v)
    (hown : WsAt base w v xs) (hbase : base ≤ w.heap.size) (v2 : Value) (news : List ByteArray) (hx : a.eval x = v2) (hnews : StrsAt w v2 news) (hn : xs.length ≤ 4194304) (hm : news.length ≤ 4194304) (r : Nat) (hr : xs.length + news.length = r)
    (h : ∀ av cv w1, WsAt base w1 (.slice av r cv) (xs ++ news) → Below base w w1 → wpList Tryz.prog ops Q rest (a.put o.dst (.slice av r cv)) w1) :
    wpList Tryz.prog ops Q (o :: rest) a w := by
  subst hr
  obtain ⟨i0, hi, hz0, hz1, hz2⟩ := info_parts infoStr2
  have hown' : w.ownsRow base 9 1 v xs.length (xs.map Value.string) := hown
  have zero : ∀ c, a.eval x = .slice none 0 c → news = [] → wpList Tryz.prog ops Q (o :: rest) a w := fun c hx0 hz => by
    subst hz
    obtain ⟨av, cv, rfl⟩ := own_form hown'
    refine wpList_plain hgd fun K hK => ?_
    have hr := run_append_zero o.type c hown'
    unfold Oper.wp execOp
    simp only [ho, resolve, invoke, builtin, Sem.run_bind, Sem.run_pure, Result.andThen_ok, List.map_toArray, List.map_cons, List.map_nil, hs, hx0, hr]
    exact hK _ _ (h av cv w (by rw [List.append_nil]; exact hown') (Below.refl _ _))
  have some' : ∀ ad c, a.eval x = .slice (some ad) news.length c → (∀ j u, news[j]? = some u → w.cell? (ad.add j) = some (.string u)) → wpList Tryz.prog ops Q (o :: rest) a w := fun ad c hx0 hc => by
    refine wpList_append_own_at _ hgd s x 64 ho base 9 i0 _ 1 16 Tryz.underlying64 hi hz0 hz1 hz2 rfl (by decide) v _ _ hs hown' ad news.length c (news.map Value.string) hx0 (by simp) (fun j u hu => ?_) (one_str news) (by unfold maxLen; omega) (by omega) hbase ?_
    · rw [List.getElem?_map] at hu
      obtain ⟨y, hy, rfl⟩ := Option.map_eq_some_iff.1 hu
      exact hc j y hy
    · intro v' w1 ho1 hg1 _ _
      obtain ⟨av, cv, rfl⟩ := own_form ho1
      exact h av cv w1 (by unfold WsAt; rw [List.length_append, List.map_append]; exact ho1) ((Below.refl base w).grown hg1 hbase (fun k hk => (hown'.lt k hk).1))
  rcases hnews with ⟨hz, ad, c, e⟩ | ⟨ad, c, e, hc⟩
  · cases ad with
    | none => exact zero c (hx.trans e) hz
    | some ad => exact some' ad c (by rw [hx, e, hz]; rfl) (fun j u hu => by rw [hz] at hu; simp at hu)
  · exact some' ad c (hx.trans e) hc
/-- The same, in a region that draws its order. -/
theorem ws_step {w : World} {ops : Array Oper} {o : Oper} {a : Act} {K : Act → World → Prop} {Q : Exit → Act → World → Prop} {E : Prop} (hgd : o.guard = none) (s x : Operand)
    (ho : o.op = .call { callee := .builtin .append, args := #[s, x], argTypes := #[64, 64] }) (base : Nat) (v : Value) (xs : List ByteArray) (hs : a.eval s = v)
    (hown : WsAt base w v xs) (hbase : base ≤ w.heap.size) (ad : Addr) (m c : Nat) (news : List ByteArray) (hx : a.eval x = .slice (some ad) m c) (hm : news.length = m) (hnews : ∀ j u, news[j]? = some u → w.cell? (ad.add j) = some (.string u)) (hn : xs.length ≤ 4194304) (hm0 : 0 < m) (hm1 : m ≤ 4194304) (r : Nat) (hr : xs.length + m = r)
    (h : ∀ g cap w1, WsAt base w1 (.slice (some ⟨g, 0, none⟩) r cap) (xs ++ news) → Below base w w1 → K (a.put o.dst (.slice (some ⟨g, 0, none⟩) r cap)) w1) :
    if Region.wanted o (yielded ops a.tmps) = true then Oper.wp Tryz.prog o a w K Q else E := by
  subst hr
  obtain ⟨i0, hi, hz0, hz1, hz2⟩ := info_parts infoStr2
  have hown' : w.ownsRow base 9 1 v xs.length (xs.map Value.string) := hown
  refine step_append_lies _ hgd s x 64 ho base 9 i0 _ 1 16 Tryz.underlying64 hi hz0 hz1 hz2 rfl (by decide) v _ _ hs hown' ad m c (news.map Value.string) hx (by simp [hm]) (fun j u hu => ?_) (one_str news) hm0 (by unfold maxLen; omega) (by omega) hbase w.heap.size rfl ?_
  · rw [List.getElem?_map] at hu
    obtain ⟨y, hy, rfl⟩ := Option.map_eq_some_iff.1 hu
    exact hnews j y hy
  · intro g cap w1 ho1 hg1 _ _
    subst hm
    exact h g cap w1 (by unfold WsAt; rw [List.length_append, List.map_append]; exact ho1) ((Below.refl base w).grown hg1 hbase (fun k hk => (hown'.lt k hk).1))
theorem news_two (w : World) (s t : ByteArray) : ∀ (j : Nat) u, [s, t][j]? = some u → (w.alloc (.cells #[.string s, .string t] 9)).cell? ((⟨w.heap.size, 0, none⟩ : Addr).add j) = some (.string u) := fun j u hu => by
  have hb := heap_alloc_new w (.cells #[.string s, .string t] 9)
  match j, hu with
  | 0, hu =>
    simp at hu
    subst hu
    show (w.alloc _).cell? ⟨w.heap.size, 0 + 0, none⟩ = _
    rw [cell_of_row _ _ _ _ _ _ hb]; rfl
  | 1, hu =>
    simp at hu
    subst hu
    show (w.alloc _).cell? ⟨w.heap.size, 0 + 1, none⟩ = _
    rw [cell_of_row _ _ _ _ _ _ hb]; rfl
  | j + 2, hu => simp at hu
theorem strs_one (w : World) (s : ByteArray) : StrsAt (w.alloc (.cells #[.string s] 9)) (.slice (some ⟨w.heap.size, 0, none⟩) 1 1) [s] :=
  .inr ⟨_, _, rfl, fun j u hu => by
    have hb := heap_alloc_new w (.cells #[.string s] 9)
    match j, hu with
    | 0, hu =>
      simp at hu
      subst hu
      show (w.alloc _).cell? ⟨w.heap.size, 0 + 0, none⟩ = _
      rw [cell_of_row _ _ _ _ _ _ hb]; rfl
    | j + 1, hu => simp at hu⟩
end Go.Proofs.YtcnhhhfedakepaaGreatDoor

namespace Go.Proofs.YtcnhhhfedakepaaGreatDoor
open Go.RowKit Go.Maps Go.WideMaps
set_option linter.unusedVariables false

def stp (a : Option Nat) (c : UInt8) : Option Nat := match a with | none => none | some x => if x * 10 + (c.toNat - 48) ≤ 9223372036854775807 then some (x * 10 + (c.toNat - 48)) else none
theorem stp_none : ∀ l : List UInt8, l.foldl stp none = none
  | [] => rfl
  | c :: r => stp_none r
theorem pu_big : ∀ (l : List UInt8) (acc : Nat), (∀ c ∈ l, 48 ≤ c.toNat ∧ c.toNat ≤ 57) → 9223372036854775808 ≤ acc → Lib.parseUintM (2 ^ 64 - 1) acc l = .range ∨ ∃ u, Lib.parseUintM (2 ^ 64 - 1) acc l = .ok u ∧ 9223372036854775808 ≤ u
  | [], acc, _, h => .inr ⟨acc, rfl, h⟩
  | c :: r, acc, hd, h => by
    have hc := hd c (by simp)
    unfold Lib.parseUintM
    rw [if_pos hc, if_pos (by omega)]
    exact .inl rfl
theorem pu_dec : ∀ (l : List UInt8) (acc : Nat), (∀ c ∈ l, 48 ≤ c.toNat ∧ c.toNat ≤ 57) → acc ≤ 9223372036854775807 → (∀ u, l.foldl stp (some acc) = some u → Lib.parseUintM (2 ^ 64 - 1) acc l = .ok u ∧ u ≤ 9223372036854775807) ∧ (l.foldl stp (some acc) = none → Lib.parseUintM (2 ^ 64 - 1) acc l = .range ∨ ∃ u, Lib.parseUintM (2 ^ 64 - 1) acc l = .ok u ∧ 9223372036854775808 ≤ u)
  | [], acc, _, h => by
    refine ⟨fun u hu => ?_, fun hn => by simp at hn⟩
    simp at hu
    subst hu
    exact ⟨rfl, h⟩
  | c :: r, acc, hd, h => by
    have hc := hd c (by simp)
    have hr : ∀ x ∈ r, 48 ≤ x.toNat ∧ x.toNat ≤ 57 := fun x hx => hd x (by simp [hx])
    rw [List.foldl_cons, show stp (some acc) c = if acc * 10 + (c.toNat - 48) ≤ 9223372036854775807 then some (acc * 10 + (c.toNat - 48)) else none from rfl]
    by_cases hle : acc * 10 + (c.toNat - 48) ≤ 9223372036854775807
    · rw [if_pos hle]
      have ih := pu_dec r (acc * 10 + (c.toNat - 48)) hr hle
      have e : Lib.parseUintM (2 ^ 64 - 1) acc (c :: r) = Lib.parseUintM (2 ^ 64 - 1) (acc * 10 + (c.toNat - 48)) r := by
        rw [Lib.parseUintM, if_pos hc, if_neg (by omega), if_neg (by omega)]
      rw [e]
      exact ih
    · rw [if_neg hle, stp_none r]
      refine ⟨fun u hu => (by cases hu), fun _ => ?_⟩
      rw [Lib.parseUintM, if_pos hc]
      by_cases h1 : 1844674407370955162 ≤ acc
      · rw [if_pos h1]; exact .inl rfl
      · rw [if_neg h1]
        by_cases h2 : 2 ^ 64 - 1 < acc * 10 + (c.toNat - 48)
        · rw [if_pos h2]; exact .inl rfl
        · rw [if_neg h2]; exact pu_big r _ hr (by omega)
theorem pu_bad : ∀ (l : List UInt8) (acc : Nat), (∃ c ∈ l, ¬ (48 ≤ c.toNat ∧ c.toNat ≤ 57)) → ∀ u, Lib.parseUintM (2 ^ 64 - 1) acc l ≠ .ok u
  | [], _, h, u => by obtain ⟨c, hc, _⟩ := h; simp at hc
  | c :: r, acc, h, u => by
    rw [Lib.parseUintM]
    by_cases hc : 48 ≤ c.toNat ∧ c.toNat ≤ 57
    · rw [if_pos hc]
      split
      · intro h; cases h
      · split
        · intro h; cases h
        · refine pu_bad r _ ?_ u
          obtain ⟨d, hd, hn⟩ := h
          rcases List.mem_cons.1 hd with rfl | hd
          · exact absurd hc hn
          · exact ⟨d, hd, hn⟩
    · rw [if_neg hc]; intro h; cases h

/-- The digits' number, from p on, n of them; none where it is above the greatest int. -/
def dcS (s : ByteArray) (p : Nat) : Nat → Option Nat
  | 0 => some 0
  | n + 1 => match dcS s p n with | none => none | some x => if x * 10 + (bat s (p + n) - 48).toNat ≤ 9223372036854775807 then some (x * 10 + (bat s (p + n) - 48).toNat) else none
theorem dcS_fold (s : ByteArray) (p : Nat) : ∀ n, p + n ≤ s.size → dcS s p n = ((s.data.toList.drop p).take n).foldl stp (some 0)
  | 0, _ => rfl
  | n + 1, h => by
    have hlt : p + n < s.data.toList.length := by rw [Array.length_toList]; exact h
    have e : (s.data.toList.drop p)[n]? = some (s.data.toList[p + n]) := by rw [List.getElem?_drop]; exact List.getElem?_eq_getElem hlt
    have hb : bat s (p + n) = ((s.data.toList[p + n]).toNat : Int) := ((bat_list s (p + n) _).1 (List.getElem?_eq_getElem hlt)).2
    rw [List.take_add_one, e, List.foldl_append, ← dcS_fold s p n (by omega), dcS, hb]
    simp only [Option.toList_some, List.foldl_cons, List.foldl_nil, stp]
    have e2 : (((s.data.toList[p + n]).toNat : Int) - 48).toNat = (s.data.toList[p + n]).toNat - 48 := by omega
    rw [e2]
theorem dcS_le (s : ByteArray) (p : Nat) : ∀ n u, dcS s p n = some u → u ≤ 9223372036854775807
  | 0, u, h => by simp [dcS] at h; omega
  | n + 1, u, h => by
    unfold dcS at h
    split at h
    · cases h
    · split at h
      · rename_i h2; cases h; exact h2
      · cases h

theorem all_list (q : ByteArray) (h : ∀ i, i < q.size → digB (bat q i) = true) : ∀ c ∈ q.data.toList, 48 ≤ c.toNat ∧ c.toNat ≤ 57 := by
  intro c hc
  obtain ⟨i, hi, rfl⟩ := List.mem_iff_getElem.1 hc
  have := (bat_list q i _).1 (List.getElem?_eq_getElem hi)
  have hd := dig_range (h i this.1)
  rw [this.2] at hd
  omega
theorem head_dig (q : ByteArray) (h0 : digB (bat q 0) = true) : ∃ c r, q.data.toList = c :: r ∧ 48 ≤ c.toNat ∧ c.toNat ≤ 57 := by
  have hlt := dig_lt h0
  cases hq : q.data.toList with
  | nil => have : q.data.toList.length = q.size := by rw [Array.length_toList]; rfl
           rw [hq] at this; simp at this; omega
  | cons c r =>
    refine ⟨c, r, rfl, ?_⟩
    have := (bat_list q 0 c).1 (by rw [hq]; rfl)
    have hd := dig_range h0
    rw [this.2] at hd
    omega
theorem pint_of (c : UInt8) (r : List UInt8) (h1 : 48 ≤ c.toNat) (h2 : c.toNat ≤ 57) : Lib.parseIntB 64 (c :: r) = match Lib.parseUintM (2 ^ 64 - 1) 0 (c :: r) with | .syntax => .syntax | .range => .range | .ok u => if 9223372036854775808 ≤ u then .range else .ok (u : Int) := by
  simp only [Lib.parseIntB, Lib.parseUintB]
  rw [if_neg (show ¬ (c.toNat = 43 ∨ c.toNat = 45) by omega), if_neg (show ¬ (c :: r = []) by simp)]
  have hn : ¬ c.toNat = 45 := by omega
  cases Lib.parseUintM (2 ^ 64 - 1) 0 (c :: r) with
  | ok u => simp [hn]
  | «syntax» => rfl
  | range => rfl
theorem decI_dig (q : ByteArray) (h0 : 0 < q.size) (h : ∀ i, i < q.size → digB (bat q i) = true) : decI q = Option.map (fun u : Nat => (u : Int)) (dcS q 0 q.size) := by
  obtain ⟨c, r, hq, h1, h2⟩ := head_dig q (h 0 h0)
  have hall := all_list q h
  have hf := dcS_fold q 0 q.size (by omega)
  rw [List.drop_zero, List.take_of_length_le (by rw [Array.length_toList]; exact Nat.le_refl _)] at hf
  unfold decI
  rw [hf]
  rw [hq] at hall ⊢
  rw [pint_of c r h1 h2]
  have hp := pu_dec (c :: r) 0 hall (by omega)
  cases hx : (c :: r).foldl stp (some 0) with
  | some u =>
    obtain ⟨e1, e2⟩ := hp.1 u hx
    rw [e1]
    simp only [Option.map_some]
    rw [if_neg (by omega)]
  | none =>
    rcases hp.2 hx with e | ⟨u, e, hu⟩
    · rw [e]; rfl
    · rw [e]; simp only [if_pos hu]; rfl
theorem decI_bad (q : ByteArray) (h0 : digB (bat q 0) = true) (i : Nat) (hi : i < q.size) (hn : digB (bat q i) = false) : decI q = none := by
  obtain ⟨c, r, hq, h1, h2⟩ := head_dig q h0
  have hb : ∃ c ∈ q.data.toList, ¬ (48 ≤ c.toNat ∧ c.toNat ≤ 57) := by
    have hlt : i < q.data.toList.length := by rw [Array.length_toList]; exact hi
    refine ⟨q.data.toList[i], List.getElem_mem hlt, ?_⟩
    have := (bat_list q i _).1 (List.getElem?_eq_getElem hlt)
    have e : ¬ (48 ≤ bat q i ∧ bat q i ≤ 57) := by simpa [digB] using hn
    rw [this.2] at e
    omega
  unfold decI
  rw [hq] at hb ⊢
  rw [pint_of c r h1 h2]
  have := pu_bad (c :: r) 0 hb
  cases hx : Lib.parseUintM (2 ^ 64 - 1) 0 (c :: r) with
  | ok u => exact absurd hx (this u)
  | «syntax» => rfl
  | range => rfl
end Go.Proofs.YtcnhhhfedakepaaGreatDoor

namespace Go.Proofs.YtcnhhhfedakepaaGreatDoor
open Go.RowKit Go.Maps Go.WideMaps
set_option linter.unusedVariables false

/-- A text that is a float as a whole. -/
def fltI (q : ByteArray) : Bool := decide (digB (bat q 0) = true ∧ numN q 0 = (q.size, true) ∧ ¬ (bat q 0 = 48 ∧ bat q 1 = 120) ∧ decI q = none)

theorem hxE_bd (s : ByteArray) (p : Nat) (h : p ≤ s.size) : p ≤ hxE s p ∧ hxE s p ≤ s.size := runE_bd hexB hex_neg s _ p h
theorem hexN_yes {s : ByteArray} {p e : Nat} (h : hexN s p = (e, true)) : p < e ∧ e ≤ p + 16 ∧ e = hxE s p ∧ ∀ i, p ≤ i → i < e → hexB (bat s i) = true := by
  unfold hexN at h
  split at h
  · cases h
  · rename_i hle
    obtain ⟨h1, h2⟩ := Prod.mk.inj h
    subst h1
    exact ⟨by simpa using h2, by omega, rfl, fun i hi h2 => runE_all hexB s _ p i hi h2⟩

theorem nil_toList {q : ByteArray} (h0 : 0 < q.size) : (q.toList == []) = false := by
  have : q.toList.length = q.size := by rw [ByteArray.toList_eq]; simp
  cases hs : q.toList with
  | nil => rw [hs] at this; simp at this; omega
  | cons a l => rfl
theorem nil_toList' {q : ByteArray} (h0 : ¬ 0 < q.size) : (q.toList == []) = true := by
  have : q.toList.length = q.size := by rw [ByteArray.toList_eq]; simp
  have : q.toList = [] := List.length_eq_zero_iff.1 (by omega)
  rw [this]; rfl

theorem isDigit_q {c : Int} {b : Bool} (h : digB c = b) (w : World) : Calls Tryz.prog 118 #[.int .u8 c] w fun e w' => e = .returned (.bool b) ∧ w' = w := (isDigit_any c w).mono fun e w' g => ⟨by rw [g.1, h], g.2.symm⟩
theorem numberEnd0 (s : ByteArray) (hm : s.size ≤ 1100000) (h0 : 0 < s.size) (w : World) : Calls Tryz.prog 119 #[.string s, .int .i64 0] w fun e w' => e = .returned (.tuple #[.int .i64 ((numN s 0).1 : Int), .bool (numN s 0).2]) ∧ w' = w := numberEnd_any s hm 0 h0 w

theorem nEx_bd (s : ByteArray) (a : Nat) (h : a ≤ s.size) : a ≤ (nEx s a).1 ∧ (nEx s a).1 ≤ s.size := by
  unfold nEx
  split
  · rename_i he
    have h1 := lt_of_bat he (by omega)
    have h2 : nA2 s a ≤ s.size ∧ a < nA2 s a := by
      unfold nA2
      split
      · rename_i hs
        rcases hs with hs | hs
        · have := lt_of_bat hs (by omega); omega
        · have := lt_of_bat hs (by omega); omega
      · omega
    have := digE_bd s (nA2 s a) h2.1
    simp only
    omega
  · exact ⟨Nat.le_refl _, h⟩
theorem nA0_bd (s : ByteArray) (p : Nat) (h : p < s.size) : p < nA0 s p ∧ nA0 s p ≤ s.size := by
  unfold nA0
  split
  · omega
  · have := digE_bd s (p + 1) (by omega); omega
theorem nA1_bd (s : ByteArray) (a : Nat) (h : a ≤ s.size) : a ≤ nA1 s a ∧ nA1 s a ≤ s.size := by
  unfold nA1
  split
  · rename_i hd
    have := digE_bd s (a + 1) (by have := dig_lt hd.2; omega); omega
  · omega
theorem hexN_bd (s : ByteArray) (p : Nat) (h : p ≤ s.size) : p ≤ (hexN s p).1 ∧ (hexN s p).1 ≤ s.size := by
  have := hxE_bd s p h
  unfold hexN
  split
  · simp only; omega
  · exact this
theorem numN_bd (s : ByteArray) (p : Nat) (h : p < s.size) : p < (numN s p).1 ∧ (numN s p).1 ≤ s.size := by
  unfold numN
  split
  · rename_i hx
    have := lt_of_bat hx.2 (by omega)
    have := hexN_bd s (p + 2) (by omega)
    omega
  · have h0 := nA0_bd s p h
    have h1 := nA1_bd s _ h0.2
    have h2 := nEx_bd s _ h1.2
    omega

set_option maxRecDepth 100000 in
set_option maxHeartbeats 3200000 in
theorem isFloat_any (q : ByteArray) (hm : q.size ≤ 1100000) (w : World) (hE : Errs w) : Calls Tryz.prog 99 #[.string q] w fun e w' => e = .returned (.bool (fltI q)) ∧ Below w.heap.size w w' := by
  by_cases h0 : 0 < q.size
  · have hne := nil_toList h0
    have i1 : ∀ w, (Instr.index 9 (.string q) (.int .i64 0)).run Tryz.prog w = .ok (.int .u8 (bat q 0)) w := fun w => idx_run h0 w
    by_cases hd : digB (bat q 0) = true
    · have kd := fun w => isDigit_q hd w
      have kn := fun w => numberEnd0 q hm h0 w
      have bd := (numN_bd q 0 h0).2
      by_cases hok : (numN q 0).2 = true
      · by_cases he : (numN q 0).1 = q.size
        · have hN : numN q 0 = (q.size, true) := Prod.ext he hok
          have hnl : ¬ (q.size : Int) < (q.size : Int) := by omega
          rw [hN] at kn
          by_cases hx : bat q 0 = 48 ∧ bat q 1 = 120
          · have hf : fltI q = false := by unfold fltI; simp [hx]
            rw [hf]
            have hh : hexN q 2 = (q.size, true) := by rw [← hN]; unfold numN; rw [if_pos hx]
            obtain ⟨g1, g2, g3, g4⟩ := hexN_yes hh
            have ki := fun w => intOf_hex q hx.1 hx.2 (by omega) (by omega) g4 w
            generalize wrap64 (hvS q 2 (q.size - 2) : Int) = v at ki
            clear hf hh g3 g4 hN hok he hx hd
            generalize bat q 0 = c at i1 kd
            go_enter Tryz.func99, Tryz.ntmps99
            go_wp2_with (first | (go_at_call 118; refine (kd _).mono ?_; rintro e w' ⟨rfl, rfl⟩) | (go_at_call 119; refine (kn _).mono ?_; rintro e w' ⟨rfl, rfl⟩) | (go_at_call 120; refine (ki _).mono ?_; rintro e w' ⟨rfl, hb⟩))
            go_ret
            exact ⟨rfl, hb⟩
          · have ki := intOf_dec q hm hx w hE
            have hf : fltI q = !(decI q).isSome := by
              unfold fltI
              cases hdc : decI q <;> simp [hd, hN, hx]
            rw [hf]
            generalize (decI q).isSome = B at ki
            clear hf hN hok he hx hd
            generalize bat q 0 = c at i1 kd
            go_enter Tryz.func99, Tryz.ntmps99
            go_wp2_with (first | (go_at_call 118; refine (kd _).mono ?_; rintro e w' ⟨rfl, rfl⟩) | (go_at_call 119; refine (kn _).mono ?_; rintro e w' ⟨rfl, rfl⟩) | (go_at_call 120; refine ki.mono ?_; rintro e w' ⟨⟨x, rfl, _⟩, hb⟩))
            go_ret
            exact ⟨rfl, hb⟩
        · have hf : fltI q = false := by unfold fltI; rw [decide_eq_false_iff_not]; rintro ⟨_, h2, _⟩; rw [h2] at he; exact he rfl
          rw [hf]
          have hlt : ((numN q 0).1 : Int) < (q.size : Int) := by omega
          rw [hok] at kn
          generalize (numN q 0).1 = E at kn hlt
          clear hf hok he hd bd
          generalize bat q 0 = c at i1 kd
          go_enter Tryz.func99, Tryz.ntmps99
          go_wp2_with (first | (go_at_call 118; refine (kd _).mono ?_; rintro e w' ⟨rfl, rfl⟩) | (go_at_call 119; refine (kn _).mono ?_; rintro e w' ⟨rfl, rfl⟩))
          go_ret
          exact ⟨rfl, Below.refl _ _⟩
      · have hok' : (numN q 0).2 = false := by simpa using hok
        have hf : fltI q = false := by unfold fltI; rw [decide_eq_false_iff_not]; rintro ⟨_, h2, _⟩; rw [h2] at hok; exact hok rfl
        rw [hf]
        rw [hok'] at kn
        generalize (numN q 0).1 = E at kn bd
        clear hf hok hok' hd
        generalize bat q 0 = c at i1 kd
        go_enter Tryz.func99, Tryz.ntmps99
        go_wp2_with (first | (go_at_call 118; refine (kd _).mono ?_; rintro e w' ⟨rfl, rfl⟩) | (go_at_call 119; refine (kn _).mono ?_; rintro e w' ⟨rfl, rfl⟩))
        go_ret
        exact ⟨rfl, Below.refl _ _⟩
    · have hd' : digB (bat q 0) = false := by simpa using hd
      have kd := fun w => isDigit_q hd' w
      have hf : fltI q = false := by unfold fltI; simp [hd']
      rw [hf]
      clear hf hd hd'
      generalize bat q 0 = c at i1 kd
      go_enter Tryz.func99, Tryz.ntmps99
      go_wp2_with (first | (go_at_call 118; refine (kd _).mono ?_; rintro e w' ⟨rfl, rfl⟩))
      go_ret
      exact ⟨rfl, Below.refl _ _⟩
  · have hne := nil_toList' h0
    have hf : fltI q = false := by unfold fltI; rw [bat_out h0]; simp [dig_neg]
    rw [hf]
    clear hf
    go_enter Tryz.func99, Tryz.ntmps99
    go_wp2
    go_ret
    exact ⟨rfl, Below.refl _ _⟩
end Go.Proofs.YtcnhhhfedakepaaGreatDoor

namespace Go.Proofs.YtcnhhhfedakepaaGreatDoor
open Go.RowKit Go.Maps Go.WideMaps
set_option linter.unusedVariables false

theorem l1digit_q {c : Int} {b : Bool} (h : digB c = b) (w : World) : Calls Tryz.prog 95 #[.int .u8 c] w fun e w' => e = .returned (.bool b) ∧ w' = w := (l1digit_any c w).mono fun e w' g => ⟨by rw [g.1, h], g.2.symm⟩
theorem l1look_q (s : ByteArray) (hm : s.size ≤ 1100000) (a : Int) (i : Nat) (ha : a = (i : Int)) (w : World) : Calls Tryz.prog 130 #[.string s, .int .i64 a] w fun e w' => e = .returned (.int .u8 (lk s i)) ∧ w' = w := by
  subst ha; exact (l1look_any s hm i w).mono fun e w' g => ⟨g.1, g.2.symm⟩

set_option maxHeartbeats 400000 in
theorem l1hex_any (c : Int) (h0 : 0 ≤ c) (h1 : c < 256) (w : World) : Calls Tryz.prog 133 #[.int .u8 c] w fun e w' => e = .returned (.int .i64 (hexv c)) ∧ w' = w := by
  unfold hexv
  by_cases hd : digB c = true
  · have kd := fun w => l1digit_q hd w
    have hr := dig_range hd
    rw [if_pos hr]
    clear hd
    go_enter Tryz.func133, Tryz.ntmps133
    go_wp2_with (first | (go_at_call 95; refine (kd _).mono ?_; rintro e w' ⟨rfl, rfl⟩))
    go_ret
    exact ⟨rfl, rfl⟩
  · have hd' : digB c = false := by simpa using hd
    have kd := fun w => l1digit_q hd' w
    have hr : ¬ (48 ≤ c ∧ c ≤ 57) := by simpa [digB] using hd'
    rw [if_neg hr]
    clear hd hd' hr
    rcases (show (97 ≤ c ∧ c ≤ 102) ∨ ¬ 97 ≤ c ∨ (97 ≤ c ∧ ¬ c ≤ 102) by omega) with ⟨g1, g2⟩ | g1 | ⟨g1, g2⟩
    · rw [if_pos ⟨g1, g2⟩]
      go_enter Tryz.func133, Tryz.ntmps133
      go_wp2_with (first | (go_at_call 95; refine (kd _).mono ?_; rintro e w' ⟨rfl, rfl⟩))
      go_ret
      exact ⟨by simp; omega, rfl⟩
    · rw [if_neg (by omega)]
      go_enter Tryz.func133, Tryz.ntmps133
      go_wp2_with (first | (go_at_call 95; refine (kd _).mono ?_; rintro e w' ⟨rfl, rfl⟩))
      go_ret
      exact ⟨rfl, rfl⟩
    · rw [if_neg (by omega)]
      go_enter Tryz.func133, Tryz.ntmps133
      go_wp2_with (first | (go_at_call 95; refine (kd _).mono ?_; rintro e w' ⟨rfl, rfl⟩))
      go_ret
      exact ⟨rfl, rfl⟩
theorem hexv_lk (s : ByteArray) (i : Nat) : hexv (lk s i) = hexv (bat s i) := by
  unfold lk; split
  · rfl
  · rename_i h; rw [bat_out h]; decide
theorem lk_bat {s : ByteArray} {i : Nat} (h : i < s.size) : lk s i = bat s i := by unfold lk; rw [if_pos h]

def hxA (s : ByteArray) (p : Nat) : Value := if (hexN s (p + 2)).2 = true then .agg #[.int .i64 2, .int .i64 p, .int .i64 ((hexN s (p + 2)).1 : Int), .int .i64 0, .int .i64 (wrap64 (hvS s (p + 2) ((hexN s (p + 2)).1 - (p + 2)) : Int)), .string { data := #[] }] else .agg #[.int .i64 2, .int .i64 p, .int .i64 0, .int .i64 0, .int .i64 0, .string { data := #[] }]
def hxF (s : ByteArray) (p : Nat) : Int := if (hexN s (p + 2)).2 = true then -1 else ((hexN s (p + 2)).1 : Int)

set_option maxRecDepth 100000 in
set_option maxHeartbeats 3200000 in
theorem l1hexed_any (s : ByteArray) (hm : s.size ≤ 1100000) (p : Nat) (hp : p + 2 ≤ s.size) (w : World) : Calls Tryz.prog 132 #[.string s, .agg #[.int .i64 2, .int .i64 p, .int .i64 0, .int .i64 0, .int .i64 0, .string { data := #[] }]] w fun e w' => e = .returned (.tuple #[hxA s p, .int .i64 (hxF s p)]) ∧ Below w.heap.size w w' := by
  obtain ⟨A, hA⟩ : ∃ A, hxA s p = A := ⟨_, rfl⟩
  obtain ⟨F, hF⟩ : ∃ F, hxF s p = F := ⟨_, rfl⟩
  rw [hA, hF]
  unfold hxA at hA
  unfold hxF at hF
  unfold hexN at hA hF
  obtain ⟨R, hR⟩ : ∃ R, hxE s (p + 2) = R := ⟨_, rfl⟩
  rw [hR] at hA hF
  unfold hxE at hR
  have HR : Hid (runE hexB s (s.size + 1) (p + 2) = R) := hR
  have HA : Hid ((if (if p + 2 + 16 < R then (p + 2 + 16, false) else (R, decide (p + 2 < R))).2 = true then Value.agg #[.int .i64 2, .int .i64 p, .int .i64 (((if p + 2 + 16 < R then (p + 2 + 16, false) else (R, decide (p + 2 < R))).1 : Nat) : Int), .int .i64 0, .int .i64 (wrap64 (hvS s (p + 2) ((if p + 2 + 16 < R then (p + 2 + 16, false) else (R, decide (p + 2 < R))).1 - (p + 2)) : Int)), .string { data := #[] }] else .agg #[.int .i64 2, .int .i64 p, .int .i64 0, .int .i64 0, .int .i64 0, .string { data := #[] }]) = A) := hA
  have HFF : Hid ((if (if p + 2 + 16 < R then (p + 2 + 16, false) else (R, decide (p + 2 < R))).2 = true then -1 else (((if p + 2 + 16 < R then (p + 2 + 16, false) else (R, decide (p + 2 < R))).1 : Nat) : Int)) = F) := hF
  clear hR hA hF
  have hT0 : TkAt w.heap.size ((w.alloc (.cells #[.int .i64 2, .int .i64 p, .int .i64 0, .int .i64 0, .int .i64 0, .string { data := #[] }] 161)).alloc (.cells #[.int .i64 0, .int .i64 0, .int .i64 0, .int .i64 0, .int .i64 0, .string { data := #[] }] 161)) 2 p 0 0 0 { data := #[] } := (Below.heap_alloc _ _ _ (by simp)).trans (heap_alloc_new w _)
  have hZ0 : TkAt (w.heap.size + 1) ((w.alloc (.cells #[.int .i64 2, .int .i64 p, .int .i64 0, .int .i64 0, .int .i64 0, .string { data := #[] }] 161)).alloc (.cells #[.int .i64 0, .int .i64 0, .int .i64 0, .int .i64 0, .int .i64 0, .string { data := #[] }] 161)) 0 0 0 0 0 { data := #[] } := by
    have := heap_alloc_new (w.alloc (.cells #[.int .i64 2, .int .i64 p, .int .i64 0, .int .i64 0, .int .i64 0, .string { data := #[] }] 161)) (.cells #[.int .i64 0, .int .i64 0, .int .i64 0, .int .i64 0, .int .i64 0, .string { data := #[] }] 161)
    rw [World.size_alloc] at this
    exact this
  have hB0 : Below w.heap.size w ((w.alloc (.cells #[.int .i64 2, .int .i64 p, .int .i64 0, .int .i64 0, .int .i64 0, .string { data := #[] }] 161)).alloc (.cells #[.int .i64 0, .int .i64 0, .int .i64 0, .int .i64 0, .int .i64 0, .string { data := #[] }] 161)) := (((Below.refl _ w).alloc (Nat.le_refl _) _).alloc (by simp) _)
  go_enter Tryz.func132, Tryz.ntmps132
  go_wp2_with fail
  generalize (w.alloc (.cells #[.int .i64 2, .int .i64 p, .int .i64 0, .int .i64 0, .int .i64 0, .string { data := #[] }] 161)).alloc (.cells #[.int .i64 0, .int .i64 0, .int .i64 0, .int .i64 0, .int .i64 0, .string { data := #[] }] 161) = W at hT0 hZ0 hB0
  have hsW : w.heap.size + 1 < W.heap.size := lt_of_block hZ0
  obtain ⟨t0, t1, t2, t3, t4, t5, tf⟩ := tk_cells hT0
  obtain ⟨z0, z1, z2, z3, z4, z5, zf⟩ := tk_cells hZ0
  go_loop [6, 7] (fun i n => ∃ (k f : Nat) (a : Int), p + 2 ≤ k ∧ k ≤ p + 18 ∧ k ≤ s.size ∧ s.size < k + f ∧ i = .int .i64 k ∧ n = .int .u64 a ∧ Hid (runE hexB s f k = R) ∧ Hid (a = (hvS s (p + 2) (k - (p + 2)) : Int))) (fun i _ => s.size - (intOf i).toNat)
  case atStart => exact ⟨p + 2, s.size + 1, 0, by omega, by omega, hp, by omega, by simp, rfl, HR, by show (0 : Int) = _; rw [Nat.sub_self]; rfl⟩
  case round =>
    obtain ⟨k, f, a, hk2, hk18, hk, hf, rfl, rfl, HF, HV⟩ := hrel
    obtain ⟨f, rfl⟩ : ∃ g, f = g + 1 := ⟨f - 1, by omega⟩
    have hst := HF.out
    unfold runE at hst
    have kk := fun w => l1look_q s hm (k : Int) k rfl w
    have kh := fun w => l1hex_any (lk s k) (lk_in s k).1 (lk_in s k).2 w
    rw [hexv_lk] at kh
    by_cases h1 : hexB (bat s k) = true
    · have hlt : k < s.size := run_in hex_neg h1
      have i1 := fun w => idx_run hlt w
      rw [lk_bat hlt] at kk kh
      rw [if_pos h1] at hst
      have hbd := (runE_bd hexB hex_neg s f (k + 1) (by omega)).1
      rw [hst] at hbd
      have HS : Hid (runE hexB s f (k + 1) = R) := hst
      have hv0 : 0 ≤ hexv (bat s k) := by simpa [hexB] using h1
      have hv1 := hexv_lt (bat s k)
      have h60 : k ≠ p + 18 → hvS s (p + 2) (k - (p + 2)) < 1152921504606846976 := fun h => hvS_60 s (p + 2) _ (by omega)
      have HN : Hid (a * 16 + hexv (bat s k) = (hvS s (p + 2) (k + 1 - (p + 2)) : Int)) := by
        show _ = _
        rw [show k + 1 - (p + 2) = (k - (p + 2)) + 1 by omega, hvS, show p + 2 + (k - (p + 2)) = k by omega, HV.out]
        omega
      have a0 : 0 ≤ a := by rw [HV.out]; omega
      have a1 : k ≠ p + 18 → a < 1152921504606846976 := fun h => by have := h60 h; rw [HV.out]; omega
      generalize hexv (bat s k) = d at kh hv0 hv1 HN
      generalize bat s k = c at kk kh i1
      clear hst h1 h60
      by_cases h18 : k = p + 18
      · have ha := HA.out
        have hff := HFF.out
        simp only [if_pos (show p + 2 + 16 < R by omega)] at ha hff
        simp at ha hff
        subst ha
        have hff' : F = (k : Int) := by omega
        clear hff
        subst hff'
        have e18 : ((k : Int) - (p : Int) == 18) = true := by rw [beq_iff_eq]; omega
        clear HA HFF h18 a1
        go_wp2_with (first | (go_at_call 130; refine (kk _).mono ?_; rintro e w' ⟨rfl, rfl⟩) | (go_at_call 133; refine (kh _).mono ?_; rintro e w' ⟨rfl, rfl⟩))
        refine bodyPost_ret (v := .tuple #[.agg #[.int .i64 2, .int .i64 p, .int .i64 0, .int .i64 0, .int .i64 0, .string { data := #[] }], .int .i64 (k : Int)]) (by simp [results, Tryz.results132, go_sem, z0, z1, z2, z3, z4, z5]) rfl ⟨rfl, ?_⟩
        iterate 6 refine Below.setCell ?_ (by simp) _
        exact hB0
      · have e18 : ((k : Int) - (p : Int) == 18) = false := by rw [beq_eq_false_iff_ne]; omega
        have a1' := a1 h18
        clear a1
        go_wp2_with (first | (go_at_call 130; refine (kk _).mono ?_; rintro e w' ⟨rfl, rfl⟩) | (go_at_call 133; refine (kh _).mono ?_; rintro e w' ⟨rfl, rfl⟩))
        go_round
        case rel => exact ⟨k + 1, f, a * 16 + d, by omega, by omega, by omega, by omega, by go_num, by first | rfl | (congr 1; omega), HS, HN⟩
        case measure => simp [intOf]; omega
    · have hneg : hexv (bat s k) < 0 := by
        have : ¬ 0 ≤ hexv (bat s k) := by simpa [hexB] using h1
        omega
      rw [if_neg h1] at hst
      subst hst
      have hnn : ¬ (0 : Int) ≤ hexv (bat s k) := by omega
      have a0 : 0 ≤ a := by rw [HV.out]; omega
      have a1 : a < 18446744073709551616 := by rw [HV.out]; have := hvS_64 s (p + 2) (k - (p + 2)) (by omega); omega
      generalize hexv (bat s k) = d at kh hnn
      generalize lk s k = c at kk kh
      have ha := HA.out
      have hff := HFF.out
      simp only [if_neg (show ¬ p + 2 + 16 < k by omega)] at ha hff
      by_cases h2 : k = p + 2
      · have hdec : decide (p + 2 < k) = false := by rw [decide_eq_false_iff_not]; omega
        simp only [hdec] at ha hff
        simp at ha hff
        subst ha hff
        have e2 : ((k : Int) == (p : Int) + 2) = true := by rw [beq_iff_eq]; omega
        clear HA HFF h1 hneg h2 hdec HV HF HR
        go_wp2_with (first | (go_at_call 130; refine (kk _).mono ?_; rintro e w' ⟨rfl, rfl⟩) | (go_at_call 133; refine (kh _).mono ?_; rintro e w' ⟨rfl, rfl⟩))
        refine bodyPost_ret (v := .tuple #[.agg #[.int .i64 2, .int .i64 p, .int .i64 0, .int .i64 0, .int .i64 0, .string { data := #[] }], .int .i64 (k : Int)]) (by simp [results, Tryz.results132, go_sem, z0, z1, z2, z3, z4, z5]) rfl ⟨rfl, ?_⟩
        iterate 6 refine Below.setCell ?_ (by simp) _
        exact hB0
      · have hdec : decide (p + 2 < k) = true := by rw [decide_eq_true_iff]; omega
        simp only [hdec] at ha hff
        simp only [if_true] at ha hff
        rw [← HV.out] at ha
        subst ha hff
        have e2 : ((k : Int) == (p : Int) + 2) = false := by rw [beq_eq_false_iff_ne]; omega
        clear HA HFF h1 hneg h2 hdec HV HF HR
        go_wp2_with (first | (go_at_call 130; refine (kk _).mono ?_; rintro e w' ⟨rfl, rfl⟩) | (go_at_call 133; refine (kh _).mono ?_; rintro e w' ⟨rfl, rfl⟩))
        refine bodyPost_ret (v := .tuple #[.agg #[.int .i64 2, .int .i64 p, .int .i64 (k : Int), .int .i64 0, .int .i64 (wrap64 a), .string { data := #[] }], .int .i64 (-1)]) (by simp [results, Tryz.results132, go_sem, z0, z1, z2, z3, z4, z5]) rfl ⟨rfl, ?_⟩
        iterate 8 refine Below.setCell ?_ (by simp) _
        exact hB0
end Go.Proofs.YtcnhhhfedakepaaGreatDoor
