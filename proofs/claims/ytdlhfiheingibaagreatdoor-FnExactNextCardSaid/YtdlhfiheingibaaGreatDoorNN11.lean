import Derived.Test.YtdlhfiheingibaaGreatDoorNN10
import Derived.Test.YtdlhfiheingibaaGreatDoorNN08
import Derived.Deep.Strs
namespace Go.Proofs.YtdlhfiheingibaaGreatDoor
open Go.RowKit Go.Maps Go.WideMaps
set_option linter.unusedVariables false

/-- impl.powers, as it lies. -/
def powV : Array Value := #[.int .i64 26, .int .i64 1, .int .i64 2, .int .i64 10, .int .i64 2, .int .i64 3, .int .i64 73, .int .i64 3, .int .i64 4, .int .i64 74, .int .i64 3, .int .i64 4, .int .i64 75, .int .i64 3, .int .i64 4, .int .i64 76, .int .i64 3, .int .i64 4, .int .i64 77, .int .i64 3, .int .i64 4, .int .i64 78, .int .i64 3, .int .i64 4,
  .int .i64 72, .int .i64 4, .int .i64 4, .int .i64 68, .int .i64 5, .int .i64 6, .int .i64 69, .int .i64 6, .int .i64 7, .int .i64 67, .int .i64 7, .int .i64 8, .int .i64 70, .int .i64 8, .int .i64 9, .int .i64 71, .int .i64 8, .int .i64 9, .int .i64 61, .int .i64 9, .int .i64 10, .int .i64 62, .int .i64 9, .int .i64 10,
  .int .i64 63, .int .i64 10, .int .i64 11, .int .i64 64, .int .i64 10, .int .i64 11, .int .i64 65, .int .i64 10, .int .i64 11, .int .i64 66, .int .i64 10, .int .i64 11]
def powK : List Int := [26, 10, 73, 74, 75, 76, 77, 78, 72, 68, 69, 67, 70, 71, 61, 62, 63, 64, 65, 66]
def powI (k : Nat) : Int := match powV.getD k (.int .i64 0) with | .int _ z => z | _ => 0
theorem pidx (k : Nat) (hk : k < 20) (w : World) : (Instr.index 105 (.agg powV) (.int .i64 (k : Int))).run Tryz.prog w = .ok (.agg #[.int .i64 (powK.getD k 0), .int .i64 (powI (3 * k + 1)), .int .i64 (powI (3 * k + 2))]) w := by
  rcases (show k = 0 ∨ k = 1 ∨ k = 2 ∨ k = 3 ∨ k = 4 ∨ k = 5 ∨ k = 6 ∨ k = 7 ∨ k = 8 ∨ k = 9 ∨ k = 10 ∨ k = 11 ∨ k = 12 ∨ k = 13 ∨ k = 14 ∨ k = 15 ∨ k = 16 ∨ k = 17 ∨ k = 18 ∨ k = 19 by omega) with rfl | rfl | rfl | rfl | rfl | rfl | rfl | rfl | rfl | rfl | rfl | rfl | rfl | rfl | rfl | rfl | rfl | rfl | rfl | rfl
  all_goals kernel_rfl
def infR (k : Nat) : List (List Int) := (powK.take k).map fun x => [x, 118, 119]
theorem infR_succ (k : Nat) (hk : k < 20) : infR (k + 1) = infR k ++ [[powK.getD k 0, 118, 119]] := by
  unfold infR
  rw [List.take_add_one, List.map_append]
  have h : powK[k]? = some (powK.getD k 0) := by
    rw [List.getD_eq_getElem?_getD]
    rw [List.getElem?_eq_getElem (by simpa [powK] using hk)]; rfl
  rw [h]; rfl
theorem infR_len (k : Nat) (hk : k ≤ 20) : (infR k).length = k := by
  unfold infR
  rw [List.length_map, List.length_take]
  show min k 20 = k
  omega
theorem powK_in : ∀ k : Fin 20, 0 ≤ powK.getD k.val 0 ∧ powK.getD k.val 0 ≤ 100 := by decide
theorem lt_of_mapblock {w : World} {b : Nat} {o : Obj} (h : w.heap[b]? = some o) : b < w.heap.size := (Array.getElem?_eq_some_iff.1 h).1
theorem wpList_rowGet {ops : Array Oper} {rest : List Oper} {o : Oper} {a : Act} {Q : Exit → Act → World → Prop} {W w : World} {mb n : Nat} {D : DataW Value} {v : Value} (hg : o.guard = none) (m x : Operand) (hop : o.op = Op.lookup 51 m x false) (hm : a.eval m = .map (some mb))
    (h1 : W.ownsMap Tryz.prog 59 heldR mb n D) (hw : w.heap[mb]? = W.heap[mb]?) (s : Int) (s0 : 0 ≤ s) (s1 : s ≤ 255) (hx : a.eval x = .int .u8 s) (hat : D.atKey (.int .u8 s) (.held (.slice none 0 0)) = .held v)
    (hK : wpList Tryz.prog ops Q rest (a.put o.dst v) w) : wpList Tryz.prog ops Q (o :: rest) a w := by
  refine wpList_plain hg fun K' hK' => ?_
  have h1' : w.ownsMap Tryz.prog 59 heldR mb n D := by
    obtain ⟨es, c, e1, e2⟩ := h1
    exact ⟨es, c, hw.trans e1, e2⟩
  obtain ⟨u, ps, hrun, hv⟩ := h1'.lookup keySym Tryz.underlying51 (show (zeroValue 101).run Tryz.prog w = .ok (.slice none 0 0) w by kernel_rfl) (zd := .held (.slice none 0 0)) (zp := []) rfl (u8_key s0 s1)
  rw [hat] at hv
  unfold heldR at hv
  simp only [Option.some.injEq, Prod.mk.injEq, DataW.held.injEq] at hv
  obtain ⟨rfl, _⟩ := hv
  unfold Oper.wp
  simp [execOp, hop, hm, hx, hrun, Result.andThen]
  exact hK' _ _ hK
/-- A row of the map is laid anew, longer. -/
theorem wpList_rowGrow {ops : Array Oper} {rest : List Oper} {o : Oper} {a : Act} {Q : Exit → Act → World → Prop} {w0 W w1 w : World} {base mb n : Nat} {R : List (Int × List (List Int))} {D : DataW Value} {f : Int → Value}
    (hg : o.guard = none) (m x v : Operand) (hop : o.op = Op.mapUpdate 51 m x v) (hm : a.eval m = .map (some mb))
    (h1 : W.ownsMap Tryz.prog 59 heldR mb n D) (h2 : ∀ a, 0 ≤ a → a ≤ 255 → D.atKey (.int .u8 a) (.held (.slice none 0 0)) = .held (f a) ∧ RowIn W base (f a) (look R a)) (h3 : ApartR f) (lo : base ≤ mb) (s : Int) (hb : Below W.heap.size W w1) (hgr : w1.grownBy w (f s).ownBlock) (hn : n < 1000)
    (s0 : 0 ≤ s) (s1 : s ≤ 255) (hx : a.eval x = .int .u8 s) (val : Value) (hv : a.eval v = val) (L : List (List Int)) (ho : RowIn w base val L) (hat : val.ownBlock = (f s).ownBlock ∨ val.ownBlock = some w1.heap.size) (hB0 : Below base w0 W)
    (hK : ∀ w', RM w' base mb (n + 1) ((s, L) :: R) → Below base w0 w' → wpList Tryz.prog ops Q rest (a.put o.dst undef) w') : wpList Tryz.prog ops Q (o :: rest) a w := by
  have hmlt := h1.lt
  obtain ⟨es0, ck0, hbk0, hrest⟩ := h1
  have hbk1 : w1.heap[mb]? = some (.map es0 ck0) := (hb.block _ hmlt).trans hbk0
  have hne : ∀ g, (f s).ownBlock = some g → mb ≠ g := by
    intro g hgo
    have hr := (h2 s s0 s1).2
    rcases hr.2 with ⟨h, _⟩ | ⟨g2, cap2, cur, h, _, h5, _⟩
    · rw [h] at hgo; cases hgo
    · rw [h] at hgo
      obtain rfl : g2 = g := by simpa [Value.ownBlock] using hgo
      rintro rfl
      rw [hbk0] at h5; cases h5
  have hbk : w.heap[mb]? = some (.map es0 ck0) := (hgr.block mb (lt_of_mapblock hbk1) (fun e => hne mb e.symm rfl)).trans hbk1
  have h1' : w.ownsMap Tryz.prog 59 heldR mb n D := ⟨es0, ck0, hbk, hrest⟩
  have h1 : W.ownsMap Tryz.prog 59 heldR mb n D := ⟨es0, ck0, hbk0, hrest⟩
  refine wpList_mapUpdate_own w hg m x v 51 hop 59 101 keySym Tryz.underlying51 heldR mb n D hm h1' (by unfold maxLen; omega) _ _ _ hx hv (u8_key s0 s1) (.held val) [] rfl ?_
  intro w' ho' hg'
  refine hK w' ⟨⟨_, fun a => if a = s then val else f a, ho', fun a a0 a1 => ?_, ?_⟩, lo⟩ ?_
  · by_cases e : a = s
    · subst e
      rw [look_same, atKey_put_same h1.isMap (by trivial)]
      show DataW.held val = DataW.held (if a = a then val else f a) ∧ RowIn w' base (if a = a then val else f a) L
      rw [if_pos rfl]
      exact ⟨rfl, rowIn_map ho hbk hg'⟩
    · show _ = DataW.held (if a = s then val else f a) ∧ RowIn w' base (if a = s then val else f a) _
      rw [look_other (fun h => e h.symm), if_neg e, atKey_put_other (by intro h; injection h with _ h; exact e h)]
      exact ⟨(h2 a a0 a1).1, rowIn_map (World.ownsRow.kept ((h2 a a0 a1).2.keep hb) hgr (h3 a s a0 a1 s0 s1 e)) hbk hg'⟩
  · have hold : ∀ a, 0 ≤ a → a ≤ 255 → ∀ g, (f a).ownBlock = some g → g < W.heap.size := fun a a0 a1 g hg => ((h2 a a0 a1).2.lt g hg).2
    have hws := hb.size
    intro a b a0 a1 b0 b1 hne
    show (if a = s then val else f a).ownBlock = none ∨ (if a = s then val else f a).ownBlock ≠ (if b = s then val else f b).ownBlock
    by_cases ea : a = s
    · rw [if_pos ea, if_neg (by omega)]
      rcases hat with e | e
      · rw [e]; exact h3 s b s0 s1 b0 b1 (by omega)
      · refine .inr (fun e2 => ?_)
        rw [e] at e2
        have := hold b b0 b1 _ e2.symm
        omega
    · rw [if_neg ea]
      by_cases eb : b = s
      · rw [if_pos eb]
        rcases hat with e | e
        · rw [e]; exact h3 a s a0 a1 s0 s1 ea
        · cases hq : (f a).ownBlock with
          | none => exact .inl rfl
          | some g => exact .inr (fun e2 => by rw [e] at e2; have := hold a a0 a1 g hq; cases e2; omega)
      · rw [if_neg eb]
        exact h3 a b a0 a1 b0 b1 hne
  · have hbase : base ≤ W.heap.size := by omega
    have b1 : Below base W w1 := hb.mono hbase
    refine hB0.trans ?_
    have b2 : Below base W w := b1.grown hgr (by have := hb.size; omega) (fun k e => ((h2 s s0 s1).2.lt k e).1)
    exact b2.grown hg' (by have := b2.size; omega) (fun k e => by cases e; exact lo)
/-- Rows are put behind others; where they lie then. -/
theorem wpList_rowsAppAt {ops : Array Oper} {rest : List Oper} {o : Oper} {a : Act} {Q : Exit → Act → World → Prop} {w2 : World} {base : Nat} {v : Value} {L : List (List Int)} (hgd : o.guard = none) (s x : Operand)
    (ho : o.op = .call { callee := .builtin .append, args := #[s, x], argTypes := #[101, 101] }) (hs : a.eval s = v) (HO : RowIn w2 base v L) (hbs : base ≤ w2.heap.size) (cs : Array Value) (m g : Nat) (hx : a.eval x = .slice (some ⟨g, 0, none⟩) m m) (hgs : g = w2.heap.size) (L2 : List (List Int)) (hm : L2.length = m) (hc : cs.toList = rcs L2) (hr : ∀ r ∈ L2, r.length ≤ 6)
    (h63 : L.length + m ≤ 1000)
    (hK : ∀ v' w', RowIn w' base v' (L ++ L2) → (w2.alloc (.cells cs 100 (0, 0))).grownBy w' v.ownBlock → (v'.ownBlock = v.ownBlock ∨ v'.ownBlock = some (w2.alloc (.cells cs 100 (0, 0))).heap.size) → wpList Tryz.prog ops Q rest (a.put o.dst v') w') : wpList Tryz.prog ops Q (o :: rest) a (w2.alloc (.cells cs 100 (0, 0))) := by
  subst hgs
  obtain ⟨j0, ji, jz0, jz1, jz2⟩ := info_parts infoRow
  refine wpList_append_own_at _ hgd s x 101 ho base 100 j0 _ 6 6 Tryz.underlying101 ji jz0 jz1 jz2 rfl (by decide) v L.length (rcs L) hs (World.ownsRow.alloc HO _) ⟨w2.heap.size, 0, none⟩ m m (rcs L2) hx (by rw [rcs_len hr, hm]) ?_ rcs_one (by unfold maxLen; omega) (by omega) (by simp; omega) ?_
  · rw [← hc]; exact World.news_of_block (cs := cs) (fr := (0, 0)) (heap_alloc_new w2 _)
  · intro v' w' h1 h2 _ h4
    refine hK v' w' ?_ h2 h4
    unfold RowIn
    rw [rcs_app, List.length_append, hm]
    exact h1
set_option maxRecDepth 100000 in
set_option maxHeartbeats 6400000 in
theorem addExpr_any (w : World) (base mb n : Nat) (R : List (Int × List (List Int))) (H : RM w base mb n R) (hn : n ≤ 100) (tt : TypeId) (fr : Nat × Nat) (hG : w.heap[1]? = some (.cells powV tt fr)) (hGb : 1 < base) :
    Calls Tryz.prog 40 #[.map (some mb)] w fun e w' => e = .returned (.tuple #[]) ∧ RM w' base mb (n + 34) ((124, [[117], [44, 117, 45, 47, 117], [48, 1, 47, 117]]) :: (123, [[46, 122], []]) :: (122, [[124, 123], []]) :: (121, [[42, 122, 43]]) :: (119, [] :: infR 20) :: (118, [[25, 118], [62, 118], [50, 118], [69, 118], [1, 120], [40, 117, 41, 120], [2], [3], [4], [24], [29], [17], [49], [18, 113], [121]]) :: (117, [[118, 119]]) :: (116, [[46, 115], []]) :: (115, [[49], [1, 116]]) :: (114, [[115], []]) :: (113, [[40, 114, 41, 108]]) :: (112, [[46, 117, 112], []]) :: (111, [[117, 112], []]) :: (110, [[117, 112]]) :: R) ∧ Below base w w' := by
  have hB : Below base w w := Below.refl _ _
  obtain ⟨i0, ji, jz0, jz1, jz2⟩ := info_parts infoRow
  go_enter Tryz.func40, Tryz.ntmps40
  go_wp2_with (first
    | (at_mapUpdate; first
      | (refine wpList_rowPut rfl _ _ _ rfl rfl H ((Below.refl _ _).alloc (Nat.le_refl _) _) (by omega) 110 (by decide) (by decide) rfl _ rfl [[117, 112]] ?own hB ?_; (case own => exact rows_new _ _ [[117, 112]] 1 rfl rfl (by decide) (by decide)); clear H hB; intro w1 H hB)
      | (refine wpList_rowPut rfl _ _ _ rfl rfl H ((Below.refl _ _).alloc (Nat.le_refl _) _) (by omega) 111 (by decide) (by decide) rfl _ rfl [[117, 112], []] ?own hB ?_; (case own => exact rows_new _ _ [[117, 112], []] 2 rfl rfl (by decide) (by decide)); clear H hB; intro w1 H hB)
      | (refine wpList_rowPut rfl _ _ _ rfl rfl H ((Below.refl _ _).alloc (Nat.le_refl _) _) (by omega) 112 (by decide) (by decide) rfl _ rfl [[46, 117, 112], []] ?own hB ?_; (case own => exact rows_new _ _ [[46, 117, 112], []] 2 rfl rfl (by decide) (by decide)); clear H hB; intro w1 H hB)
      | (refine wpList_rowPut rfl _ _ _ rfl rfl H ((Below.refl _ _).alloc (Nat.le_refl _) _) (by omega) 113 (by decide) (by decide) rfl _ rfl [[40, 114, 41, 108]] ?own hB ?_; (case own => exact rows_new _ _ [[40, 114, 41, 108]] 1 rfl rfl (by decide) (by decide)); clear H hB; intro w1 H hB)
      | (refine wpList_rowPut rfl _ _ _ rfl rfl H ((Below.refl _ _).alloc (Nat.le_refl _) _) (by omega) 114 (by decide) (by decide) rfl _ rfl [[115], []] ?own hB ?_; (case own => exact rows_new _ _ [[115], []] 2 rfl rfl (by decide) (by decide)); clear H hB; intro w1 H hB)
      | (refine wpList_rowPut rfl _ _ _ rfl rfl H ((Below.refl _ _).alloc (Nat.le_refl _) _) (by omega) 115 (by decide) (by decide) rfl _ rfl [[49], [1, 116]] ?own hB ?_; (case own => exact rows_new _ _ [[49], [1, 116]] 2 rfl rfl (by decide) (by decide)); clear H hB; intro w1 H hB)
      | (refine wpList_rowPut rfl _ _ _ rfl rfl H ((Below.refl _ _).alloc (Nat.le_refl _) _) (by omega) 116 (by decide) (by decide) rfl _ rfl [[46, 115], []] ?own hB ?_; (case own => exact rows_new _ _ [[46, 115], []] 2 rfl rfl (by decide) (by decide)); clear H hB; intro w1 H hB)
      | (refine wpList_rowPut rfl _ _ _ rfl rfl H ((Below.refl _ _).alloc (Nat.le_refl _) _) (by omega) 117 (by decide) (by decide) rfl _ rfl [[118, 119]] ?own hB ?_; (case own => exact rows_new _ _ [[118, 119]] 1 rfl rfl (by decide) (by decide)); clear H hB; intro w1 H hB)
      | (refine wpList_rowPut rfl _ _ _ rfl rfl H ((Below.refl _ _).alloc (Nat.le_refl _) _) (by omega) 118 (by decide) (by decide) rfl _ rfl [[25, 118], [62, 118], [50, 118], [69, 118], [1, 120], [40, 117, 41, 120], [2], [3], [4], [24], [29], [17], [49], [18, 113], [121]] ?own hB ?_; (case own => exact rows_new _ _ [[25, 118], [62, 118], [50, 118], [69, 118], [1, 120], [40, 117, 41, 120], [2], [3], [4], [24], [29], [17], [49], [18, 113], [121]] 15 rfl rfl (by decide) (by decide)); clear H hB; intro w1 H hB)
      | (refine wpList_rowPut rfl _ _ _ rfl rfl H ((Below.refl _ _).alloc (Nat.le_refl _) _) (by omega) 119 (by decide) (by decide) rfl _ rfl [[]] ?own hB ?_; (case own => exact rows_new _ _ [[]] 1 rfl rfl (by decide) (by decide)); clear H hB; intro w1 H hB))
    | (refine wpList_load_row rfl 105 _ rfl 1 rfl tt _ fr _ ((hB.block _ hGb).trans hG) Tryz.underlying105 rfl (by kernel_rfl) ?_))
  go_loopw [54] (fun i wr => ∃ k : Nat, k ≤ 20 ∧ i = .int .i64 k ∧ RM wr base mb (n + 10 + k) ((119, [] :: infR k) :: (118, [[25, 118], [62, 118], [50, 118], [69, 118], [1, 120], [40, 117, 41, 120], [2], [3], [4], [24], [29], [17], [49], [18, 113], [121]]) :: (117, [[118, 119]]) :: (116, [[46, 115], []]) :: (115, [[49], [1, 116]]) :: (114, [[115], []]) :: (113, [[40, 114, 41, 108]]) :: (112, [[46, 117, 112], []]) :: (111, [[117, 112], []]) :: (110, [[117, 112]]) :: R) ∧ Below base w wr) (fun i _ => 20 - (intOf i).toNat)
  case atStart => exact ⟨0, by omega, rfl, H, hB⟩
  case round =>
    clear H hB
    obtain ⟨k, hk, rfl, H, hB⟩ := hrel
    by_cases hlt : k < 20
    · have hix := fun w => pidx k hlt w
      obtain ⟨hp0, hp1⟩ := powK_in ⟨k, hlt⟩
      simp only at hp0 hp1
      have hsu := infR_succ k hlt
      have hle := infR_len k hk
      generalize powK.getD k 0 = pk at hix hp0 hp1 hsu
      generalize powI (3 * k + 1) = p1 at hix
      generalize powI (3 * k + 2) = p2 at hix
      have hcv : IntKind.u8.wrap pk = pk := by rw [IntKind.wrap_u8]; omega
      obtain ⟨D, f, h1, h2, h3⟩ := H.ex
      have lo := H.lo
      have hr := h2 119 (by decide) (by decide)
      rw [look_same] at hr
      have hki : (k : Int) < 20 := by omega
      have hmlt := h1.lt
      have hbs : base ≤ wr.heap.size := by omega
      have HR : Hid (RowIn (wr.alloc (.cells #[.int .i64 pk, .int .i64 p1, .int .i64 p2] 104)) base (f 119) ([] :: infR k) ∧ infR (k + 1) = infR k ++ [[pk, 118, 119]] ∧ (infR k).length = k) := ⟨hr.2.keep ((Below.refl _ _).alloc (Nat.le_refl _) _), hsu, hle⟩
      clear hsu hle
      go_wp2_with (first
        | (at_lookup; refine wpList_rowGet rfl _ _ rfl rfl h1 ?blk 119 (by decide) (by decide) rfl hr.1 ?_)
        | (at_builtin; go_loud (refine wpList_rowsAppAt rfl _ _ rfl rfl HR.out.1 (by simp; omega) _ 1 (wr.heap.size + 1) rfl (by simp) [[pk, 118, 119]] rfl rfl (by simp) (by rw [List.length_cons, HR.out.2.2]; omega) ?_; intro v5 w5 ho5 hg5 hat5))
        | (at_mapUpdate; go_loud (refine wpList_rowGrow rfl _ _ _ rfl rfl h1 h2 h3 lo 119 (((Below.refl _ _).alloc (Nat.le_refl _) _).alloc (by simp) _) hg5 (by omega) (by decide) (by decide) rfl _ rfl _ ho5 hat5 hB ?_; clear H hB h1 h2 h3 hr; intro w6 H hB)))
      case blk => exact Below.heap_alloc _ _ _ hmlt
      go_roundw
      case rel =>
        refine ⟨k + 1, by omega, by go_num, ?_, hB⟩
        refine RM.congr (n := n + 10 + (k + 1)) H (fun a a0 a1 => ?_)
        by_cases e : a = 119
        · subst e; rw [look_same, look_same, HR.out.2.1]; rfl
        · rw [look_other (fun h => e h.symm), look_other (fun h => e h.symm), look_other (fun h => e h.symm)]
      case measure => simp [intOf]; omega
    · obtain rfl : k = 20 := by omega
      go_wp2_with (at_mapUpdate; first
        | (refine wpList_rowPut rfl _ _ _ rfl rfl H ((Below.refl _ _).alloc (Nat.le_refl _) _) (by omega) 121 (by decide) (by decide) rfl _ rfl [[42, 122, 43]] ?own hB ?_; (case own => exact rows_new _ _ [[42, 122, 43]] 1 rfl rfl (by decide) (by decide)); clear H hB; intro w1 H hB)
        | (refine wpList_rowPut rfl _ _ _ rfl rfl H ((Below.refl _ _).alloc (Nat.le_refl _) _) (by omega) 122 (by decide) (by decide) rfl _ rfl [[124, 123], []] ?own hB ?_; (case own => exact rows_new _ _ [[124, 123], []] 2 rfl rfl (by decide) (by decide)); clear H hB; intro w1 H hB)
        | (refine wpList_rowPut rfl _ _ _ rfl rfl H ((Below.refl _ _).alloc (Nat.le_refl _) _) (by omega) 123 (by decide) (by decide) rfl _ rfl [[46, 122], []] ?own hB ?_; (case own => exact rows_new _ _ [[46, 122], []] 2 rfl rfl (by decide) (by decide)); clear H hB; intro w1 H hB)
        | (refine wpList_rowPut rfl _ _ _ rfl rfl H ((Below.refl _ _).alloc (Nat.le_refl _) _) (by omega) 124 (by decide) (by decide) rfl _ rfl [[117], [44, 117, 45, 47, 117], [48, 1, 47, 117]] ?own hB ?_; (case own => exact rows_new _ _ [[117], [44, 117, 45, 47, 117], [48, 1, 47, 117]] 3 rfl rfl (by decide) (by decide)); clear H hB; intro w1 H hB))
      go_end0
      exact ⟨rfl, H.mono (by omega), hB⟩
set_option maxRecDepth 100000 in
set_option maxHeartbeats 1600000 in
theorem all_rows : ((List.range 256).all fun a => decide (look ((124, [[117], [44, 117, 45, 47, 117], [48, 1, 47, 117]]) :: (123, [[46, 122], []]) :: (122, [[124, 123], []]) :: (121, [[42, 122, 43]]) :: (119, [] :: infR 20) :: (118, [[25, 118], [62, 118], [50, 118], [69, 118], [1, 120], [40, 117, 41, 120], [2], [3], [4], [24], [29], [17], [49], [18, 113], [121]]) :: (117, [[118, 119]]) :: (116, [[46, 115], []]) :: (115, [[49], [1, 116]]) :: (114, [[115], []]) :: (113, [[40, 114, 41, 108]]) :: (112, [[46, 117, 112], []]) :: (111, [[117, 112], []]) :: (110, [[117, 112]]) :: (120, sufI 120 120 ++ [[]]) :: (133, sufI 132 133 ++ [[]]) :: (132, sufI 132 133) :: (131, [[1, 132], [40, 117, 41, 132]]) :: (130, sufI 129 130) :: (129, sufI 129 130 ++ [[46, 128], [47, 110]]) :: (128, [[1, 129], [40, 117, 41, 130]]) :: (127, sufI 125 126) :: (126, sufI 125 126 ++ [[]]) :: (125, sufI 125 126 ++ [[46, 128], [47, 110]]) :: (109, [[46, 1, 109], []]) :: (108, [[42, 100, 43]]) :: (107, [[15, 117, 108, 107], [16, 108], []]) :: (106, [[46, 1], []]) :: (105, [[46, 117], []]) :: (104, [[47, 117, 46, 117, 105, 108], [21, 117, 108], [46, 1, 109, 21, 117, 108]]) :: (103, [[47, 110], []]) :: (102, [[22, 1, 109, 103], [13, 1, 47, 117], [18, 1, 113], [20, 117, 108, 107], [31, 117, 108], [19, 1, 104], [11], [23], [27, 111], [30, 108, 12, 1, 106, 108], [28, 117], [14, 131], [108], [1, 125], [40, 117, 41, 127]]) :: (101, [[5, 100], []]) :: (100, [[5, 100], [102, 101], []]) :: []) (a : Int) = rowsI (a : Int))) = true := by decide +kernel
end Go.Proofs.YtdlhfiheingibaaGreatDoor

namespace Go.Proofs.YtdlhfiheingibaaGreatDoor
open Go.ChangeShapes Go.WideShapes Go.ChangeAt Go.WideMaps Go.WideElems Go.RowKit
set_option linter.unusedVariables false

def powD {H : Type} (x : Int × Int × Int) : DataW H := .agg [.lit (.int .i64 x.1), .lit (.int .i64 x.2.1), .lit (.int .i64 x.2.2)]
def powC (x : Int × Int × Int) : List Value := [.int .i64 x.1, .int .i64 x.2.1, .int .i64 x.2.2]
theorem list3 (l : List Value) (h : l.length = 3) : ∃ a b c, l = [a, b, c] := by
  match l, h with
  | [a, b, c], _ => exact ⟨a, b, c, rfl⟩
theorem one_of {l : List Value} {k : IntKind} {z : Int} (h : l = [.int k z]) : l.length = 1 := by rw [h]; rfl
theorem pow_row {H : Type} {enc : TypeId × Value → H} {W : World} {base : Nat} {sp : Nat → Bool} {held : Bool} {fuel : Nat} {l : List Value} {x : Int × Int × Int} {p : List MemPlace} (h : DataW.trod enc Tryz.prog W base sp held fuel 104 l = some (powD x, p)) : l = powC x := by
  have cI : Tryz.prog.cellsOf 3 = 1 := by kernel_rfl
  have cP : Tryz.prog.cellsOf 104 = 3 := by kernel_rfl
  obtain ⟨y0, y1, y2, n, e, hl, g0, g1, g2⟩ := Go.Deep.trod_struct3 Tryz.underlying104 h
  rw [cP] at hl
  obtain ⟨a, b, c, rfl⟩ := list3 l hl
  simp [cI] at g0 g1 g2
  obtain ⟨z0, q0, r0, _⟩ := DataW.trod_int Tryz.underlying3 g0
  obtain ⟨z1, q1, r1, _⟩ := DataW.trod_int Tryz.underlying3 g1
  obtain ⟨z2, q2, r2, _⟩ := DataW.trod_int Tryz.underlying3 g2
  simp at q0 q1 q2
  subst q0 q1 q2
  unfold powD at e
  rw [r0, r1, r2] at e
  simp at e
  unfold powC
  rw [e.1.1, e.1.2.1, e.1.2.2]
theorem three_ext : ∀ (ls : List (Int × Int × Int)) (cs : List Value), cs.length = 3 * ls.length → (∀ i x, ls[i]? = some x → (cs.drop (i * 3)).take 3 = powC x) → cs = ls.flatMap powC
  | [], cs, hl, _ => by simpa using hl
  | x :: ls, cs, hl, h => by
    have h0 := h 0 x rfl
    simp only [Nat.zero_mul, List.drop_zero] at h0
    have ih := three_ext ls (cs.drop 3) (by rw [List.length_drop, hl]; simp; omega) (fun i y hy => by
      have := h (i + 1) y (by simpa using hy)
      rw [List.drop_drop]
      rw [show (i + 1) * 3 = 3 + i * 3 by omega] at this
      exact this)
    rw [List.flatMap_cons, ← ih, ← h0]
    exact (List.take_append_drop 3 cs).symm
def powT : List (Int × Int × Int) := [(26, 1, 2), (10, 2, 3), (73, 3, 4), (74, 3, 4), (75, 3, 4), (76, 3, 4), (77, 3, 4), (78, 3, 4), (72, 4, 4), (68, 5, 6), (69, 6, 7), (67, 7, 8), (70, 8, 9), (71, 8, 9), (61, 9, 10), (62, 9, 10), (63, 10, 11), (64, 10, 11), (65, 10, 11), (66, 10, 11)]
theorem gPws : Tryz.prog.globalNamed "loop.example/warp/impl.powers" = some 1 := by kernel_rfl
theorem pows_of {W : World} (h : laidMetH Tryz.prog [("loop.example/warp/impl.powers", Rows.laid_loop_example_warp_impl_powers)] W) : ∃ tt fr, W.heap[1]? = some (.cells powV tt fr) := by
  rw [MakeChecks.laidMetH_plain _ _ _ (by kernel_rfl)] at h
  obtain ⟨ps, ⟨g0, t0, cs0, f0, p0, q0, hg0, ht0, hv0, hd0, _, _⟩, _, _⟩ := h
  obtain rfl := Option.some.inj (gPws.symm.trans hg0)
  obtain rfl := Option.some.inj ((show (Tryz.prog.globals[1]?).map (·.type) = some 105 by kernel_rfl).symm.trans ht0)
  have cP : Tryz.prog.cellsOf 104 = 3 := by kernel_rfl
  have cT : Tryz.prog.cellsOf 105 = 60 := by kernel_rfl
  have hd1 : DataW.trod _ Tryz.prog W _ _ _ f0 105 cs0.toList = some (.agg (powT.map powD), _) := hd0
  obtain ⟨xs, m, _, hx, hlen, hxl, hel⟩ := DataW.trod_array Tryz.underlying105 hd1
  simp only [Prod.mk.injEq, DataW.agg.injEq] at hx
  have e : cs0.toList = powT.flatMap powC := by
    refine three_ext powT _ (by rw [hlen, cT]; rfl) (fun i x hi => ?_)
    have hi20 : i < 20 := by have := (List.getElem?_eq_some_iff.1 hi).1; simpa [powT] using this
    have hd := hel i hi20
    rw [cP, List.getElem?_eq_getElem (by omega)] at hd
    have hxi : (xs.map (·.1))[i]? = (powT.map powD)[i]? := by rw [hx.1]
    rw [List.getElem?_map, List.getElem?_map, List.getElem?_eq_getElem (by omega), hi] at hxi
    simp only [Option.map_some, Option.some.injEq] at hxi
    exact pow_row (x := x) (p := xs[i].2) (by rw [hd, ← hxi])
  have e2 : cs0 = powV := by
    apply Array.toList_inj.1
    rw [e]; rfl
  simp only [World.var?, hg0, Option.bind_some] at hv0
  split at hv0
  · rename_i cs tt fr hh
    cases hv0
    exact ⟨tt, fr, by rw [← e2]; exact hh⟩
  · cases hv0
end Go.Proofs.YtdlhfiheingibaaGreatDoor

namespace Go.Proofs.YtdlhfiheingibaaGreatDoor
open Go.RowKit Go.Maps Go.WideMaps
set_option linter.unusedVariables false

theorem RM.size {W : World} {base mb n : Nat} {R : List (Int × List (List Int))} (h : RM W base mb n R) : base < W.heap.size := by
  obtain ⟨D, f, h1, _⟩ := h.ex
  have := h1.lt
  have := h.lo
  omega
set_option maxRecDepth 100000 in
set_option maxHeartbeats 6400000 in
theorem addStat_any (w : World) (base mb n : Nat) (R : List (Int × List (List Int))) (H : RM w base mb n R) (hn : n ≤ 100) :
    Calls Tryz.prog 38 #[.map (some mb)] w fun e w' => e = .returned (.tuple #[]) ∧ RM w' base mb (n + 10) ((109, [[46, 1, 109], []]) :: (108, [[42, 100, 43]]) :: (107, [[15, 117, 108, 107], [16, 108], []]) :: (106, [[46, 1], []]) :: (105, [[46, 117], []]) :: (104, [[47, 117, 46, 117, 105, 108], [21, 117, 108], [46, 1, 109, 21, 117, 108]]) :: (103, [[47, 110], []]) :: (102, [[22, 1, 109, 103], [13, 1, 47, 117], [18, 1, 113], [20, 117, 108, 107], [31, 117, 108], [19, 1, 104], [11], [23], [27, 111], [30, 108, 12, 1, 106, 108], [28, 117], [14, 131], [108], [1, 125], [40, 117, 41, 127]]) :: (101, [[5, 100], []]) :: (100, [[5, 100], [102, 101], []]) :: R) ∧ Below base w w' := by
  have hB : Below base w w := Below.refl _ _
  go_enter Tryz.func38, Tryz.ntmps38
  go_wp2_with (at_mapUpdate; first
    | (refine wpList_rowPut rfl _ _ _ rfl rfl H ((Below.refl _ _).alloc (Nat.le_refl _) _) (by omega) 100 (by decide) (by decide) rfl _ rfl [[5, 100], [102, 101], []] ?own hB ?_; (case own => exact rows_new _ _ [[5, 100], [102, 101], []] 3 rfl rfl (by decide) (by decide)); clear H hB; intro w1 H hB)
    | (refine wpList_rowPut rfl _ _ _ rfl rfl H ((Below.refl _ _).alloc (Nat.le_refl _) _) (by omega) 101 (by decide) (by decide) rfl _ rfl [[5, 100], []] ?own hB ?_; (case own => exact rows_new _ _ [[5, 100], []] 2 rfl rfl (by decide) (by decide)); clear H hB; intro w1 H hB)
    | (refine wpList_rowPut rfl _ _ _ rfl rfl H ((Below.refl _ _).alloc (Nat.le_refl _) _) (by omega) 102 (by decide) (by decide) rfl _ rfl [[22, 1, 109, 103], [13, 1, 47, 117], [18, 1, 113], [20, 117, 108, 107], [31, 117, 108], [19, 1, 104], [11], [23], [27, 111], [30, 108, 12, 1, 106, 108], [28, 117], [14, 131], [108], [1, 125], [40, 117, 41, 127]] ?own hB ?_; (case own => exact rows_new _ _ [[22, 1, 109, 103], [13, 1, 47, 117], [18, 1, 113], [20, 117, 108, 107], [31, 117, 108], [19, 1, 104], [11], [23], [27, 111], [30, 108, 12, 1, 106, 108], [28, 117], [14, 131], [108], [1, 125], [40, 117, 41, 127]] 15 rfl rfl (by decide) (by decide)); clear H hB; intro w1 H hB)
    | (refine wpList_rowPut rfl _ _ _ rfl rfl H ((Below.refl _ _).alloc (Nat.le_refl _) _) (by omega) 103 (by decide) (by decide) rfl _ rfl [[47, 110], []] ?own hB ?_; (case own => exact rows_new _ _ [[47, 110], []] 2 rfl rfl (by decide) (by decide)); clear H hB; intro w1 H hB)
    | (refine wpList_rowPut rfl _ _ _ rfl rfl H ((Below.refl _ _).alloc (Nat.le_refl _) _) (by omega) 104 (by decide) (by decide) rfl _ rfl [[47, 117, 46, 117, 105, 108], [21, 117, 108], [46, 1, 109, 21, 117, 108]] ?own hB ?_; (case own => exact rows_new _ _ [[47, 117, 46, 117, 105, 108], [21, 117, 108], [46, 1, 109, 21, 117, 108]] 3 rfl rfl (by decide) (by decide)); clear H hB; intro w1 H hB)
    | (refine wpList_rowPut rfl _ _ _ rfl rfl H ((Below.refl _ _).alloc (Nat.le_refl _) _) (by omega) 105 (by decide) (by decide) rfl _ rfl [[46, 117], []] ?own hB ?_; (case own => exact rows_new _ _ [[46, 117], []] 2 rfl rfl (by decide) (by decide)); clear H hB; intro w1 H hB)
    | (refine wpList_rowPut rfl _ _ _ rfl rfl H ((Below.refl _ _).alloc (Nat.le_refl _) _) (by omega) 106 (by decide) (by decide) rfl _ rfl [[46, 1], []] ?own hB ?_; (case own => exact rows_new _ _ [[46, 1], []] 2 rfl rfl (by decide) (by decide)); clear H hB; intro w1 H hB)
    | (refine wpList_rowPut rfl _ _ _ rfl rfl H ((Below.refl _ _).alloc (Nat.le_refl _) _) (by omega) 107 (by decide) (by decide) rfl _ rfl [[15, 117, 108, 107], [16, 108], []] ?own hB ?_; (case own => exact rows_new _ _ [[15, 117, 108, 107], [16, 108], []] 3 rfl rfl (by decide) (by decide)); clear H hB; intro w1 H hB)
    | (refine wpList_rowPut rfl _ _ _ rfl rfl H ((Below.refl _ _).alloc (Nat.le_refl _) _) (by omega) 108 (by decide) (by decide) rfl _ rfl [[42, 100, 43]] ?own hB ?_; (case own => exact rows_new _ _ [[42, 100, 43]] 1 rfl rfl (by decide) (by decide)); clear H hB; intro w1 H hB)
    | (refine wpList_rowPut rfl _ _ _ rfl rfl H ((Below.refl _ _).alloc (Nat.le_refl _) _) (by omega) 109 (by decide) (by decide) rfl _ rfl [[46, 1, 109], []] ?own hB ?_; (case own => exact rows_new _ _ [[46, 1, 109], []] 2 rfl rfl (by decide) (by decide)); clear H hB; intro w1 H hB))
  go_end0
  exact ⟨rfl, H, hB⟩
end Go.Proofs.YtdlhfiheingibaaGreatDoor

namespace Go.Proofs.YtdlhfiheingibaaGreatDoor
open Go.RowKit
set_option linter.unusedVariables false

/-- What stands behind a function that answers a row and whether there is one. -/
def RowPost (w : World) (r : List Int × Bool) (e : Ending) (w' : World) : Prop :=
  ∃ a c, e = .returned (.tuple #[.slice a r.1.length c, .bool r.2]) ∧ w'.ownsRow w.heap.size 3 1 (.slice a r.1.length c) r.1.length (r.1.map (Value.int .i64)) ∧ Below w.heap.size w w'
theorem own_lits (w : World) (l : List Int) (n : Nat) (hn : l.length = n) (hm : n ≤ 100) : (w.alloc (.cells (l.map (Value.int .i64)).toArray 3)).ownsRow w.heap.size 3 1 (.slice (some ⟨w.heap.size, 0, none⟩) n n) n (l.map (Value.int .i64)) := by
  have := World.ownsRow_lit (base := w.heap.size) (e := 3) (size := 1) w (l.map (Value.int .i64)).toArray n (Nat.le_refl _) (by unfold maxLen; omega) (by simp [hn])
  simpa using this
theorem bel1 (w : World) (o : Obj) : Below w.heap.size w (w.alloc o) := (Below.refl _ w).alloc (Nat.le_refl _) o
theorem row_lits (w : World) (l : List Int) (b : Bool) (hm : l.length ≤ 100) : RowPost w (l, b) (.returned (.tuple #[.slice (some ⟨w.heap.size, 0, none⟩) l.length l.length, .bool b])) (w.alloc (.cells (l.map (Value.int .i64)).toArray 3)) :=
  ⟨_, _, rfl, own_lits w l _ rfl hm, bel1 w _⟩
theorem row_nil (w : World) (b : Bool) : RowPost w ([], b) (.returned (.tuple #[.slice none 0 0, .bool b])) w := ⟨_, _, rfl, World.ownsRow_nil _ _ _ _, Below.refl _ w⟩
theorem l3row_any (v : Value) (w : World) : Calls Tryz.prog 53 #[v] w fun e w' => e = .returned v ∧ w' = w := by
  go_enter Tryz.func53, Tryz.ntmps53
  go_wp2
  go_ret
  exact ⟨rfl, rfl⟩
set_option maxRecDepth 100000 in
theorem l3prefix_any (w : World) (t : Int) : Calls Tryz.prog 72 #[.int .i64 t] w fun e w' => e = .returned (.bool (xPrefix t)) ∧ w' = w := by
  by_cases h : t = 25 ∨ t = 50 ∨ t = 62 ∨ t = 69
  · have e : xPrefix t = true := decide_eq_true h
    rw [e]
    rcases h with rfl | rfl | rfl | rfl
    all_goals
      go_enter Tryz.func72, Tryz.ntmps72
      go_wp2
      go_ret
      exact ⟨rfl, rfl⟩
  · have e : xPrefix t = false := decide_eq_false h
    rw [e]
    have h1 : ¬ t = 25 := by omega
    have h2 : ¬ t = 50 := by omega
    have h3 : ¬ t = 62 := by omega
    have h4 : ¬ t = 69 := by omega
    have b1 : (t == 25) = false := beq_eq_false_iff_ne.2 h1
    have b2 : (t == 50) = false := beq_eq_false_iff_ne.2 h2
    have b3 : (t == 62) = false := beq_eq_false_iff_ne.2 h3
    have b4 : (t == 69) = false := beq_eq_false_iff_ne.2 h4
    clear h e
    go_enter Tryz.func72, Tryz.ntmps72
    go_wp2
    go_ret
    exact ⟨rfl, rfl⟩
set_option maxRecDepth 100000 in
theorem l3infix_any (w : World) (t : Int) : Calls Tryz.prog 75 #[.int .i64 t] w fun e w' => e = .returned (.bool (xInfix t)) ∧ w' = w := by
  by_cases h : t = 10 ∨ t = 26
  · have e : xInfix t = true := decide_eq_true (by omega)
    rw [e]
    rcases h with rfl | rfl
    all_goals
      go_enter Tryz.func75, Tryz.ntmps75
      go_wp2
      go_ret
      exact ⟨rfl, rfl⟩
  · have h1 : ¬ t = 10 := by omega
    have h2 : ¬ t = 26 := by omega
    have b1 : (t == 10) = false := beq_eq_false_iff_ne.2 h1
    have b2 : (t == 26) = false := beq_eq_false_iff_ne.2 h2
    by_cases h3 : 60 < t
    · have e : xInfix t = true := decide_eq_true (by omega)
      rw [e]
      clear h e
      go_enter Tryz.func75, Tryz.ntmps75
      go_wp2
      go_ret
      exact ⟨rfl, rfl⟩
    · have e : xInfix t = false := decide_eq_false (by omega)
      rw [e]
      clear h e
      go_enter Tryz.func75, Tryz.ntmps75
      go_wp2
      go_ret
      exact ⟨rfl, rfl⟩
set_option maxRecDepth 100000 in
set_option maxHeartbeats 1600000 in
theorem l3begins_any (w : World) (t : Int) : Calls Tryz.prog 55 #[.int .i64 t] w fun e w' => e = .returned (.bool (xBegins t)) ∧ w' = w := by
  by_cases h : t = 1 ∨ t = 2 ∨ t = 3 ∨ t = 4 ∨ t = 24 ∨ t = 29 ∨ t = 17 ∨ t = 49 ∨ t = 18 ∨ t = 40 ∨ t = 42
  · have e : xBegins t = true := by unfold xBegins; rw [decide_eq_true h]; rfl
    rw [e]
    rcases h with rfl | rfl | rfl | rfl | rfl | rfl | rfl | rfl | rfl | rfl | rfl
    all_goals
      go_enter Tryz.func55, Tryz.ntmps55
      go_wp2
      go_ret
      exact ⟨rfl, rfl⟩
  · have e : xBegins t = xPrefix t := by unfold xBegins; rw [decide_eq_false h]; rfl
    rw [e]
    have h1 : ¬ t = 1 := by omega
    have h2 : ¬ t = 2 := by omega
    have h3 : ¬ t = 3 := by omega
    have h4 : ¬ t = 4 := by omega
    have h24 : ¬ t = 24 := by omega
    have h29 : ¬ t = 29 := by omega
    have h17 : ¬ t = 17 := by omega
    have h49 : ¬ t = 49 := by omega
    have h18 : ¬ t = 18 := by omega
    have h40 : ¬ t = 40 := by omega
    have h42 : ¬ t = 42 := by omega
    have kp := fun w => l3prefix_any w t
    clear h e
    generalize xPrefix t = b at kp ⊢
    go_enter Tryz.func55, Tryz.ntmps55
    go_wp2_with (go_at_call 72; refine (kp _).mono ?_; rintro e w' ⟨rfl, hw⟩; subst w')
    go_ret
    exact ⟨rfl, rfl⟩
end Go.Proofs.YtdlhfiheingibaaGreatDoor
