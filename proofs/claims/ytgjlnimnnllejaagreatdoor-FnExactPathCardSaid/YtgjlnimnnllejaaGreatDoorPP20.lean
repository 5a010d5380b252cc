import Derived.Test.YtgjlnimnnllejaaGreatDoorPP19
import Derived.Shelf.Strings.Builder1
import Derived.Shelf.Strings.Builder2
import Derived.Shelf.Small.Wraps
import Derived.Shelf.Strings.BuilderF
import Derived.Shelf.Strconv.Itoa0
import Derived.Shelf.Strconv.Itoa1
import Derived.Shelf.LaysM
import Derived.Shelf.Strconv.Itoa2
import Derived.Shelf.Strconv.Itoa3
import Derived.Shelf.Strconv.ParseIntEmpty
import Derived.Shelf.Strconv.Clone
import Derived.Shelf.Strconv.SyntaxError
import Derived.Shelf.LaysC
import Derived.Shelf.Strconv.ToError
import Derived.Shelf.Strconv.Lower
import Derived.Shelf.Strconv.ParseUint10
import Derived.Shelf.Strconv.ParseUint10Empty
import Derived.Shelf.Strconv.ParseUint10Any
import Derived.Shelf.Strconv.ParseInt10
import Derived.Shelf.Strconv.RangeError
import Derived.Shelf.Strconv.ToErrorRange
import Derived.Shelf.Strconv.ParseUintEmpty
import Derived.Shelf.Strconv.ParseUint10b64
import Derived.Shelf.Strconv.ParseUint10b32
import Derived.Shelf.Strconv.ParseUint10b16
import Derived.Shelf.Strconv.ParseUint10b8
import Derived.Shelf.Strconv.ParseUint10At
import Derived.Shelf.Strconv.ParseInt10At64
import Derived.Shelf.Strconv.ParseInt10At32
import Derived.Shelf.Strconv.ParseInt10At16
import Derived.Shelf.Strconv.ParseInt10At8
import Derived.Shelf.Strconv.ParseInt10All
import Derived.Shelf.Strconv.ParseIntPublic10
import Derived.Shelf.Strconv.ErrVarParseInt
import Derived.Ground.MpProg
import Derived.Shelf.Pu.ParseUintPublic10
import Derived.Shelf.Pu.ErrVarParseUint
import Derived.Shelf.Strings.Prefix
import Derived.Shelf.Strings.Fields
import Derived.Shelf.Unicode.Latin
import Derived.Shelf.Bits.Mul64
import Derived.Shelf.Strings.Repeat
import Derived.Shelf.Unicode.Is16White
import Derived.Shelf.Unicode.Is16Any
import Derived.Shelf.Slices.Equal
import Derived.Shelf.Slices.Empties2
import Derived.Test.YtgjlnimnnllejaaGreatDoorProg
import Derived.Test.YtgjlnimnnllejaaGreatDoorPP03
import Derived.Test.YtgjlnimnnllejaaGreatDoorPP18
import Derived.Test.YtgjlnimnnllejaaGreatDoorPP07
import Derived.Test.YtgjlnimnnllejaaGreatDoorPP16
import Derived.Deep.AppendLies
import Derived.Maps.AppendAt
namespace Go.Proofs.YtgjlnimnnllejaaGreatDoor
open Go.RowKit
set_option linter.unusedVariables false

/-- The row of kids of a Kind: its text, its words. -/
def rowB : Int → ByteArray
  | 1 => { data := #[115, 116, 97, 116, 42] }
  | 2 => { data := #[101, 120, 112, 114, 42] }
  | 3 => { data := #[101, 120, 112, 114] }
  | 4 => { data := #[102, 110] }
  | 6 => { data := #[99, 97, 108, 108] }
  | 7 => { data := #[101, 120, 112, 114, 32, 98, 108, 111, 99, 107, 32, 101, 108, 115, 101, 63] }
  | 8 => { data := #[101, 120, 112, 114, 32, 98, 108, 111, 99, 107] }
  | 9 => { data := #[101, 120, 112, 114, 32, 101, 120, 112, 114, 32, 101, 120, 112, 114, 63, 32, 98, 108, 111, 99, 107] }
  | 10 => { data := #[101, 120, 112, 114, 32, 98, 108, 111, 99, 107] }
  | 11 => { data := #[] }
  | 12 => { data := #[] }
  | 13 => { data := #[101, 120, 112, 114, 42] }
  | 14 => { data := #[98, 108, 111, 99, 107, 32, 98, 108, 111, 99, 107] }
  | 15 => { data := #[101, 120, 112, 114] }
  | 16 => { data := #[99, 97, 108, 108] }
  | 20 => { data := #[] }
  | 21 => { data := #[] }
  | 22 => { data := #[] }
  | 23 => { data := #[] }
  | 24 => { data := #[] }
  | 25 => { data := #[] }
  | 26 => { data := #[] }
  | 27 => { data := #[] }
  | 28 => { data := #[101, 120, 112, 114, 32, 101, 120, 112, 114] }
  | 29 => { data := #[101, 120, 112, 114, 32, 101, 120, 112, 114] }
  | 30 => { data := #[101, 120, 112, 114] }
  | 31 => { data := #[101, 120, 112, 114, 32, 101, 120, 112, 114] }
  | 32 => { data := #[98, 97, 115, 101, 32, 101, 120, 112, 114] }
  | 33 => { data := #[98, 97, 115, 101] }
  | 34 => { data := #[98, 97, 115, 101, 32, 101, 120, 112, 114, 42] }
  | 35 => { data := #[101, 110, 116, 114, 121, 42] }
  | 36 => { data := #[98, 108, 111, 99, 107] }
  | 37 => { data := #[109, 97, 110, 121] }
  | 40 => { data := #[101, 120, 112, 114] }
  | 41 => { data := #[101, 120, 112, 114, 32, 101, 120, 112, 114] }
  | 42 => { data := #[101, 120, 112, 114] }
  | _ => { data := #[] }
def rowW : Int → Option (List (Nat × Nat))
  | 1 => some [(0, 1)]
  | 2 => some [(3, 1)]
  | 3 => some [(3, 0)]
  | 4 => some [(8, 0)]
  | 6 => some [(6, 0)]
  | 7 => some [(3, 0), (1, 0), (2, 2)]
  | 8 => some [(3, 0), (1, 0)]
  | 9 => some [(3, 0), (3, 0), (3, 2), (1, 0)]
  | 10 => some [(3, 0), (1, 0)]
  | 11 => some []
  | 12 => some []
  | 13 => some [(3, 1)]
  | 14 => some [(1, 0), (1, 0)]
  | 15 => some [(3, 0)]
  | 16 => some [(6, 0)]
  | 20 => some []
  | 21 => some []
  | 22 => some []
  | 23 => some []
  | 24 => some []
  | 25 => some []
  | 26 => some []
  | 27 => some []
  | 28 => some [(3, 0), (3, 0)]
  | 29 => some [(3, 0), (3, 0)]
  | 30 => some [(3, 0)]
  | 31 => some [(3, 0), (3, 0)]
  | 32 => some [(4, 0), (3, 0)]
  | 33 => some [(4, 0)]
  | 34 => some [(4, 0), (3, 1)]
  | 35 => some [(9, 1)]
  | 36 => some [(1, 0)]
  | 37 => some [(7, 0)]
  | 40 => some [(3, 0)]
  | 41 => some [(3, 0), (3, 0)]
  | 42 => some [(3, 0)]
  | _ => none
def knownL : List Int := [1, 2, 3, 4, 6, 7, 8, 9, 10, 11, 12, 13, 14, 15, 16, 20, 21, 22, 23, 24, 25, 26, 27, 28, 29, 30, 31, 32, 33, 34, 35, 36, 37, 40, 41, 42]
set_option maxHeartbeats 3200000 in
theorem rowW_no (k : Int) (h : k ∉ knownL) : rowW k = none ∧ rowB k = { data := #[] } := by
  simp only [knownL, List.mem_cons, List.not_mem_nil, or_false, not_or] at h
  obtain ⟨n1, n2, n3, n4, n6, n7, n8, n9, n10, n11, n12, n13, n14, n15, n16, n20, n21, n22, n23, n24, n25, n26, n27, n28, n29, n30, n31, n32, n33, n34, n35, n36, n37, n40, n41, n42⟩ := h
  constructor
  · unfold rowW; split <;> first | rfl | contradiction
  · unfold rowB; split <;> first | rfl | contradiction
theorem rowW_yes (k : Int) (h : k ∈ knownL) : ∃ ws, rowW k = some ws ∧ Lib.fields (rowB k).data.toList = ws.map (fun x => wordL x.1 x.2) ∧ (∀ x ∈ ws, x.1 < 10 ∧ x.2 < 3) ∧ (rowB k).size < 100 ∧ (∀ (j : Nat) b, (rowB k).data.toList[j]? = some b → b.toNat < 128) ∧ ws.length < 10 := by
  have hall : ∀ (l : List UInt8), (l.all fun b => decide (b.toNat < 128)) = true → ∀ (j : Nat) b, l[j]? = some b → b.toNat < 128 := fun l hl j b hb => by simpa using List.all_eq_true.1 hl b (List.mem_of_getElem? hb)
  simp only [knownL, List.mem_cons, List.not_mem_nil, or_false] at h
  rcases h with rfl | rfl | rfl | rfl | rfl | rfl | rfl | rfl | rfl | rfl | rfl | rfl | rfl | rfl | rfl | rfl | rfl | rfl | rfl | rfl | rfl | rfl | rfl | rfl | rfl | rfl | rfl | rfl | rfl | rfl | rfl | rfl | rfl | rfl | rfl | rfl
  all_goals exact ⟨_, rfl, rfl, by decide, by decide, hall _ (by decide), by decide⟩
set_option maxRecDepth 100000 in
set_option maxHeartbeats 6400000 in
theorem kidsRow0 (k : Int) (w : World) (h : k = 1 ∨ k = 2 ∨ k = 3 ∨ k = 4 ∨ k = 6 ∨ k = 7 ∨ k = 8 ∨ k = 9 ∨ k = 10) : Calls Tryz.prog 65 #[.int .i64 k] w fun e w' => e = .returned (.tuple #[.string (rowB k), .bool true]) ∧ w' = w := by
  rcases h with rfl | rfl | rfl | rfl | rfl | rfl | rfl | rfl | rfl
  all_goals
    simp only [rowB]
    go_enter Tryz.func65, Tryz.ntmps65
    go_wp2
    go_ret2
    exact ⟨rfl, rfl⟩
set_option maxRecDepth 100000 in
set_option maxHeartbeats 6400000 in
theorem kidsRow1 (k : Int) (w : World) (h : k = 11 ∨ k = 12 ∨ k = 13 ∨ k = 14 ∨ k = 15 ∨ k = 16 ∨ k = 20 ∨ k = 21 ∨ k = 22) : Calls Tryz.prog 65 #[.int .i64 k] w fun e w' => e = .returned (.tuple #[.string (rowB k), .bool true]) ∧ w' = w := by
  rcases h with rfl | rfl | rfl | rfl | rfl | rfl | rfl | rfl | rfl
  all_goals
    simp only [rowB]
    go_enter Tryz.func65, Tryz.ntmps65
    go_wp2
    go_ret2
    exact ⟨rfl, rfl⟩
set_option maxRecDepth 100000 in
set_option maxHeartbeats 6400000 in
theorem kidsRow2 (k : Int) (w : World) (h : k = 23 ∨ k = 24 ∨ k = 25 ∨ k = 26 ∨ k = 27 ∨ k = 28 ∨ k = 29 ∨ k = 30 ∨ k = 31) : Calls Tryz.prog 65 #[.int .i64 k] w fun e w' => e = .returned (.tuple #[.string (rowB k), .bool true]) ∧ w' = w := by
  rcases h with rfl | rfl | rfl | rfl | rfl | rfl | rfl | rfl | rfl
  all_goals
    simp only [rowB]
    go_enter Tryz.func65, Tryz.ntmps65
    go_wp2
    go_ret2
    exact ⟨rfl, rfl⟩
set_option maxRecDepth 100000 in
set_option maxHeartbeats 6400000 in
theorem kidsRow3 (k : Int) (w : World) (h : k = 32 ∨ k = 33 ∨ k = 34 ∨ k = 35 ∨ k = 36 ∨ k = 37 ∨ k = 40 ∨ k = 41 ∨ k = 42) : Calls Tryz.prog 65 #[.int .i64 k] w fun e w' => e = .returned (.tuple #[.string (rowB k), .bool true]) ∧ w' = w := by
  rcases h with rfl | rfl | rfl | rfl | rfl | rfl | rfl | rfl | rfl
  all_goals
    simp only [rowB]
    go_enter Tryz.func65, Tryz.ntmps65
    go_wp2
    go_ret2
    exact ⟨rfl, rfl⟩
set_option maxRecDepth 100000 in
set_option maxHeartbeats 6400000 in
theorem kidsRowNo (k : Int) (w : World) (h : k ∉ knownL) : Calls Tryz.prog 65 #[.int .i64 k] w fun e w' => e = .returned (.tuple #[.string { data := #[] }, .bool false]) ∧ w' = w := by
  simp only [knownL, List.mem_cons, List.not_mem_nil, or_false, not_or] at h
  obtain ⟨n1, n2, n3, n4, n6, n7, n8, n9, n10, n11, n12, n13, n14, n15, n16, n20, n21, n22, n23, n24, n25, n26, n27, n28, n29, n30, n31, n32, n33, n34, n35, n36, n37, n40, n41, n42⟩ := h
  go_enter Tryz.func65, Tryz.ntmps65
  go_wp2
  go_ret2
  exact ⟨rfl, rfl⟩
theorem kidsRow_any (k : Int) (w : World) : Calls Tryz.prog 65 #[.int .i64 k] w fun e w' => e = .returned (.tuple #[.string (rowB k), .bool (rowW k).isSome]) ∧ w' = w := by
  by_cases h : k ∈ knownL
  · obtain ⟨ws, h1, _⟩ := rowW_yes k h
    rw [h1, Option.isSome_some]
    simp only [knownL, List.mem_cons, List.not_mem_nil, or_false] at h
    rcases (show (k = 1 ∨ k = 2 ∨ k = 3 ∨ k = 4 ∨ k = 6 ∨ k = 7 ∨ k = 8 ∨ k = 9 ∨ k = 10) ∨ (k = 11 ∨ k = 12 ∨ k = 13 ∨ k = 14 ∨ k = 15 ∨ k = 16 ∨ k = 20 ∨ k = 21 ∨ k = 22) ∨ (k = 23 ∨ k = 24 ∨ k = 25 ∨ k = 26 ∨ k = 27 ∨ k = 28 ∨ k = 29 ∨ k = 30 ∨ k = 31) ∨ (k = 32 ∨ k = 33 ∨ k = 34 ∨ k = 35 ∨ k = 36 ∨ k = 37 ∨ k = 40 ∨ k = 41 ∨ k = 42) by omega) with h | h | h | h
    · exact kidsRow0 k w h
    · exact kidsRow1 k w h
    · exact kidsRow2 k w h
    · exact kidsRow3 k w h
  · obtain ⟨h1, h2⟩ := rowW_no k h
    rw [h1, h2]
    exact kidsRowNo k w h
end Go.Proofs.YtgjlnimnnllejaaGreatDoor

namespace Go.Proofs
open Go.Shelf
def Tryz.lays105_ren : Go.Shelf.Ren := ⟨fun | 105 => 63 | 212 => 74 | 99 => 75 | 165 => 76 | 166 => 77 | 170 => 78 | 169 => 79 | 263 => 91 | 264 => 92 | 206 => 93 | 240 => 94 | 241 => 95 | 276 => 107 | 277 => 108 | n => n, fun | 9 => 9 | 3 => 3 | 4 => 4 | 20 => 20 | 0 => 0 | 46 => 131 | 109 => 132 | 5 => 5 | 72 => 137 | 76 => 141 | 51 => 155 | 146 => 156 | 53 => 149 | 148 => 158 | 70 => 135 | 37 => 92 | 75 => 140 | 127 => 160 | 164 => 169 | 80 => 144 | n => n, fun | n => n⟩
theorem Tryz.lays105 : Go.Proofs.Lays.n105 Tryz.prog Tryz.lays105_ren := {
  mixed := by kernel_rfl
  f99 := Tryz.func75.trans (congrArg some (by kernel_rfl))
  f105 := Tryz.func63.trans (congrArg some (by kernel_rfl))
  f165 := Tryz.func76.trans (congrArg some (by kernel_rfl))
  f166 := Tryz.func77.trans (congrArg some (by kernel_rfl))
  f169 := Tryz.func79.trans (congrArg some (by kernel_rfl))
  f170 := Tryz.func78.trans (congrArg some (by kernel_rfl))
  f206 := Tryz.func93.trans (congrArg some (by kernel_rfl))
  f212 := Tryz.func74.trans (congrArg some (by kernel_rfl))
  f240 := Tryz.func94.trans (congrArg some (by kernel_rfl))
  f241 := Tryz.func95.trans (congrArg some (by kernel_rfl))
  f263 := Tryz.func91.trans (congrArg some (by kernel_rfl))
  f264 := Tryz.func92.trans (congrArg some (by kernel_rfl))
  f276 := Tryz.func107.trans (congrArg some (by kernel_rfl))
  f277 := Tryz.func108.trans (congrArg some (by kernel_rfl))
  t0 := Tryz.underlying0
  a0 := Tryz.isAgg0
  z0 := Tryz.sizeOf0
  v0 := Tryz.zeroValue0
  t3 := Tryz.underlying3
  a3 := Tryz.isAgg3
  z3 := Tryz.sizeOf3
  v3 := Tryz.zeroValue3
  t4 := Tryz.underlying4
  a4 := Tryz.isAgg4
  z4 := Tryz.sizeOf4
  v4 := Tryz.zeroValue4
  t5 := Tryz.underlying5
  a5 := Tryz.isAgg5
  z5 := Tryz.sizeOf5
  v5 := Tryz.zeroValue5
  t9 := Tryz.underlying9
  a9 := Tryz.isAgg9
  z9 := Tryz.sizeOf9
  v9 := Tryz.zeroValue9
  t20 := Tryz.underlying20
  a20 := Tryz.isAgg20
  z20 := Tryz.sizeOf20
  v20 := Tryz.zeroValue20
  t37 := Tryz.underlying92
  a37 := Tryz.isAgg92
  z37 := Tryz.sizeOf92
  v37 := Tryz.zeroValue92
  t46 := Tryz.underlying131
  a46 := Tryz.isAgg131
  z46 := Tryz.sizeOf131
  v46 := Tryz.zeroValue131
  t51 := Tryz.underlying155
  a51 := Tryz.isAgg155
  z51 := Tryz.sizeOf155
  v51 := Tryz.zeroValue155
  t53 := Tryz.underlying149
  a53 := Tryz.isAgg149
  z53 := Tryz.sizeOf149
  v53 := Tryz.zeroValue149
  t70 := Tryz.underlying135
  a70 := Tryz.isAgg135
  z70 := Tryz.sizeOf135
  v70 := Tryz.zeroValue135
  t72 := Tryz.underlying137
  a72 := Tryz.isAgg137
  z72 := Tryz.sizeOf137
  v72 := Tryz.zeroValue137
  t75 := Tryz.underlying140
  a75 := Tryz.isAgg140
  z75 := Tryz.sizeOf140
  v75 := Tryz.zeroValue140
  t76 := Tryz.underlying141
  a76 := Tryz.isAgg141
  z76 := Tryz.sizeOf141
  v76 := Tryz.zeroValue141
  t109 := Tryz.underlying132
  a109 := Tryz.isAgg132
  z109 := Tryz.sizeOf132
  v109 := Tryz.zeroValue132
  t127 := Tryz.underlying160
  a127 := Tryz.isAgg160
  z127 := Tryz.sizeOf160
  v127 := Tryz.zeroValue160
  t146 := Tryz.underlying156
  a146 := Tryz.isAgg156
  z146 := Tryz.sizeOf156
  v146 := Tryz.zeroValue156
  t148 := Tryz.underlying158
  a148 := Tryz.isAgg158
  z148 := Tryz.sizeOf158
  v148 := Tryz.zeroValue158
  t164 := Tryz.underlying169
  a164 := Tryz.isAgg169
  z164 := Tryz.sizeOf169
  v164 := Tryz.zeroValue169 }
theorem Tryz.Builder_Extra_105 : Builder.Extra Tryz.prog Tryz.lays105_ren := {
  sizeBuilder := by kernel_rfl
  liesBuilder := by kernel_rfl
  t5 := Tryz.underlying5
  a5 := Tryz.isAgg5
  z5 := Tryz.sizeOf5
  v5 := Tryz.zeroValue5
  infoByte := by kernel_rfl
  cellsByte := by kernel_rfl
  sizeByte := by kernel_rfl
  neB5 := by decide }
open Go.RowKit Go.Lib in
theorem Tryz.strings_Repeat (s : ByteArray) (c : Nat) (w : World) (hc : c ≤ 9223372036854775807) (hlen : s.size * c ≤ 140737488355328) :
    Calls Tryz.prog 63 #[.string s, .int .i64 c] w fun e w' => e = .returned (.string ⟨(Lib.repeatL s.data.toList c).toArray⟩) ∧ Below w.heap.size w w' := Any.strings_Repeat Tryz.lays105 Tryz.Builder_Extra_105 s c w hc hlen
end Go.Proofs

namespace Go.Proofs.YtgjlnimnnllejaaGreatDoor
open Go.RowKit
set_option linter.unusedVariables false

/-- The words of a row with n targets. -/
def setW (n : Nat) : List (Nat × Nat) := List.replicate n (5, 0) ++ [(3, 0), (3, 1)]
def setB (n : Nat) : ByteArray := ⟨(Lib.repeatL [116, 97, 114, 103, 101, 116, 32] n).toArray⟩ ++ { data := #[101, 120, 112, 114, 32, 101, 120, 112, 114, 42] }
theorem setB_list (n : Nat) : (setB n).data.toList = Lib.repeatL [116, 97, 114, 103, 101, 116, 32] n ++ [101, 120, 112, 114, 32, 101, 120, 112, 114, 42] := by
  unfold setB
  rw [ByteArray.data_append]
  simp
theorem setB_fields : ∀ n, Lib.fields (Lib.repeatL [116, 97, 114, 103, 101, 116, 32] n ++ [101, 120, 112, 114, 32, 101, 120, 112, 114, 42]) = (setW n).map fun x => wordL x.1 x.2
  | 0 => by decide
  | n + 1 => by
    have ih := setB_fields n
    have e : Lib.fields (Lib.repeatL [116, 97, 114, 103, 101, 116, 32] (n + 1) ++ [101, 120, 112, 114, 32, 101, 120, 112, 114, 42]) = [116, 97, 114, 103, 101, 116] :: Lib.fields (Lib.repeatL [116, 97, 114, 103, 101, 116, 32] n ++ [101, 120, 112, 114, 32, 101, 120, 112, 114, 42]) := by
      rw [Lib.repeatL]
      rfl
    rw [e, ih]
    rfl
theorem setB_ascii (n : Nat) : ∀ (j : Nat) b, (setB n).data.toList[j]? = some b → b.toNat < 128 := by
  rw [setB_list]
  have hall : ∀ (l : List UInt8), (l.all fun b => decide (b.toNat < 128)) = true → ∀ b ∈ l, b.toNat < 128 := fun l hl b hb => by simpa using List.all_eq_true.1 hl b hb
  have hr : ∀ n, ∀ b ∈ Lib.repeatL [116, 97, 114, 103, 101, 116, 32] n, b.toNat < 128 := by
    intro n
    induction n with
    | zero => intro b hb; simp [Lib.repeatL] at hb
    | succ n ih =>
      intro b hb
      rw [Lib.repeatL] at hb
      rcases List.mem_append.1 hb with hb | hb
      · exact hall _ (by decide) b hb
      · exact ih b hb
  intro j b hb
  rcases List.mem_append.1 (List.mem_of_getElem? hb) with h | h
  · exact hr n b h
  · exact hall _ (by decide) b h
theorem setB_size (n : Nat) : (setB n).size = 7 * n + 10 := by
  have h := congrArg List.length (setB_list n)
  rw [List.length_append, Lib.repeatL_length] at h
  simp at h
  have e : (setB n).size = (setB n).data.size := rfl
  omega
theorem setW_ok (n : Nat) : ∀ x ∈ setW n, x.1 < 10 ∧ x.2 < 3 := by
  intro x hx
  unfold setW at hx
  rcases List.mem_append.1 hx with hx | hx
  · rw [(List.mem_replicate.1 hx).2]; decide
  · simp at hx; rcases hx with rfl | rfl <;> decide

set_option maxRecDepth 100000 in
set_option maxHeartbeats 3200000 in
theorem kidsFit_set (w : World) (b : Nat) (nk nf nt nl num : Int) (n : Nat) (hn : n ≤ 200) (vk : Value) (ks : List Int) (hk : KidsAt w vk ks) (hl : ks.length ≤ 1048576) (htab : ∀ W, Below w.heap.size w W → Lib.TabIs Tryz.prog W "strings.asciiSpace" .u8 Lib.asciiSpaceTab)
    (hb : w.heap[b]? = some (.cells #[.int .i64 nk, .int .i64 nf, .int .i64 nt, .int .i64 nl, .int .i64 num, vk, .int .i64 (n : Int)] 103 (0, 0))) :
    Calls Tryz.prog 52 #[.iface 101 (.pointer (some ⟨b, 0, none⟩))] w fun e w' => e = .returned (.bool (kmatch (setW n) ks)) ∧ Below w.heap.size w w' := by
  have ha1 := fun w => as11 b w
  have kr := Tryz.strings_Repeat { data := #[116, 97, 114, 103, 101, 116, 32] } n w (by omega) (by show 7 * n ≤ _; omega)
  have km := fun W (hB : Below w.heap.size w W) => kidsMatch_any W (setB n) (setW n) vk ks (by rw [setB_list]; exact setB_fields n) (setW_ok n) (by rw [setB_size]; omega) (setB_ascii n) (htab W hB) (hk.below hB) hl (by unfold setW; rw [List.length_append, List.length_replicate]; simp; omega)
  obtain ⟨ak, ck, rfl⟩ := hk.form
  have c5 : w.cell? ⟨b, 5, none⟩ = some (.slice ak ks.length ck) := by rw [cell_of_row _ _ _ _ _ _ hb]; rfl
  have c6 : w.cell? ⟨b, 6, none⟩ = some (.int .i64 (n : Int)) := by rw [cell_of_row _ _ _ _ _ _ hb]; rfl
  have hsz : (({ data := #[101, 120, 112, 114, 32, 101, 120, 112, 114, 42] } : ByteArray)).size = 10 := rfl
  have hsr : ((⟨(Lib.repeatL [116, 97, 114, 103, 101, 116, 32] n).toArray⟩ : ByteArray)).size = 7 * n := by
    have e : ((⟨(Lib.repeatL [116, 97, 114, 103, 101, 116, 32] n).toArray⟩ : ByteArray)).size = (Lib.repeatL [116, 97, 114, 103, 101, 116, 32] n).length := by simp [ByteArray.size]
    rw [e, Lib.repeatL_length]; simp; omega
  unfold setB at km
  generalize kmatch (setW n) ks = R at km ⊢
  generalize ks.length = L at km c5
  generalize (⟨(Lib.repeatL [116, 97, 114, 103, 101, 116, 32] n).toArray⟩ : ByteArray) = SR at km kr hsr
  have HC5 : Hid (w.cell? ⟨b, 5, none⟩ = some (.slice ak L ck)) := c5
  clear hb hk htab c5
  go_enter Tryz.func52, Tryz.ntmps52
  go_wp2_with (go_at_call 63; fail)
  refine kr.mono ?_
  rintro e w2 ⟨rfl, hb2⟩
  have c5 := cell_kept hb2 HC5.out
  have km2 := km w2 hb2
  clear km kr
  go_wp2_with (go_at_call 64; fail)
  refine km2.mono ?_
  rintro e w3 ⟨rfl, hb3⟩
  go_wp2_with fail
  go_ret
  exact ⟨rfl, hb2.trans (hb3.mono hb2.size)⟩

theorem asS (k : Int) (h : cls k ≠ 1) (b : Nat) (w : World) : (Instr.typeAssert (.iface (ptT (cls k)) (.pointer (some ⟨b, 0, none⟩))) 50 101 true).run Tryz.prog w = .ok (.tuple #[.pointer none, .bool false]) w := by
  rcases cls_lt k with g | g | g | g | g | g | g
  · rw [g]; exact as01 b w
  · exact absurd g h
  · rw [g]; exact as21 b w
  · rw [g]; exact as31 b w
  · rw [g]; exact as41 b w
  · rw [g]; exact as51 b w
  · rw [g]; exact as61 b w
/-- What the row of a Kind says of its kids. -/
def rkB (k : Int) (ks : List Int) : Bool := match rowW k with | some ws => kmatch ws ks | none => false

set_option maxRecDepth 100000 in
set_option maxHeartbeats 3200000 in
theorem kidsFit_oth (w : World) (b : Nat) (k : Int) (hc : cls k ≠ 1) (vk : Value) (ks : List Int) (hk : KidsAt w vk ks) (hl : ks.length ≤ 1048576) (htab : Lib.TabIs Tryz.prog w "strings.asciiSpace" .u8 Lib.asciiSpaceTab)
    (c0 : w.cell? ⟨b, 0, none⟩ = some (.int .i64 k)) (c5 : w.cell? ⟨b, 5, none⟩ = some vk) :
    Calls Tryz.prog 52 #[nodeV k b] w fun e w' => e = .returned (.bool (rkB k ks)) ∧ Below w.heap.size w w' := by
  have ha1 := fun w => asS k hc b w
  have hmt := fun w => methK k b w
  have kh := fun w => head_any b w
  have kr := fun w => kidsRow_any k w
  unfold nodeV rkB
  by_cases hk2 : k ∈ knownL
  · obtain ⟨ws, h1, h2, h3, h4, h5, h6⟩ := rowW_yes k hk2
    have km := kidsMatch_any w (rowB k) ws vk ks h2 h3 (by omega) h5 htab hk hl (by omega)
    rw [h1] at kr ⊢
    simp only [Option.isSome_some] at kr ⊢
    obtain ⟨ak, ck, rfl⟩ := hk.form
    generalize ks.length = L at km c5
    generalize kmatch ws ks = R at km ⊢
    generalize rowB k = S at km kr
    generalize ptT (cls k) = tp at ha1 hmt ⊢
    clear hk htab h2 h3 h4 h5 h6 h1 hk2 hc
    go_enter Tryz.func52, Tryz.ntmps52
    go_wp2_with (first | (go_at_call 155; refine (kh _).mono ?_; rintro e w' ⟨rfl, rfl⟩) | (go_at_call 65; refine (kr _).mono ?_; rintro e w' ⟨rfl, rfl⟩) | (go_at_call 64; refine km.mono ?_; rintro e w3 ⟨rfl, hb3⟩))
    go_ret
    exact ⟨rfl, hb3⟩
  · obtain ⟨h1, h2⟩ := rowW_no k hk2
    rw [h1, h2] at kr
    rw [h1]
    simp only [Option.isSome_none] at kr ⊢
    generalize ptT (cls k) = tp at ha1 hmt ⊢
    clear hk htab hk2 hc h1 h2
    go_enter Tryz.func52, Tryz.ntmps52
    go_wp2_with (first | (go_at_call 155; refine (kh _).mono ?_; rintro e w' ⟨rfl, rfl⟩) | (go_at_call 65; refine (kr _).mono ?_; rintro e w' ⟨rfl, rfl⟩))
    go_ret
    exact ⟨rfl, Below.refl _ _⟩
end Go.Proofs.YtgjlnimnnllejaaGreatDoor

namespace Go.Proofs.YtgjlnimnnllejaaGreatDoor
open Go.RowKit
set_option linter.unusedVariables false

theorem bytes_ne {s t : ByteArray} (h : s ≠ t) : (s.toList == t.toList) = false := by
  rw [beq_eq_false_iff_ne]
  intro e
  apply h
  rw [ByteArray.toList_eq, ByteArray.toList_eq] at e
  cases s; cases t
  simp only at e
  congr 1
  exact Array.toList_inj.1 e
theorem bytes_eq {s t : ByteArray} (h : s = t) : (s.toList == t.toList) = true := by subst h; simp

set_option maxRecDepth 100000 in
set_option maxHeartbeats 3200000 in
theorem equalS_any (w : World) (v1 v2 : Value) (l1 l2 : List ByteArray) (h1 : StrsAt w v1 l1) (h2 : StrsAt w v2 l2) (hl : l1.length ≤ 1048576) (hl2 : l2.length ≤ 1048576) :
    Calls Tryz.prog 59 #[v1, v2] w fun e w' => e = .returned (.bool (decide (l1 = l2))) ∧ Below w.heap.size w w' := by
  obtain ⟨a1, c1, rfl⟩ := h1.form
  obtain ⟨a2, c2, rfl⟩ := h2.form
  by_cases hne : l1.length = l2.length
  · obtain ⟨R, hR⟩ : ∃ R, decide (l1 = l2) = R := ⟨_, rfl⟩
    rw [hR]
    obtain ⟨n, hn⟩ : ∃ n, l1.length = n := ⟨_, rfl⟩
    have hn2 : l2.length = n := by rw [← hne]; exact hn
    have HN : Hid (l1.length = n ∧ l2.length = n ∧ decide (l1 = l2) = R) := ⟨hn, hn2, hR⟩
    have HA : Hid (StrsAt w (.slice a1 n c1) l1 ∧ StrsAt w (.slice a2 n c2) l2) := ⟨by rw [← hn]; exact h1, by rw [← hn2]; exact h2⟩
    rw [hn] at hl ⊢
    rw [hn2]
    clear h1 h2 hn hn2 hR hne hl2
    go_enter Tryz.func59, Tryz.ntmps59
    go_wp2_with fail
    go_loopw [13] (fun vi wr => ∃ k : Nat, k ≤ n ∧ vi = .int .i64 k ∧ Hid (∀ j, j < k → l1[j]? = l2[j]?) ∧ Below w.heap.size w wr) (fun vi _ => n - (intOf vi).toNat)
    case atStart => exact ⟨0, by omega, rfl, fun j hj => by omega, Below.refl _ _⟩
    case round =>
      obtain ⟨k, hk, rfl, HE, hb⟩ := hrel
      by_cases hlt : k < n
      · obtain ⟨s, hsk⟩ := some_at HN.out.1 hlt
        obtain ⟨t, htk⟩ := some_at HN.out.2.1 hlt
        obtain ⟨b1, rfl, d1⟩ := (HA.out.1.below hb).get hsk
        obtain ⟨b2, rfl, d2⟩ := (HA.out.2.below hb).get htk
        have hki : (k : Int) < (n : Int) := by omega
        have hk0 : (0 : Int) ≤ (k : Int) := by omega
        by_cases hst : s = t
        · subst hst
          have HE2 : Hid (∀ j, j < k + 1 → l1[j]? = l2[j]?) := fun j hj => by
            rcases Nat.lt_or_ge j k with g | g
            · exact HE.out j g
            · obtain rfl : j = k := by omega
              rw [hsk, htk]
          clear hsk htk
          go_wp2_with fail
          go_quiet (fail)
          go_wp2_with fail
          exact ⟨⟨k + 1, by omega, by go_num, HE2, bel_drew hb _⟩, by simp [intOf]; omega⟩
        · have HRf : Hid (R = false) := by
            show R = false
            rw [← HN.out.2.2]
            refine decide_eq_false fun e => hst ?_
            rw [e, htk] at hsk
            exact (Option.some.inj hsk).symm
          have hbl : (s.toList == t.toList) = false := bytes_ne hst
          clear hsk htk
          go_wp2_with fail
          go_quiet (fail)
          go_wp2_with fail
          go_ret
          exact ⟨by rw [HRf.out]; rfl, bel_drew hb _⟩
      · obtain rfl : k = n := by omega
        have HRt : Hid (R = true) := by
          show R = true
          rw [← HN.out.2.2]
          refine decide_eq_true (List.ext_getElem? fun j => ?_)
          rcases Nat.lt_or_ge j k with g | g
          · exact HE.out j g
          · rw [List.getElem?_eq_none (by rw [HN.out.1]; exact g), List.getElem?_eq_none (by rw [HN.out.2.1]; exact g)]
        go_wp2_with fail
        go_ret
        exact ⟨by rw [HRt.out]; rfl, hb⟩
  · rw [decide_eq_false (fun e => hne (by rw [e]))]
    have hni : ¬ (l1.length : Int) = (l2.length : Int) := by omega
    generalize l1.length = n1 at hni hl ⊢
    generalize l2.length = n2 at hni hl2 ⊢
    clear h1 h2 hne
    go_enter Tryz.func59, Tryz.ntmps59
    go_wp2
    go_ret
    exact ⟨rfl, Below.refl _ _⟩

/-- Two nodes, field by field but for Kind, places and kids. -/
def sameB (M N : Nd) : Bool := decide (M.op = N.op ∧ M.n = N.n ∧ M.x = N.x ∧ M.nm = N.nm)
set_option maxRecDepth 100000 in
set_option maxHeartbeats 3200000 in
theorem sameFields_any (w : World) (M N : Nd) (vm vl vn vk : Value) (hm : StrsAt w vm M.nm) (hn : StrsAt w vn N.nm) (hl : ∃ a n c, vl = .slice a n c) (hk : ∃ a n c, vk = .slice a n c) (hl1 : M.nm.length ≤ 1048576) (hl2 : N.nm.length ≤ 1048576) :
    Calls Tryz.prog 49 #[vNd M vm vl, vNd N vn vk] w fun e w' => e = .returned (.bool (sameB M N)) ∧ Below w.heap.size w w' := by
  have hbb : ∀ o1 o2, Below w.heap.size w ((w.alloc o1).alloc o2) := fun o1 o2 => ((Below.refl _ w).alloc (Nat.le_refl _) o1).alloc (by simp) o2
  have ke := fun o1 o2 => equalS_any ((w.alloc o1).alloc o2) vm vn M.nm N.nm (hm.below (hbb o1 o2)) (hn.below (hbb o1 o2)) hl1 hl2
  obtain ⟨a1, e1, rfl⟩ := hm.form
  obtain ⟨a2, e2, rfl⟩ := hn.form
  obtain ⟨a3, n3, e3, rfl⟩ := hl
  obtain ⟨a4, n4, e4, rfl⟩ := hk
  unfold vNd sameB
  generalize M.nm.length = L1 at ke ⊢
  generalize N.nm.length = L2 at ke ⊢
  by_cases g1 : M.op = N.op
  · by_cases g2 : M.n = N.n
    · by_cases g3 : M.x = N.x
      · have e : decide (M.op = N.op ∧ M.n = N.n ∧ M.x = N.x ∧ M.nm = N.nm) = decide (M.nm = N.nm) := by
          by_cases g4 : M.nm = N.nm
          · rw [decide_eq_true g4, decide_eq_true ⟨g1, g2, g3, g4⟩]
          · rw [decide_eq_false g4, decide_eq_false (fun g => g4 g.2.2.2)]
        rw [e]
        have q3 := bytes_eq g3
        generalize decide (M.nm = N.nm) = R at ke ⊢
        clear e g3 hm hn
        obtain ⟨mk, mf, mt, ml, mop, mn, mx, mnm, mks⟩ := M
        obtain ⟨nk, nf, nt, nl, nop, nn, nx, nnm, nks⟩ := N
        simp only at g1 g2 q3 ⊢
        go_enter Tryz.func49, Tryz.ntmps49
        go_wp2_with (go_at_call 59; refine (ke _ _).mono ?_; rintro e w3 ⟨rfl, hb3⟩)
        go_ret
        exact ⟨rfl, (hbb _ _).trans (hb3.mono (by simp; omega))⟩
      · rw [decide_eq_false (fun g => g3 g.2.2.1)]
        have q3 := bytes_ne g3
        clear g3 hm hn ke
        obtain ⟨mk, mf, mt, ml, mop, mn, mx, mnm, mks⟩ := M
        obtain ⟨nk, nf, nt, nl, nop, nn, nx, nnm, nks⟩ := N
        simp only at g1 g2 q3 ⊢
        go_enter Tryz.func49, Tryz.ntmps49
        go_wp2
        go_ret
        exact ⟨rfl, hbb _ _⟩
    · rw [decide_eq_false (fun g => g2 g.2.1)]
      clear hm hn ke
      obtain ⟨mk, mf, mt, ml, mop, mn, mx, mnm, mks⟩ := M
      obtain ⟨nk, nf, nt, nl, nop, nn, nx, nnm, nks⟩ := N
      simp only at g1 g2 ⊢
      go_enter Tryz.func49, Tryz.ntmps49
      go_wp2
      go_ret
      exact ⟨rfl, hbb _ _⟩
  · rw [decide_eq_false (fun g => g1 g.1)]
    clear hm hn ke
    obtain ⟨mk, mf, mt, ml, mop, mn, mx, mnm, mks⟩ := M
    obtain ⟨nk, nf, nt, nl, nop, nn, nx, nnm, nks⟩ := N
    simp only at g1 ⊢
    go_enter Tryz.func49, Tryz.ntmps49
    go_wp2
    go_ret
    exact ⟨rfl, hbb _ _⟩
end Go.Proofs.YtgjlnimnnllejaaGreatDoor

namespace Go.Proofs.YtgjlnimnnllejaaGreatDoor
open Go.RowKit Go.Maps Go.WideMaps
set_option linter.unusedVariables false

theorem rowOf_any (w : World) (b : Nat) (N : Nd) (vn kv : Value) (num : Int) (hn : ∃ a n c, vn = .slice a n c) (h : InBox w b N vn num kv) :
    Calls Tryz.prog 50 #[nodeV N.k b] w fun e w' => e = .returned (vNd (rowN N (cls N.k)) (rowV vn (cls N.k)) (.slice none 0 0)) ∧ Below w.heap.size w w' := by
  obtain ⟨a1, n1, e1, rfl⟩ := hn
  unfold InBox at h
  unfold nodeV
  rcases cls_lt N.k with hc | hc | hc | hc | hc | hc | hc
  · rw [hc] at h ⊢; exact rowOf0 w b N.k N.f N.t N.l num kv a1 n1 e1 h
  · rw [hc] at h ⊢; exact rowOf1 w b N.k N.f N.t N.l num kv N.n h
  · rw [hc] at h ⊢; exact rowOf2 w b N.k N.f N.t N.l num kv N.n h
  · rw [hc] at h ⊢; exact rowOf3 w b N.k N.f N.t N.l num kv N.x h
  · rw [hc] at h ⊢; exact rowOf4 w b N.k N.f N.t N.l num kv N.op h
  · rw [hc] at h ⊢
    refine (rowOf5 w b N.k N.f N.t N.l num kv a1 n1 e1 (decide (N.op = 1)) h).mono ?_
    rintro e w' ⟨rfl, hb⟩
    refine ⟨?_, hb⟩
    unfold vNd rowN rowV
    simp
  · rw [hc] at h ⊢; exact rowOf6 w b N.k N.f N.t N.l num kv h
/-- What the tables ask of a node's fields, by its type. -/
def ffB (N : Nd) (L : Nat) : Nat → Bool
  | 0 => decide (1 ≤ (N.nm.length : Int) ∧ (N.nm.length : Int) ≤ mostN N.k) && nmsB N.nm N.nm.length 0
  | 1 => decide (1 ≤ N.n ∧ N.n < (L : Int))
  | 2 => true
  | 3 => txB N.k N.x
  | 4 => if N.k = 30 then (decide ((19 : Int) ≤ N.op) && decide (N.op ≤ 22)) else (decide ((1 : Int) ≤ N.op) && decide (N.op ≤ 18))
  | 5 => nmsB N.nm N.nm.length 0
  | _ => true
theorem fieldsFit_any (w : World) (lb mb : Nat) (vs : Value) (h : Lk w lb mb vs) (b : Nat) (N : Nd) (vn : Value) (num : Int) (ak : Option Addr) (L ck : Nat) (hL : L ≤ 1048576) (hn : StrsAt w vn N.nm) (hl : N.nm.length ≤ 1048576) (hs : ∀ s ∈ N.nm, s.size ≤ 1048576) (hx : N.x.size ≤ 1048576) (hb : InBox w b N vn num (.slice ak L ck)) :
    Calls Tryz.prog 51 #[.pointer (some ⟨lb, 0, none⟩), nodeV N.k b] w fun e w' => e = .returned (.bool (ffB N L (cls N.k))) ∧ Below w.heap.size w w' := by
  unfold InBox at hb
  unfold nodeV
  have same : ∀ {R : Bool}, (Calls Tryz.prog 51 #[.pointer (some ⟨lb, 0, none⟩), .iface (ptT (cls N.k)) (.pointer (some ⟨b, 0, none⟩))] w fun e w' => e = .returned (.bool R) ∧ w' = w) → (Calls Tryz.prog 51 #[.pointer (some ⟨lb, 0, none⟩), .iface (ptT (cls N.k)) (.pointer (some ⟨b, 0, none⟩))] w fun e w' => e = .returned (.bool R) ∧ Below w.heap.size w w') := fun hh => hh.mono fun e w' ⟨h1, h2⟩ => ⟨h1, h2 ▸ Below.refl _ _⟩
  rcases cls_lt N.k with hc | hc | hc | hc | hc | hc | hc
  · refine same ?_; rw [hc] at hb ⊢; exact ff0 w lb mb vs h b N.k N.f N.t N.l num _ vn N.nm hn hl hs hb
  · rw [hc] at hb ⊢; exact ff1 w lb b N.k N.f N.t N.l num N.n ak L ck hL hb
  · refine same ?_; rw [hc] at hb ⊢; exact ff2 w lb b
  · rw [hc] at hb ⊢; exact ff3 w lb mb vs h b N.k N.f N.t N.l num _ N.x (by omega) hb
  · refine same ?_; rw [hc] at hb ⊢; exact ff4 w lb b N.k N.f N.t N.l num N.op _ hb
  · refine same ?_; rw [hc] at hb ⊢; exact ff5 w lb mb vs h b N.k N.f N.t N.l num _ vn (decide (N.op = 1)) N.nm hn hl hs hb
  · refine same ?_; rw [hc] at hb ⊢; exact ff6 w lb b
theorem InBox.cells {W : World} {b : Nat} {N : Nd} {vn kv : Value} {num : Int} (h : InBox W b N vn num kv) : W.cell? ⟨b, 0, none⟩ = some (.int .i64 N.k) ∧ W.cell? ⟨b, 1, none⟩ = some (.int .i64 N.f) ∧ W.cell? ⟨b, 2, none⟩ = some (.int .i64 N.t) ∧ W.cell? ⟨b, 4, none⟩ = some (.int .i64 num) ∧ W.cell? ⟨b, 5, none⟩ = some kv ∧ ∀ j, W.frozen? ⟨b, j, none⟩ = false := by
  unfold InBox at h
  refine ⟨?_, ?_, ?_, ?_, ?_, fun j => frozen_of_row _ _ _ _ _ h⟩
  · rw [cell_of_row _ _ _ _ _ _ h]; simp
  · rw [cell_of_row _ _ _ _ _ _ h]; simp
  · rw [cell_of_row _ _ _ _ _ _ h]; simp
  · rw [cell_of_row _ _ _ _ _ _ h]; simp
  · rw [cell_of_row _ _ _ _ _ _ h]; simp
def kfB (N : Nd) (ks : List Int) : Bool := if cls N.k = 1 then kmatch (setW N.n.toNat) ks else rkB N.k ks
theorem kidsFit_any (w : World) (b : Nat) (N : Nd) (vn kv : Value) (num : Int) (ks : List Int) (hk : KidsAt w kv ks) (hl : ks.length ≤ 1048576) (htab : ∀ W, Below w.heap.size w W → Lib.TabIs Tryz.prog W "strings.asciiSpace" .u8 Lib.asciiSpaceTab) (hb : InBox w b N vn num kv) (hn : cls N.k = 1 → 0 ≤ N.n ∧ N.n ≤ 200) :
    Calls Tryz.prog 52 #[nodeV N.k b] w fun e w' => e = .returned (.bool (kfB N ks)) ∧ Below w.heap.size w w' := by
  unfold kfB
  by_cases hc : cls N.k = 1
  · rw [if_pos hc]
    obtain ⟨h0, h1⟩ := hn hc
    unfold InBox at hb
    unfold nodeV
    rw [hc] at hb ⊢
    have e : N.n = ((N.n.toNat : Nat) : Int) := by omega
    refine kidsFit_set w b N.k N.f N.t N.l num N.n.toNat (by omega) kv ks hk hl htab ?_
    rw [← e]
    exact hb
  · rw [if_neg hc]
    obtain ⟨c0, _, _, _, c5, _⟩ := hb.cells
    exact kidsFit_oth w b N.k hc kv ks hk hl (htab w (Below.refl _ _)) c0 c5
end Go.Proofs.YtgjlnimnnllejaaGreatDoor

namespace Go.Proofs.YtgjlnimnnllejaaGreatDoor
open Go.RowKit Go.Maps Go.WideMaps
set_option linter.unusedVariables false

/-- A node that the program has made: its block, the names and the kids that it holds. -/
structure Im where
  N : Nd
  b : Nat
  vn : Value
  kv : Value
def nV (x : Im) : Value := nodeV x.N.k x.b
def kidsIn (L : List Im) (ks : List Int) : List Value := ks.map fun z => match L[z.toNat]? with | some y => nV y | none => .nilIface
/-- The nodes that the program has made so far. -/
structure NsAt (W : World) (base : Nat) (vs : Value) (L : List Im) : Prop where
  row : W.ownsRow base 50 1 vs L.length (L.map nV)
  box : ∀ (i : Nat) x, L[i]? = some x → InBox W x.b x.N x.vn i x.kv
  kid : ∀ (i : Nat) x, L[i]? = some x → W.ownsRow base 50 1 x.kv x.N.ks.length (kidsIn (L.take i) x.N.ks)
  far : ∀ x ∈ L, x.kv.ownBlock = none ∨ x.kv.ownBlock ≠ vs.ownBlock
  rng : ∀ (i : Nat) x z, L[i]? = some x → z ∈ x.N.ks → 0 ≤ z ∧ z < (i : Int)
theorem InBox.below {W W' : World} {b : Nat} {N : Nd} {vn kv : Value} {num : Int} (h : InBox W b N vn num kv) (hb : Below W.heap.size W W') : InBox W' b N vn num kv := (hb.block _ (lt_of_block h)).trans h
theorem NsAt.below {W W' : World} {base : Nat} {vs : Value} {L : List Im} (h : NsAt W base vs L) (hb : Below W.heap.size W W') : NsAt W' base vs L :=
  ⟨own_keep h.row hb, fun i x hx => (h.box i x hx).below hb, fun i x hx => own_keep (h.kid i x hx) hb, h.far, h.rng⟩
theorem blk_ne {W : World} {a b : Nat} {c1 c2 : Array Value} {t1 t2 : TypeId} {f1 f2 : Nat × Nat} (h1 : W.heap[a]? = some (.cells c1 t1 f1)) (h2 : W.heap[b]? = some (.cells c2 t2 f2)) (ht : t1 ≠ t2) : a ≠ b := by
  rintro rfl
  have e := h1.symm.trans h2
  simp only [Option.some.injEq, Obj.cells.injEq] at e
  exact ht e.2.1
theorem stT_ne (c : Nat) : stT c ≠ 50 ∧ stT c ≠ 69 ∧ stT c ≠ 45 := by
  unfold stT
  split <;> decide
theorem map_ne {W : World} {mb b : Nat} {cs : Array Value} {t : TypeId} {f : Nat × Nat} (h : W.ownsMap Tryz.prog 9 (plainElem (H := Unit) Tryz.prog 3) mb 22 (wkD 22)) (h2 : W.heap[b]? = some (.cells cs t f)) : mb ≠ b := by
  rintro rfl
  obtain ⟨es, clock, hh, rest⟩ := h
  rw [h2] at hh
  cases hh
/-- A block of the lists of nodes. -/
def IsRow (W : World) (g : Nat) : Prop := ∃ cs, W.heap[g]? = some (.cells cs 50 (0, 0))
theorem own_isRow {W : World} {base n g : Nat} {v : Value} {xs : List Value} (h : W.ownsRow base 50 1 v n xs) (hg : v.ownBlock = some g) : IsRow W g ∧ base ≤ g := by
  rcases own_zero_or h with ⟨_, rfl⟩ | ⟨g', c, rfl⟩
  · simp [Value.ownBlock] at hg
  · obtain rfl : g' = g := by simpa [Value.ownBlock] using hg
    rcases h.2 with ⟨h1, _⟩ | ⟨g2, cap, cur, h1, h2, h3, _⟩
    · cases h1
    · cases h1; exact ⟨⟨cur, h3⟩, h2⟩
/-- What stands while a node is made. -/
structure AdSt (w0 : World) (lb mb p bn : Nat) (vs : Value) (L : List Im) (N : Nd) (vn vk kv : Value) (j : Nat) (W : World) : Prop where
  lk : Lk W lb mb vs
  ns : NsAt W w0.heap.size vs L
  rb : NdBox p W 45 N vn vk
  bx : InBox W bn N vn L.length kv
  kr : W.ownsRow w0.heap.size 50 1 kv j (kidsIn L (N.ks.take j))
  fr : kv.ownBlock = none ∨ kv.ownBlock ≠ vs.ownBlock
  fo : ∀ x ∈ L, x.kv.ownBlock = none ∨ x.kv.ownBlock ≠ kv.ownBlock
  bl : Below w0.heap.size w0 W
  lo : w0.heap.size ≤ lb ∧ w0.heap.size ≤ bn ∧ w0.heap.size ≤ p
theorem AdSt.below {w0 : World} {lb mb p bn : Nat} {vs : Value} {L : List Im} {N : Nd} {vn vk kv : Value} {j : Nat} {W W' : World} (h : AdSt w0 lb mb p bn vs L N vn vk kv j W) (hb : Below W.heap.size W W') : AdSt w0 lb mb p bn vs L N vn vk kv j W' :=
  ⟨h.lk.below hb, h.ns.below hb, h.rb.below hb, h.bx.below hb, own_keep h.kr hb, h.fr, h.fo, h.bl.trans (hb.mono h.bl.size), h.lo⟩
/-- A list of nodes that is none of these has grown, then the kids of the node are it. -/
theorem AdSt.kid {w0 : World} {lb mb p bn : Nat} {vs : Value} {L : List Im} {N : Nd} {vn vk kv : Value} {j : Nat} {W W' : World} (he : Errs w0) (h : AdSt w0 lb mb p bn vs L N vn vk kv j W) (hg : W.grownBy W' kv.ownBlock) {g cap H : Nat} (ho : W'.ownsRow w0.heap.size 50 1 (.slice (some ⟨g, 0, none⟩) (j + 1) cap) (j + 1) (kidsIn L (N.ks.take (j + 1)))) (hat : kv.ownBlock = some g ∨ g = H) (hH : W.heap.size = H) :
    InBox W' bn N vn L.length kv ∧ AdSt w0 lb mb p bn vs L N vn vk (.slice (some ⟨g, 0, none⟩) (j + 1) cap) (j + 1) (W'.setCell ⟨bn, 5, none⟩ (.slice (some ⟨g, 0, none⟩) (j + 1) cap)) := by
  have hrow : ∀ k, kv.ownBlock = some k → IsRow W k ∧ w0.heap.size ≤ k := fun k hk => own_isRow h.kr hk
  have keep : ∀ {b : Nat} {cs : Array Value} {t : TypeId}, W.heap[b]? = some (.cells cs t (0, 0)) → t ≠ 50 → W'.heap[b]? = some (.cells cs t (0, 0)) := fun hb ht =>
    (hg.block _ (lt_of_block hb) (fun e => by obtain ⟨⟨c, hc⟩, _⟩ := hrow _ e.symm; exact blk_ne hb hc ht rfl)).trans hb
  have bx' : InBox W' bn N vn L.length kv := keep h.bx (stT_ne _).1
  have bel' : Below w0.heap.size w0 W' := h.bl.grown hg h.bl.size (fun k hk => (hrow k hk).2)
  have hs : Below w0.heap.size w0 (W'.setCell ⟨bn, 5, none⟩ (.slice (some ⟨g, 0, none⟩) (j + 1) cap)) := bel'.setCell h.lo.2.1 _
  have set : ∀ {b : Nat} {cs : Array Value} {t : TypeId}, W'.heap[b]? = some (.cells cs t (0, 0)) → t ≠ stT (cls N.k) → (W'.setCell ⟨bn, 5, none⟩ (.slice (some ⟨g, 0, none⟩) (j + 1) cap)).heap[b]? = some (.cells cs t (0, 0)) := fun hb ht =>
    (heap_setCell_other _ _ _ _ (fun e => by exact blk_ne hb bx' ht e)).trans hb
  have setr : ∀ {v : Value} {n : Nat} {xs : List Value}, W'.ownsRow w0.heap.size 50 1 v n xs → (W'.setCell ⟨bn, 5, none⟩ (.slice (some ⟨g, 0, none⟩) (j + 1) cap)).ownsRow w0.heap.size 50 1 v n xs := fun ho =>
    ho.kept (row := some bn) ⟨rfl, rfl, rfl, by simp [World.setCell], fun k hk hne => heap_setCell_other _ _ _ _ (fun e => hne (by rw [e]))⟩ (by
      cases hv : Value.ownBlock _ with
      | none => exact .inl rfl
      | some k => exact .inr (fun e => by obtain ⟨⟨c, hc⟩, _⟩ := own_isRow ho hv; obtain rfl := Option.some.inj e; exact blk_ne bx' hc (stT_ne _).1 rfl))
  have vsk : vs.ownBlock = none ∨ vs.ownBlock ≠ kv.ownBlock := by
    rcases h.fr with e | e
    · cases hv : vs.ownBlock with
      | none => exact .inl rfl
      | some k => rw [e]; exact .inr (by simp)
    · exact .inr (Ne.symm e)
  have fresh : ∀ k, k < W.heap.size → kv.ownBlock ≠ some k → some g ≠ some k := fun k hk hne e => by
    obtain rfl := Option.some.inj e
    rcases hat with e2 | e2
    · exact hne e2
    · omega
  refine ⟨bx', ⟨⟨set (keep h.lk.b (by decide)) (Ne.symm (stT_ne _).2.1), ?_, he.keep hs⟩, ⟨setr (h.ns.row.kept hg vsk), ?_, ?_, h.ns.far, h.ns.rng⟩, set (keep h.rb (by decide)) (Ne.symm (stT_ne _).2.2), ?_, setr ho, ?_, ?_, hs, h.lo⟩⟩
  · have hm := wd_keep h.lk.m (hg.block _ h.lk.m.lt (fun e => by obtain ⟨⟨c, hc⟩, _⟩ := hrow _ e.symm; exact map_ne h.lk.m hc rfl))
    exact wd_keep hm (heap_setCell_other _ _ _ _ (fun e => by exact map_ne hm bx' e))
  · intro i x hx
    have hb := keep (h.ns.box i x hx) (stT_ne _).1
    by_cases hne : x.b = bn
    · exfalso
      have e1 := h.ns.box i x hx
      have e2 := h.bx
      unfold InBox at e1 e2
      rw [hne, e2] at e1
      have e3 := congrArg (fun o => match o with | some (Obj.cells c _ _) => c[4]? | _ => none) e1
      simp at e3
      have hil : i < L.length := (List.getElem?_eq_some_iff.1 hx).1
      omega
    · exact (heap_setCell_other _ _ _ _ hne).trans hb
  · intro i x hx
    exact setr ((h.ns.kid i x hx).kept hg (h.fo x (List.mem_of_getElem? hx)))
  · unfold InBox at bx' ⊢
    have := heap_setCell_same W' bn 5 _ _ (.slice (some ⟨g, 0, none⟩) (j + 1) cap) bx'
    rw [this]
    simp
  · refine .inr fun e => ?_
    have hvb := e.symm
    have hlt := (h.ns.row.lt g hvb).2
    exact fresh g hlt (by rcases vsk with e2 | e2; rw [e2] at hvb; cases hvb; rw [hvb] at e2; exact Ne.symm e2) rfl
  · intro x hx
    cases hxk : x.kv.ownBlock with
    | none => exact .inl rfl
    | some k =>
      refine .inr fun e => ?_
      obtain ⟨i, hi, ei⟩ := List.getElem_of_mem hx
      have hlt := ((h.ns.kid i x (by rw [List.getElem?_eq_getElem hi, ei])).lt k hxk).2
      refine fresh k hlt ?_ e.symm
      rcases h.fo x hx with e2 | e2
      · rw [hxk] at e2; cases e2
      · rw [hxk] at e2; exact Ne.symm e2
end Go.Proofs.YtgjlnimnnllejaaGreatDoor
