import Derived.Test.YtlmkmihbbnjngaaDoorTFmt
namespace Go.Proofs.YtlmkmihbbnjngaaDoor
open Go.RowKit Go.Maps Go.WideMaps
set_option linter.unusedVariables false

def ints (d : List UInt8) : List Int := d.map fun b => (b.toNat : Int)
theorem strI_ints (d : List UInt8) : strI (ints d) = ⟨d.toArray⟩ := by
  have key : ∀ (d : List UInt8) (x : ByteArray), (ints d).foldl (fun r n => r.push (UInt8.ofNat n.toNat)) x = ⟨x.data ++ d.toArray⟩ := by
    intro d
    induction d with
    | nil => intro x; simp [ints]
    | cons a r ih =>
      intro x
      show (ints r).foldl _ (x.push (UInt8.ofNat ((a.toNat : Int)).toNat)) = _
      rw [ih]
      have e : UInt8.ofNat ((a.toNat : Int)).toNat = a := by simp
      rw [e]
      simp [ByteArray.push]
  have := key d ByteArray.empty
  unfold strI
  rw [this]
  simp
def pre (c : Nat) : List Int := if c = 0 then [] else ints (Lib.decDigits c)
theorem pre_step (c : Nat) (h : c ≠ 0) : pre c = pre (c / 10) ++ [48 + ((c % 10 : Nat) : Int)] := by
  have h8 : ∀ k, k < 10 → (((UInt8.ofNat (48 + k)).toNat : Nat) : Int) = 48 + (k : Int) := fun k hk => by
    rw [UInt8.toNat_ofNat', Nat.mod_eq_of_lt (by omega)]; omega
  unfold pre
  rw [if_neg h]
  by_cases h10 : c < 10
  · rw [if_pos (by omega), Lib.decDigits, dif_pos h10, Nat.mod_eq_of_lt h10]
    show [(((UInt8.ofNat (48 + c)).toNat : Nat) : Int)] = _
    rw [h8 c h10]; rfl
  · rw [if_neg (by omega), Lib.decDigits, dif_neg h10]
    show List.map _ (_ ++ _) = _
    rw [List.map_append]
    show ints (Lib.decDigits (c / 10)) ++ [(((UInt8.ofNat (48 + c % 10)).toNat : Nat) : Int)] = _
    rw [h8 _ (by omega)]

end Go.Proofs.YtlmkmihbbnjngaaDoor
