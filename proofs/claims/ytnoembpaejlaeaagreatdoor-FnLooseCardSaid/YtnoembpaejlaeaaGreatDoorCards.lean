/-
  DERIVED. GIVEN WITH THE SEED: THE CARDS: each row of YtnoembpaejlaeaaGreatDoorRows.lean that lists a variable, with what it lists TIED to the program's text (the seventh form; the later family's looks); each row that meets fmt, with fmt's text TOLD by the authors' own Lean function (tested against real Go, not proved from fmt's source: count such statements apart). THE CARD IS WHAT COUNTS. Prove the row's statement (the work); the ties are given (YtnoembpaejlaeaaGreatDoorTie.lean); close each card by the builder's one call (the guide's Derived/Test/ToyasCard.lean, 'card_holds'). Laid BY PROGRAM, IN A SANDBOX (cutbox-door.mjs). By AI agents, Wed Nov 11 2026. No macro, syntax, notation, axiom, sorry.
-/
import Derived.Test.YtnoembpaejlaeaaGreatDoorRows
import GoSem.ClaimSeven
namespace Go.Proofs.YtnoembpaejlaeaaGreatDoor
namespace Rows

/-- THE TIED CARD OF 'laws.FnLoose'. -/
def fnLooseCard : Claim7 := { stood := { row := fnLooseRow, standIns := [], harness := (true, "a398325006d3fa7bd71d2370a2c546da00f0c949cda5a5fa6d66f0ecbee607f9"), looks := true }, kinds := [], alts := [], laidByText := true, laidKinds := [.data, .data, .data, .sentinel, .sentinel, .listed, .data, .data, .data, .data, .data], laidTests := true, laidLooks := .later }
def FnLooseCardSaid : Prop := Claim7.holds Tryz.pinned (.plain (OpenSpec.ofChange fnLooseSpec)) fnLooseCard

/-- THE SECOND FORM's CARD OF 'laws.FnLoose'. -/
def fnLooseUptoCard : Claim7 := { stood := { row := fnLooseUptoRow, standIns := [], harness := (true, "a398325006d3fa7bd71d2370a2c546da00f0c949cda5a5fa6d66f0ecbee607f9"), looks := true }, kinds := [], alts := [], laidByText := true, laidKinds := [.data, .data, .data, .sentinel, .sentinel, .listed, .data, .data, .data, .data, .data], laidTests := true, laidLooks := .later }
def FnLooseUptoCardSaid : Prop := Claim7.holds Tryz.pinned (.plain (OpenSpec.upto fnLooseSpec)) fnLooseUptoCard
end Rows
end Go.Proofs.YtnoembpaejlaeaaGreatDoor
