/-
  DERIVED. GIVEN WITH THE SEED: THE CARDS: each row of YtiaechpcebhcdaaGreatDoorRows.lean that lists a variable, with what it lists TIED to the program's text (the seventh form; the later family's looks); each row that meets fmt, with fmt's text TOLD by the authors' own Lean function (tested against real Go, not proved from fmt's source: count such statements apart). THE CARD IS WHAT COUNTS. Prove the row's statement (the work); the ties are given (YtiaechpcebhcdaaGreatDoorTie.lean); close each card by the builder's one call (the guide's Derived/Test/ToyasCard.lean, 'card_holds'). Laid BY PROGRAM, IN A SANDBOX (cutbox-door.mjs). By AI agents, Wed Nov 11 2026. No macro, syntax, notation, axiom, sorry.
-/
import Derived.Test.YtiaechpcebhcdaaGreatDoorRows
import GoSem.ClaimSeven
namespace Go.Proofs.YtiaechpcebhcdaaGreatDoor
namespace Rows

/-- THE TIED CARD OF 'laws.FnViable'. -/
def fnViableCard : Claim7 := { stood := { row := fnViableRow, standIns := [], harness := (true, "d4c3b3b0316eb9a005d02f75a7c8e8e634b1d6adf41913ea5b137301107b9a72"), looks := true }, kinds := [], alts := [], laidByText := true, laidKinds := [.data, .data, .data, .sentinel, .sentinel, .listed, .data, .data, .data, .data, .data], laidTests := true, laidLooks := .later }
def FnViableCardSaid : Prop := Claim7.holds Tryz.pinned (.plain (OpenSpec.ofChange fnViableSpec)) fnViableCard

/-- THE SECOND FORM's CARD OF 'laws.FnViable'. -/
def fnViableUptoCard : Claim7 := { stood := { row := fnViableUptoRow, standIns := [], harness := (true, "d4c3b3b0316eb9a005d02f75a7c8e8e634b1d6adf41913ea5b137301107b9a72"), looks := true }, kinds := [], alts := [], laidByText := true, laidKinds := [.data, .data, .data, .sentinel, .sentinel, .listed, .data, .data, .data, .data, .data], laidTests := true, laidLooks := .later }
def FnViableUptoCardSaid : Prop := Claim7.holds Tryz.pinned (.plain (OpenSpec.upto fnViableSpec)) fnViableUptoCard
end Rows
end Go.Proofs.YtiaechpcebhcdaaGreatDoor
