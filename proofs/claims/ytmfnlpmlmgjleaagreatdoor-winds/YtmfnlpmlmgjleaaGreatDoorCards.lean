/-
  DERIVED. GIVEN WITH THE SEED: THE CARDS: each row of YtmfnlpmlmgjleaaGreatDoorRows.lean that lists a variable, with what it lists TIED to the program's text (the seventh form; the later family's looks); each row that meets fmt, with fmt's text TOLD by the authors' own Lean function (tested against real Go, not proved from fmt's source: count such statements apart). THE CARD IS WHAT COUNTS. Prove the row's statement (the work); the ties are given (YtmfnlpmlmgjleaaGreatDoorTie.lean); close each card by the builder's one call (the guide's Derived/Test/ToyasCard.lean, 'card_holds'). Laid BY PROGRAM, IN A SANDBOX (cutbox-door.mjs). By AI agents, Wed Nov 11 2026. No macro, syntax, notation, axiom, sorry.
-/
import Derived.Test.YtmfnlpmlmgjleaaGreatDoorRows
import GoSem.ClaimSeven
namespace Go.Proofs.YtmfnlpmlmgjleaaGreatDoor
namespace Rows

/-- THE TIED CARD OF 'mendlaw.Prints'. -/
def printsCard : Claim7 := { stood := { row := printsRow, standIns := [], harness := (true, "cf85b2543797fb3c6952134732591dfea1366647f2ec36807dc78f9ac3c1c91e"), looks := true }, kinds := [], alts := [], laidByText := true, laidKinds := [.data, .data, .data, .sentinel, .sentinel], laidTests := true, laidLooks := .later }
def PrintsCardSaid : Prop := Claim7.holds Tryz.pinned (.plain (OpenSpec.ofChange printsSpec)) printsCard

/-- THE TIED CARD OF 'mendlaw.Winds'. -/
def windsCard : Claim7 := { stood := { row := windsRow, standIns := [], harness := (true, "cf85b2543797fb3c6952134732591dfea1366647f2ec36807dc78f9ac3c1c91e"), looks := true }, kinds := [], alts := [], laidByText := true, laidKinds := [.data, .data, .data, .sentinel, .sentinel], laidTests := true, laidLooks := .later }
def WindsCardSaid : Prop := Claim7.holds Tryz.pinned (.plain (OpenSpec.ofChange windsSpec)) windsCard

/-- THE TIED CARD OF 'mendlaw.Nodded'. -/
def noddedCard : Claim7 := { stood := { row := noddedRow, standIns := [], harness := (true, "cf85b2543797fb3c6952134732591dfea1366647f2ec36807dc78f9ac3c1c91e"), looks := true }, kinds := [], alts := [], laidByText := true, laidKinds := [.data, .data, .data, .sentinel, .sentinel], laidTests := true, laidLooks := .later }
def NoddedCardSaid : Prop := Claim7.holds Tryz.pinned (.plain (OpenSpec.ofChange noddedSpec)) noddedCard

/-- THE SECOND FORM's CARD OF 'mendlaw.Prints'. -/
def printsUptoCard : Claim7 := { stood := { row := printsUptoRow, standIns := [], harness := (true, "cf85b2543797fb3c6952134732591dfea1366647f2ec36807dc78f9ac3c1c91e"), looks := true }, kinds := [], alts := [], laidByText := true, laidKinds := [.data, .data, .data, .sentinel, .sentinel], laidTests := true, laidLooks := .later }
def PrintsUptoCardSaid : Prop := Claim7.holds Tryz.pinned (.plain (OpenSpec.upto printsSpec)) printsUptoCard

/-- THE SECOND FORM's CARD OF 'mendlaw.Winds'. -/
def windsUptoCard : Claim7 := { stood := { row := windsUptoRow, standIns := [], harness := (true, "cf85b2543797fb3c6952134732591dfea1366647f2ec36807dc78f9ac3c1c91e"), looks := true }, kinds := [], alts := [], laidByText := true, laidKinds := [.data, .data, .data, .sentinel, .sentinel], laidTests := true, laidLooks := .later }
def WindsUptoCardSaid : Prop := Claim7.holds Tryz.pinned (.plain (OpenSpec.upto windsSpec)) windsUptoCard

/-- THE SECOND FORM's CARD OF 'mendlaw.Nodded'. -/
def noddedUptoCard : Claim7 := { stood := { row := noddedUptoRow, standIns := [], harness := (true, "cf85b2543797fb3c6952134732591dfea1366647f2ec36807dc78f9ac3c1c91e"), looks := true }, kinds := [], alts := [], laidByText := true, laidKinds := [.data, .data, .data, .sentinel, .sentinel], laidTests := true, laidLooks := .later }
def NoddedUptoCardSaid : Prop := Claim7.holds Tryz.pinned (.plain (OpenSpec.upto noddedSpec)) noddedUptoCard
end Rows
end Go.Proofs.YtmfnlpmlmgjleaaGreatDoor
