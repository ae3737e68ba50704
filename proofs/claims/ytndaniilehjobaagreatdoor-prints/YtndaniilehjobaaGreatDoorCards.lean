/-
  DERIVED. GIVEN WITH THE SEED: THE CARDS: each row of YtndaniilehjobaaGreatDoorRows.lean that lists a variable, with what it lists TIED to the program's text (the seventh form; the later family's looks); each row that meets fmt, with fmt's text TOLD by the authors' own Lean function (tested against real Go, not proved from fmt's source: count such statements apart). THE CARD IS WHAT COUNTS. Prove the row's statement (the work); the ties are given (YtndaniilehjobaaGreatDoorTie.lean); close each card by the builder's one call (the guide's Derived/Test/ToyasCard.lean, 'card_holds'). Laid BY PROGRAM, IN A SANDBOX (cutbox-door.mjs). By AI agents, Wed Nov 11 2026. No macro, syntax, notation, axiom, sorry.
-/
import Derived.Test.YtndaniilehjobaaGreatDoorRows
import GoSem.ClaimSeven
namespace Go.Proofs.YtndaniilehjobaaGreatDoor
namespace Rows

/-- THE TIED CARD OF 'mendlaw.Prints'. -/
def printsCard : Claim7 := { stood := { row := printsRow, standIns := [], harness := (true, "68fe48a5a2cacb32034fbe97d6018196a6e106da63c77e7fc83fd24b070182a1"), looks := true }, kinds := [], alts := [], laidByText := true, laidKinds := [.data, .data, .data, .sentinel, .sentinel], laidTests := true, laidLooks := .later }
def PrintsCardSaid : Prop := Claim7.holds Tryz.pinned (.plain (OpenSpec.ofChange printsSpec)) printsCard

/-- THE TIED CARD OF 'mendlaw.Winds'. -/
def windsCard : Claim7 := { stood := { row := windsRow, standIns := [], harness := (true, "68fe48a5a2cacb32034fbe97d6018196a6e106da63c77e7fc83fd24b070182a1"), looks := true }, kinds := [], alts := [], laidByText := true, laidKinds := [.data, .data, .data, .sentinel, .sentinel], laidTests := true, laidLooks := .later }
def WindsCardSaid : Prop := Claim7.holds Tryz.pinned (.plain (OpenSpec.ofChange windsSpec)) windsCard

/-- THE SECOND FORM's CARD OF 'mendlaw.Prints'. -/
def printsUptoCard : Claim7 := { stood := { row := printsUptoRow, standIns := [], harness := (true, "68fe48a5a2cacb32034fbe97d6018196a6e106da63c77e7fc83fd24b070182a1"), looks := true }, kinds := [], alts := [], laidByText := true, laidKinds := [.data, .data, .data, .sentinel, .sentinel], laidTests := true, laidLooks := .later }
def PrintsUptoCardSaid : Prop := Claim7.holds Tryz.pinned (.plain (OpenSpec.upto printsSpec)) printsUptoCard

/-- THE SECOND FORM's CARD OF 'mendlaw.Winds'. -/
def windsUptoCard : Claim7 := { stood := { row := windsUptoRow, standIns := [], harness := (true, "68fe48a5a2cacb32034fbe97d6018196a6e106da63c77e7fc83fd24b070182a1"), looks := true }, kinds := [], alts := [], laidByText := true, laidKinds := [.data, .data, .data, .sentinel, .sentinel], laidTests := true, laidLooks := .later }
def WindsUptoCardSaid : Prop := Claim7.holds Tryz.pinned (.plain (OpenSpec.upto windsSpec)) windsUptoCard
end Rows
end Go.Proofs.YtndaniilehjobaaGreatDoor
