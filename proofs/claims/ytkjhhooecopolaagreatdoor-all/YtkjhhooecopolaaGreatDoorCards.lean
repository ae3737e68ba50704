/-
  DERIVED. GIVEN WITH THE SEED: THE CARDS: each row of YtkjhhooecopolaaGreatDoorRows.lean that lists a variable, with what it lists TIED to the program's text (the seventh form; the later family's looks); each row that meets fmt, with fmt's text TOLD by the authors' own Lean function (tested against real Go, not proved from fmt's source: count such statements apart). THE CARD IS WHAT COUNTS. Prove the row's statement (the work); the ties are given (YtkjhhooecopolaaGreatDoorTie.lean); close each card by the builder's one call (the guide's Derived/Test/ToyasCard.lean, 'card_holds'). Laid BY PROGRAM, IN A SANDBOX (cutbox-door.mjs). By AI agents, Wed Nov 11 2026. No macro, syntax, notation, axiom, sorry.
-/
import Derived.Test.YtkjhhooecopolaaGreatDoorRows
import GoSem.ClaimSeven
namespace Go.Proofs.YtkjhhooecopolaaGreatDoor
namespace Rows

/-- THE TIED CARD OF 'mendlaw.Prints'. -/
def printsCard : Claim7 := { stood := { row := printsRow, standIns := [], harness := (true, "46972af46c09d73a434a5abba2381c67e0f1c614a7c94872b10065dedddb064f"), looks := true }, kinds := [], alts := [], laidByText := true, laidKinds := [.data, .data, .data, .sentinel, .sentinel], laidTests := true, laidLooks := .later }
def PrintsCardSaid : Prop := Claim7.holds Tryz.pinned (.plain (OpenSpec.ofChange printsSpec)) printsCard

/-- THE TIED CARD OF 'mendlaw.Winds'. -/
def windsCard : Claim7 := { stood := { row := windsRow, standIns := [], harness := (true, "46972af46c09d73a434a5abba2381c67e0f1c614a7c94872b10065dedddb064f"), looks := true }, kinds := [], alts := [], laidByText := true, laidKinds := [.data, .data, .data, .sentinel, .sentinel], laidTests := true, laidLooks := .later }
def WindsCardSaid : Prop := Claim7.holds Tryz.pinned (.plain (OpenSpec.ofChange windsSpec)) windsCard

/-- THE TIED CARD OF 'mendlaw.Nodded'. -/
def noddedCard : Claim7 := { stood := { row := noddedRow, standIns := [], harness := (true, "46972af46c09d73a434a5abba2381c67e0f1c614a7c94872b10065dedddb064f"), looks := true }, kinds := [], alts := [], laidByText := true, laidKinds := [.data, .data, .data, .sentinel, .sentinel], laidTests := true, laidLooks := .later }
def NoddedCardSaid : Prop := Claim7.holds Tryz.pinned (.plain (OpenSpec.ofChange noddedSpec)) noddedCard

/-- THE TIED CARD OF 'mendlaw.Mirror'. -/
def mirrorCard : Claim7 := { stood := { row := mirrorRow, standIns := [], harness := (true, "46972af46c09d73a434a5abba2381c67e0f1c614a7c94872b10065dedddb064f"), looks := true }, kinds := [], alts := [], laidByText := true, laidKinds := [.data, .data, .data, .sentinel, .sentinel], laidTests := true, laidLooks := .later }
def MirrorCardSaid : Prop := Claim7.holds Tryz.pinned (.plain (OpenSpec.ofChange mirrorSpec)) mirrorCard

/-- THE TIED CARD OF 'mendlaw.Again'. -/
def againCard : Claim7 := { stood := { row := againRow, standIns := [], harness := (true, "46972af46c09d73a434a5abba2381c67e0f1c614a7c94872b10065dedddb064f"), looks := true }, kinds := [], alts := [], laidByText := true, laidKinds := [.data, .data, .data, .sentinel, .sentinel], laidTests := true, laidLooks := .later }
def AgainCardSaid : Prop := Claim7.holds Tryz.pinned (.plain (OpenSpec.ofChange againSpec)) againCard

/-- THE TIED CARD OF 'mendlaw.Fixes'. -/
def fixesCard : Claim7 := { stood := { row := fixesRow, standIns := [], harness := (true, "46972af46c09d73a434a5abba2381c67e0f1c614a7c94872b10065dedddb064f"), looks := true }, kinds := [], alts := [], laidByText := true, laidKinds := [.data, .data, .data, .sentinel, .sentinel], laidTests := true, laidLooks := .later }
def FixesCardSaid : Prop := Claim7.holds Tryz.pinned (.plain (OpenSpec.ofChange fixesSpec)) fixesCard

/-- THE TIED CARD OF 'mendlaw.Region'. -/
def regionCard : Claim7 := { stood := { row := regionRow, standIns := [], harness := (true, "46972af46c09d73a434a5abba2381c67e0f1c614a7c94872b10065dedddb064f"), looks := true }, kinds := [], alts := [], laidByText := true, laidKinds := [.data, .data, .data, .sentinel, .sentinel], laidTests := true, laidLooks := .later }
def RegionCardSaid : Prop := Claim7.holds Tryz.pinned (.plain (OpenSpec.ofChange regionSpec)) regionCard

/-- THE TIED CARD OF 'mendlaw.Sound'. -/
def soundCard : Claim7 := { stood := { row := soundRow, standIns := [], harness := (true, "46972af46c09d73a434a5abba2381c67e0f1c614a7c94872b10065dedddb064f"), looks := true }, kinds := [], alts := [], laidByText := true, laidKinds := [.data, .data, .data, .sentinel, .sentinel], laidTests := true, laidLooks := .later }
def SoundCardSaid : Prop := Claim7.holds Tryz.pinned (.plain (OpenSpec.ofChange soundSpec)) soundCard

/-- THE TIED CARD OF 'mendlaw.Back'. -/
def backCard : Claim7 := { stood := { row := backRow, standIns := [], harness := (true, "46972af46c09d73a434a5abba2381c67e0f1c614a7c94872b10065dedddb064f"), looks := true }, kinds := [], alts := [], laidByText := true, laidKinds := [.data, .data, .data, .sentinel, .sentinel], laidTests := true, laidLooks := .later }
def BackCardSaid : Prop := Claim7.holds Tryz.pinned (.plain (OpenSpec.ofChange backSpec)) backCard

/-- THE TIED CARD OF 'mendlaw.All'. -/
def allCard : Claim7 := { stood := { row := allRow, standIns := [], harness := (true, "46972af46c09d73a434a5abba2381c67e0f1c614a7c94872b10065dedddb064f"), looks := true }, kinds := [], alts := [], laidByText := true, laidKinds := [.data, .data, .data, .sentinel, .sentinel], laidTests := true, laidLooks := .later }
def AllCardSaid : Prop := Claim7.holds Tryz.pinned (.plain (OpenSpec.ofChange allSpec)) allCard

/-- THE SECOND FORM's CARD OF 'mendlaw.Prints'. -/
def printsUptoCard : Claim7 := { stood := { row := printsUptoRow, standIns := [], harness := (true, "46972af46c09d73a434a5abba2381c67e0f1c614a7c94872b10065dedddb064f"), looks := true }, kinds := [], alts := [], laidByText := true, laidKinds := [.data, .data, .data, .sentinel, .sentinel], laidTests := true, laidLooks := .later }
def PrintsUptoCardSaid : Prop := Claim7.holds Tryz.pinned (.plain (OpenSpec.upto printsSpec)) printsUptoCard

/-- THE SECOND FORM's CARD OF 'mendlaw.Winds'. -/
def windsUptoCard : Claim7 := { stood := { row := windsUptoRow, standIns := [], harness := (true, "46972af46c09d73a434a5abba2381c67e0f1c614a7c94872b10065dedddb064f"), looks := true }, kinds := [], alts := [], laidByText := true, laidKinds := [.data, .data, .data, .sentinel, .sentinel], laidTests := true, laidLooks := .later }
def WindsUptoCardSaid : Prop := Claim7.holds Tryz.pinned (.plain (OpenSpec.upto windsSpec)) windsUptoCard

/-- THE SECOND FORM's CARD OF 'mendlaw.Nodded'. -/
def noddedUptoCard : Claim7 := { stood := { row := noddedUptoRow, standIns := [], harness := (true, "46972af46c09d73a434a5abba2381c67e0f1c614a7c94872b10065dedddb064f"), looks := true }, kinds := [], alts := [], laidByText := true, laidKinds := [.data, .data, .data, .sentinel, .sentinel], laidTests := true, laidLooks := .later }
def NoddedUptoCardSaid : Prop := Claim7.holds Tryz.pinned (.plain (OpenSpec.upto noddedSpec)) noddedUptoCard

/-- THE SECOND FORM's CARD OF 'mendlaw.Mirror'. -/
def mirrorUptoCard : Claim7 := { stood := { row := mirrorUptoRow, standIns := [], harness := (true, "46972af46c09d73a434a5abba2381c67e0f1c614a7c94872b10065dedddb064f"), looks := true }, kinds := [], alts := [], laidByText := true, laidKinds := [.data, .data, .data, .sentinel, .sentinel], laidTests := true, laidLooks := .later }
def MirrorUptoCardSaid : Prop := Claim7.holds Tryz.pinned (.plain (OpenSpec.upto mirrorSpec)) mirrorUptoCard

/-- THE SECOND FORM's CARD OF 'mendlaw.Again'. -/
def againUptoCard : Claim7 := { stood := { row := againUptoRow, standIns := [], harness := (true, "46972af46c09d73a434a5abba2381c67e0f1c614a7c94872b10065dedddb064f"), looks := true }, kinds := [], alts := [], laidByText := true, laidKinds := [.data, .data, .data, .sentinel, .sentinel], laidTests := true, laidLooks := .later }
def AgainUptoCardSaid : Prop := Claim7.holds Tryz.pinned (.plain (OpenSpec.upto againSpec)) againUptoCard

/-- THE SECOND FORM's CARD OF 'mendlaw.Fixes'. -/
def fixesUptoCard : Claim7 := { stood := { row := fixesUptoRow, standIns := [], harness := (true, "46972af46c09d73a434a5abba2381c67e0f1c614a7c94872b10065dedddb064f"), looks := true }, kinds := [], alts := [], laidByText := true, laidKinds := [.data, .data, .data, .sentinel, .sentinel], laidTests := true, laidLooks := .later }
def FixesUptoCardSaid : Prop := Claim7.holds Tryz.pinned (.plain (OpenSpec.upto fixesSpec)) fixesUptoCard

/-- THE SECOND FORM's CARD OF 'mendlaw.Region'. -/
def regionUptoCard : Claim7 := { stood := { row := regionUptoRow, standIns := [], harness := (true, "46972af46c09d73a434a5abba2381c67e0f1c614a7c94872b10065dedddb064f"), looks := true }, kinds := [], alts := [], laidByText := true, laidKinds := [.data, .data, .data, .sentinel, .sentinel], laidTests := true, laidLooks := .later }
def RegionUptoCardSaid : Prop := Claim7.holds Tryz.pinned (.plain (OpenSpec.upto regionSpec)) regionUptoCard

/-- THE SECOND FORM's CARD OF 'mendlaw.Sound'. -/
def soundUptoCard : Claim7 := { stood := { row := soundUptoRow, standIns := [], harness := (true, "46972af46c09d73a434a5abba2381c67e0f1c614a7c94872b10065dedddb064f"), looks := true }, kinds := [], alts := [], laidByText := true, laidKinds := [.data, .data, .data, .sentinel, .sentinel], laidTests := true, laidLooks := .later }
def SoundUptoCardSaid : Prop := Claim7.holds Tryz.pinned (.plain (OpenSpec.upto soundSpec)) soundUptoCard

/-- THE SECOND FORM's CARD OF 'mendlaw.Back'. -/
def backUptoCard : Claim7 := { stood := { row := backUptoRow, standIns := [], harness := (true, "46972af46c09d73a434a5abba2381c67e0f1c614a7c94872b10065dedddb064f"), looks := true }, kinds := [], alts := [], laidByText := true, laidKinds := [.data, .data, .data, .sentinel, .sentinel], laidTests := true, laidLooks := .later }
def BackUptoCardSaid : Prop := Claim7.holds Tryz.pinned (.plain (OpenSpec.upto backSpec)) backUptoCard

/-- THE SECOND FORM's CARD OF 'mendlaw.All'. -/
def allUptoCard : Claim7 := { stood := { row := allUptoRow, standIns := [], harness := (true, "46972af46c09d73a434a5abba2381c67e0f1c614a7c94872b10065dedddb064f"), looks := true }, kinds := [], alts := [], laidByText := true, laidKinds := [.data, .data, .data, .sentinel, .sentinel], laidTests := true, laidLooks := .later }
def AllUptoCardSaid : Prop := Claim7.holds Tryz.pinned (.plain (OpenSpec.upto allSpec)) allUptoCard
end Rows
end Go.Proofs.YtkjhhooecopolaaGreatDoor
