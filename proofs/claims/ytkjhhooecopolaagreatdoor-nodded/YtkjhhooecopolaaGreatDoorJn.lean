import Derived.Test.YtkjhhooecopolaaGreatDoorJf
namespace Go.Proofs.YtkjhhooecopolaaGreatDoor
open Go.ChangeShapes Go.WideShapes Go.ChangeAt Go.RowKit

theorem jf_nodded_in : (Rows.noddedRow.inPlace == Tryz.prog.inPlace 5) = true := by kernel_rfl
theorem jf_nodded_un : (Rows.noddedRow.unfollowed == Tryz.prog.unfollowed 5) = true := by kernel_rfl
theorem jf_nodded_re : (Rows.noddedRow.recurses == Tryz.prog.recurses 5) = true := by kernel_rfl
theorem jf_nodded_na : (Rows.noddedRow.named == Tryz.prog.varsNamed 5) = true := by kernel_rfl
theorem jf_nodded_li : (Rows.noddedRow.lifted == Tryz.prog.liftsFinal) = true := by kernel_rfl
theorem jf_nodded_pk : (Rows.noddedRow.plainKeys == Tryz.prog.plainKeys) = true := by kernel_rfl
theorem jf_nodded_go : false = Rows.noddedRow.goesBy Tryz.prog := by kernel_rfl
theorem jf_nodded : joinedFacts Tryz.prog 5 Tryz.f5 Rows.noddedSpec Rows.noddedRow = true := by
  unfold joinedFacts
  simp only [laidOut, jf_maps, jf_heard, jf_enter, jf_nodded_in, jf_nodded_un, jf_nodded_re, jf_nodded_na, jf_nodded_li, jf_nodded_pk, Bool.and_true]
  kernel_rfl

end Go.Proofs.YtkjhhooecopolaaGreatDoor
