import Derived.Test.YtkjhhooecopolaaGreatDoorJf
namespace Go.Proofs.YtkjhhooecopolaaGreatDoor
open Go.ChangeShapes Go.WideShapes Go.ChangeAt Go.RowKit

theorem jf_prints_in : (Rows.printsRow.inPlace == Tryz.prog.inPlace 3) = true := by kernel_rfl
theorem jf_prints_un : (Rows.printsRow.unfollowed == Tryz.prog.unfollowed 3) = true := by kernel_rfl
theorem jf_prints_re : (Rows.printsRow.recurses == Tryz.prog.recurses 3) = true := by kernel_rfl
theorem jf_prints_na : (Rows.printsRow.named == Tryz.prog.varsNamed 3) = true := by kernel_rfl
theorem jf_prints_li : (Rows.printsRow.lifted == Tryz.prog.liftsFinal) = true := by kernel_rfl
theorem jf_prints_pk : (Rows.printsRow.plainKeys == Tryz.prog.plainKeys) = true := by kernel_rfl
theorem jf_prints_go : false = Rows.printsRow.goesBy Tryz.prog := by kernel_rfl
theorem jf_prints : joinedFacts Tryz.prog 3 Tryz.f3 Rows.printsSpec Rows.printsRow = true := by
  unfold joinedFacts
  simp only [laidOut, jf_maps, jf_heard, jf_enter, jf_prints_in, jf_prints_un, jf_prints_re, jf_prints_na, jf_prints_li, jf_prints_pk, Bool.and_true]
  kernel_rfl

end Go.Proofs.YtkjhhooecopolaaGreatDoor
