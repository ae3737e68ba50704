import Derived.Test.YtkjhhooecopolaaGreatDoorJf
namespace Go.Proofs.YtkjhhooecopolaaGreatDoor
open Go.ChangeShapes Go.WideShapes Go.ChangeAt Go.RowKit

theorem jf_winds_in : (Rows.windsRow.inPlace == Tryz.prog.inPlace 4) = true := by kernel_rfl
theorem jf_winds_un : (Rows.windsRow.unfollowed == Tryz.prog.unfollowed 4) = true := by kernel_rfl
theorem jf_winds_re : (Rows.windsRow.recurses == Tryz.prog.recurses 4) = true := by kernel_rfl
theorem jf_winds_na : (Rows.windsRow.named == Tryz.prog.varsNamed 4) = true := by kernel_rfl
theorem jf_winds_li : (Rows.windsRow.lifted == Tryz.prog.liftsFinal) = true := by kernel_rfl
theorem jf_winds_pk : (Rows.windsRow.plainKeys == Tryz.prog.plainKeys) = true := by kernel_rfl
theorem jf_winds_go : false = Rows.windsRow.goesBy Tryz.prog := by kernel_rfl
theorem jf_winds : joinedFacts Tryz.prog 4 Tryz.f4 Rows.windsSpec Rows.windsRow = true := by
  unfold joinedFacts
  simp only [laidOut, jf_maps, jf_heard, jf_enter, jf_winds_in, jf_winds_un, jf_winds_re, jf_winds_na, jf_winds_li, jf_winds_pk, Bool.and_true]
  kernel_rfl

end Go.Proofs.YtkjhhooecopolaaGreatDoor
