import Derived.Test.YtkjhhooecopolaaGreatDoorKj39
import Derived.Test.YtkjhhooecopolaaGreatDoorRows
import Derived.Test.YtkjhhooecopolaaGreatDoorJf
import Derived.ProofKit
import Derived.LaidMore
import Derived.OpenShut
import Derived.Stop.Joined
import Derived.Stop.LaidErr
import Derived.Lib.LaidTab
namespace Go.Proofs.YtkjhhooecopolaaGreatDoor
open Go.ChangeShapes Go.WideShapes Go.ChangeAt Go.RowKit Go.Deep

theorem gSyn : Tryz.prog.globalNamed "strconv.ErrSyntax" = some 0 := by kernel_rfl
theorem gRan : Tryz.prog.globalNamed "strconv.ErrRange" = some 1 := by kernel_rfl
theorem gPow : Tryz.prog.globalNamed "internal/strconv.uint64pow10" = some 3 := by kernel_rfl
theorem gB32 : Tryz.prog.globalNamed "math/bits.deBruijn32tab" = some 4 := by kernel_rfl
theorem gB64 : Tryz.prog.globalNamed "math/bits.deBruijn64tab" = some 5 := by kernel_rfl
theorem tSyn : (Tryz.prog.globals[0]?).map (·.type) = some 199 := by kernel_rfl
theorem tRan : (Tryz.prog.globals[1]?).map (·.type) = some 199 := by kernel_rfl
theorem tPow : (Tryz.prog.globals[3]?).map (·.type) = some 356 := by kernel_rfl
theorem starE : "*" ++ "errors.errorString" = "*errors.errorString" := by decide
theorem rowE (u : TypeId) (h : Tryz.prog.typeName? 3 u = some "*errors.errorString") : u = 359 :=
  typeName_ptr_named (nm := "errors.errorString") (by rw [starE]; kernel_rfl) (by kernel_rfl) (by decide) u (by rw [starE]; exact h)
theorem cellsE : Tryz.prog.cellsOf 361 = 1 := by kernel_rfl
theorem cellsU : Tryz.prog.cellsOf 282 = 1 := by kernel_rfl
theorem cellsP : Tryz.prog.cellsOf 356 = 20 := by kernel_rfl

theorem lt_of_var {W : World} {n : String} {g : Nat} {cs : Array Value} (hg : Tryz.prog.globalNamed n = some g) (hv : W.var? Tryz.prog n = some cs) : g < W.heap.size := by
  simp only [World.var?, hg, Option.bind_some] at hv
  split at hv
  · rename_i h; exact lt_of_heap h
  · cases hv

/-- What the listed variables give the walks. -/
theorem gl_of_laid {W : World} (h : laidMetH Tryz.prog Rows.printsRow.laid W) : Gl W := by
  rw [MakeChecks.laidMetH_plain _ _ _ (by kernel_rfl)] at h
  have h1 := h.tail
  have h2 := h1.tail
  have h3 := h2.tail
  have h4 := h3.tail
  obtain ⟨a0, sa, hva, _, _, _⟩ := laid_sentinel h3 gRan tRan Tryz.underlying199 rowE Tryz.underlying359 Tryz.underlying361 rfl rfl Tryz.underlying9 cellsE Tryz.strCells
  obtain ⟨b0, sb, hvb, _, _, _⟩ := laid_sentinel h4 gSyn tSyn Tryz.underlying199 rowE Tryz.underlying359 Tryz.underlying361 rfl rfl Tryz.underlying9 cellsE Tryz.strCells
  refine ⟨?_, ⟨_, _, hvb⟩, ⟨_, _, hva⟩, ?_⟩
  · obtain ⟨ps, ⟨g0, t0, cs0, f0, p0, q0, hg0, ht0, hv0, hd0, _⟩, _, _⟩ := h1
    obtain ⟨ps', ⟨g1, t1, cs1, f1, p1, q1, hg1, ht1, hv1, hd1, _⟩, _, _⟩ := h
    obtain ⟨ps'', ⟨g2, t2, cs2, f2, p2, q2, hg2, ht2, hv2, hd2, _⟩, _, _⟩ := h2
    have i0 := lt_of_var gB64 hv0
    have i1 := lt_of_var gB32 hv1
    have i2 := lt_of_var gPow hv2
    have i3 := lt_of_var gRan hva
    have i4 := lt_of_var gSyn hvb
    omega
  · exact Lib.tabIs_of_head (k := .u64) (zs := Lib.pow10Tab) gPow tPow Tryz.underlying356 Tryz.underlying282 cellsU cellsP h2

/-- The door's own heap meets the condition. -/
theorem door_met (os : Os) (args : Array Value) : laidMetH Tryz.prog Rows.printsRow.laid ((World.doorLaid Tryz.prog 400 os).forCall (fun _ _ => 0) ⟨#[], args, []⟩).memory :=
  laidMetH_of_parts3 (fuel := 8) (laidMet_of_run' 8 (by kernel_rfl) (by kernel_rfl)) (by kernel_rfl) (by kernel_rfl)

end Go.Proofs.YtkjhhooecopolaaGreatDoor
