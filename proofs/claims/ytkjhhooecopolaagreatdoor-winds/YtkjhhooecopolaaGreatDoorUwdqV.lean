import Derived.Test.YtkjhhooecopolaaGreatDoorUwcqV
import Derived.Test.YtkjhhooecopolaaGreatDoorCards
import Derived.Test.YtkjhhooecopolaaGreatDoorTie
import Derived.SevenTiedAt
namespace Go.Proofs.YtkjhhooecopolaaGreatDoor

theorem winds_card : Rows.WindsCardSaid :=
  Claim7.holds_tied_plain_at .later [] [.data, .data, .data, .sentinel, .sentinel] true Rows.windsCard.stood.harness true
    winds_holds (fun _ h => by cases h) (by kernel_rfl) (fun _ h => by cases h) winds_row_tie rfl ⟨rfl, rfl⟩ (by kernel_rfl) rfl
    (fun f fn hf hfn => by
      obtain rfl : f = 4 := Option.some.inj ((show Tryz.prog.funcNamed "mend/mendlaw.Winds" = some 4 by kernel_rfl).symm.trans hf) |>.symm
      obtain rfl : fn = Tryz.f4 := (Option.some.inj (Tryz.func4.symm.trans hfn)).symm
      exact ⟨jf_looks, fun j t ht => by
        rw [Tryz.params4] at ht
        have h3 : t = 22 := by
          rcases j with _ | j
          · simpa using ht.symm
          · simp at ht
        subst h3
        exact (show Tryz.prog.wantsStandIn 22 = false by kernel_rfl)⟩)
    jf_winds_go

end Go.Proofs.YtkjhhooecopolaaGreatDoor
