import Derived.Test.YtkjhhooecopolaaGreatDoorUncqK
import Derived.Test.YtkjhhooecopolaaGreatDoorCards
import Derived.Test.YtkjhhooecopolaaGreatDoorTie
import Derived.SevenTiedAt
namespace Go.Proofs.YtkjhhooecopolaaGreatDoor

theorem nodded_card : Rows.NoddedCardSaid :=
  Claim7.holds_tied_plain_at .later [] [.data, .data, .data, .sentinel, .sentinel] true Rows.noddedCard.stood.harness true
    nodded_holds (fun _ h => by cases h) (by kernel_rfl) (fun _ h => by cases h) nodded_row_tie rfl ⟨rfl, rfl⟩ (by kernel_rfl) rfl
    (fun f fn hf hfn => by
      obtain rfl : f = 5 := Option.some.inj ((show Tryz.prog.funcNamed "mend/mendlaw.Nodded" = some 5 by kernel_rfl).symm.trans hf) |>.symm
      obtain rfl : fn = Tryz.f5 := (Option.some.inj (Tryz.func5.symm.trans hfn)).symm
      exact ⟨jf_looks, fun j t ht => by
        rw [Tryz.params5] at ht
        have h3 : t = 22 := by
          rcases j with _ | j
          · simpa using ht.symm
          · simp at ht
        subst h3
        exact (show Tryz.prog.wantsStandIn 22 = false by kernel_rfl)⟩)
    jf_nodded_go

end Go.Proofs.YtkjhhooecopolaaGreatDoor
