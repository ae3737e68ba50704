import Derived.Test.YtmfnlpmlmgjleaaGreatDoorRr
import Derived.Test.YtmfnlpmlmgjleaaGreatDoorRm
import Derived.Test.YtmfnlpmlmgjleaaGreatDoorRl
namespace Go.Proofs.YtmfnlpmlmgjleaaGreatDoor
open Go.RowKit

/-- The reference's Read, at every text. -/
theorem mread_any (s : ByteArray) (w : World) (hm : s.size ≤ maxLen) :
    Calls Tryz.prog 17 #[.string s] w fun e w' => Below w.heap.size w w' ∧ ∃ W so pn pc, e = .returned (.tuple #[.agg #[.string W, .slice so pn pc, .int .i64 0], .int .i64 (Pl.err s.data.toList).1, .int .i64 (Pl.err s.data.toList).2]) ∧
      ((Pl.err s.data.toList).1 = 0 → ((∃ gs, (Pl.pWhole (Pl.all s.data.toList)).2.2 = [gs] ∧ W = ⟨Pl.POLYGON.toArray⟩ ∧ RdMulti w' (.slice so pn pc) [gs] ∧ okPoly gs ∧ Pl.ptext s.data.toList = Pl.POLYGON ++ ([32] ++ Pl.polyT gs)) ∨
        (W = ⟨Pl.MULTI.toArray⟩ ∧ RdMulti w' (.slice so pn pc) (Pl.pWhole (Pl.all s.data.toList)).2.2 ∧ okMulti (Pl.pWhole (Pl.all s.data.toList)).2.2 ∧ Pl.ptext s.data.toList = Pl.bodyT (Pl.pWhole (Pl.all s.data.toList)).2.2))) := by
  have hsz : s.data.toList.length = s.size := by simp
  have hpt : (Pl.err s.data.toList).1 = 0 → Pl.ptext s.data.toList = Pl.wt (Pl.took s.data.toList) := fun h => if_pos h
  by_cases hs : 400 < s.size
  · have he : Pl.err s.data.toList = (1, 0) := by unfold Pl.err; rw [if_pos (by omega)]
    refine (mread_long s w hs hm).mono ?_
    rintro e w' ⟨rfl, hb⟩
    exact ⟨hb, _, _, _, _, by rw [he]; rfl, fun h => by rw [he] at h; cases h⟩
  · have hs' : s.size ≤ 400 := by omega
    cases hw0 : (Pl.wd Pl.POLYGON (Pl.all s.data.toList)).1
    · cases hw : (Pl.wd Pl.MULTI (Pl.all s.data.toList)).1
      · refine (mread_none s w hs' hw0 hw).mono ?_
        rintro e w' ⟨hb, hne, W, so, pn, pc, rfl⟩
        exact ⟨hb, W, so, pn, pc, rfl, fun h => absurd h hne⟩
      · refine (mread_multi s w hs' hw0 hw).mono ?_
        rintro e w' ⟨hb, W, so, pn, pc, rfl, hr⟩
        refine ⟨hb, W, so, pn, pc, rfl, fun h => Or.inr ?_⟩
        obtain ⟨_, h1, h2⟩ := Pl.text_multi h hw0
        exact ⟨(hr h).1, (hr h).2, h1, (hpt h).trans h2⟩
    · refine (mread_poly s w hs' hw0).mono ?_
      rintro e w' ⟨hb, W, so, pn, pc, rfl, hr⟩
      refine ⟨hb, W, so, pn, pc, rfl, fun h => Or.inl ?_⟩
      obtain ⟨gs, h0, h1, h2⟩ := Pl.text_poly h hw0
      exact ⟨gs, h0, (hr h).1, h0 ▸ (hr h).2, h1, (hpt h).trans h2⟩

set_option maxRecDepth 100000 in
set_option maxHeartbeats 1000000 in
theorem mprint_any (s : ByteArray) (w : World) (hm : s.size ≤ maxLen) (hG : Gl w) :
    Calls Tryz.prog 8 #[.string s] w fun e w' => e = .returned (.tuple #[.string ⟨(Pl.ptext s.data.toList).toArray⟩, .int .i64 (Pl.err s.data.toList).1, .int .i64 (Pl.err s.data.toList).2]) ∧ Below w.heap.size w w' := by
  by_cases h0 : (Pl.err s.data.toList).1 = 0
  · have hp2 := (err_zero h0).2.1
    have HR : Hid (∀ w1, Calls Tryz.prog 17 #[.string s] w1 fun e w' => Below w1.heap.size w1 w' ∧ ∃ W so pn pc, e = .returned (.tuple #[.agg #[.string W, .slice so pn pc, .int .i64 0], .int .i64 0, .int .i64 0]) ∧
        (∀ w2, Below w'.heap.size w' w2 → Gl w2 → Calls Tryz.prog 18 #[.agg #[.string W, .slice so pn pc, .int .i64 0]] w2 fun e w'' => e = .returned (.string ⟨(Pl.ptext s.data.toList).toArray⟩) ∧ Below w2.heap.size w2 w'')) := fun w1 => by
      refine (mread_any s w1 hm).mono ?_
      rintro e w' ⟨hb, W, so, pn, pc, rfl, hr⟩
      refine ⟨hb, W, so, pn, pc, by rw [h0, hp2]; rfl, fun w2 b2 g2 => ?_⟩
      rcases hr h0 with ⟨gs, _, rfl, hrd, hok, ht⟩ | ⟨rfl, hrd, hok, ht⟩
      · rw [ht]; exact written_poly gs _ w2 g2 (keeps_below keeps_multi hrd b2) hok
      · rw [ht]; exact written_multi _ _ w2 g2 (keeps_below keeps_multi hrd b2) hok
    rw [h0, hp2]
    clear hp2 h0
    generalize Pl.ptext s.data.toList = PT at *
    go_enter Tryz.func8, Tryz.ntmps8
    go_wp2_with fail
    refine (HR.out _).mono ?_
    rintro e w1 ⟨hb1, W, so, pn, pc, rfl, hw⟩
    have HW : Hid (∀ w2, Below w1.heap.size w1 w2 → Gl w2 → Calls Tryz.prog 18 #[.agg #[.string W, .slice so pn pc, .int .i64 0]] w2 fun e w'' => e = .returned (.string ⟨PT.toArray⟩) ∧ Below w2.heap.size w2 w'') := hw
    have hG1 : Gl w1 := hG.below hb1 hG.sz
    clear hw HR
    go_wp2_with fail
    refine (HW.out _ ((Below.refl _ _).alloc (Nat.le_refl _) _) (hG1.alloc _)).mono ?_
    rintro e w2 ⟨rfl, hb2⟩
    go_wp2_with fail
    go_ret3
    exact ⟨rfl, (hb1.alloc hb1.size _).trans (hb2.mono (Nat.le_trans hb1.size (by simp)))⟩
  · have hpt : Pl.ptext s.data.toList = [] := by unfold Pl.ptext; rw [if_neg h0]
    have HR : Hid (∀ w1, Calls Tryz.prog 17 #[.string s] w1 fun e w' => Below w1.heap.size w1 w' ∧ ∃ W so pn pc, e = .returned (.tuple #[.agg #[.string W, .slice so pn pc, .int .i64 0], .int .i64 (Pl.err s.data.toList).1, .int .i64 (Pl.err s.data.toList).2])) := fun w1 => by
      refine (mread_any s w1 hm).mono ?_
      rintro e w' ⟨hb, W, so, pn, pc, rfl, hr⟩
      exact ⟨hb, W, so, pn, pc, rfl⟩
    rw [hpt]
    have hne : (((Pl.err s.data.toList).1 : Int) != 0) = true := by rw [bne_iff_ne]; omega
    generalize (Pl.err s.data.toList).1 = E at *
    generalize (Pl.err s.data.toList).2 = Pp at *
    clear hpt h0
    go_enter Tryz.func8, Tryz.ntmps8
    go_wp2_with fail
    refine (HR.out _).mono ?_
    rintro e w1 ⟨hb1, W, so, pn, pc, rfl⟩
    go_wp2_with fail
    go_ret3
    exact ⟨rfl, hb1.alloc hb1.size _⟩

end Go.Proofs.YtmfnlpmlmgjleaaGreatDoor
