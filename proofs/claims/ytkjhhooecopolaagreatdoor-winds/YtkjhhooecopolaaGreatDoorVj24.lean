import Derived.Test.YtkjhhooecopolaaGreatDoorVj21
import Derived.Test.YtkjhhooecopolaaGreatDoorVj23
namespace Go.Proofs.YtkjhhooecopolaaGreatDoor
open Go.RowKit

/-- The reference's Read, at every text. -/
theorem mread_any (s : ByteArray) (w : World) (hm : s.size ≤ maxLen) :
    Calls Tryz.prog 14 #[.string s] w fun e w' => Below w.heap.size w w' ∧ ∃ W so pn pc, e = .returned (.tuple #[.agg #[.string W, .slice so pn pc, .int .i64 0], .int .i64 (Pl.err s.data.toList).1, .int .i64 (Pl.err s.data.toList).2]) ∧
      ((Pl.err s.data.toList).1 = 0 → ((∃ gs, (Pl.pWhole (Pl.all s.data.toList)).2.2 = [gs] ∧ W = ⟨Pl.POLYGON.toArray⟩ ∧ RdMulti w' (.slice so pn pc) [gs] ∧ okPoly gs ∧ Pl.ptext s.data.toList = Pl.POLYGON ++ ([32] ++ Pl.polyT gs)) ∨
        (W = ⟨Pl.MULTI.toArray⟩ ∧ RdMulti w' (.slice so pn pc) (Pl.pWhole (Pl.all s.data.toList)).2.2 ∧ okMulti (Pl.pWhole (Pl.all s.data.toList)).2.2 ∧ Pl.ptext s.data.toList = Pl.bodyT (Pl.pWhole (Pl.all s.data.toList)).2.2))) := by
  have hsz : s.data.toList.length = s.size := by simp
  have hpt : (Pl.err s.data.toList).1 = 0 → Pl.ptext s.data.toList = Pl.wt (Pl.took s.data.toList) := fun h => if_pos h
  by_cases hs : 400 < s.size
  · have he : Pl.err s.data.toList = (1, 0) := by unfold Pl.err; rw [if_pos (by omega)]
    refine (mread_long s w hs hm).mono ?_
    rintro e w' ⟨rfl, hb⟩
    exact ⟨hb, _, _, _, _, by rw [he]; rfl, fun h => by rw [he] at h; cases h⟩
  · have hs' : s.size ≤ 400 := by omega
    cases hw0 : (Pl.wd Pl.POLYGON (Pl.all s.data.toList)).1
    · cases hw : (Pl.wd Pl.MULTI (Pl.all s.data.toList)).1
      · refine (mread_none s w hs' hw0 hw).mono ?_
        rintro e w' ⟨hb, hne, W, so, pn, pc, rfl⟩
        exact ⟨hb, W, so, pn, pc, rfl, fun h => absurd h hne⟩
      · refine (mread_multi s w hs' hw0 hw).mono ?_
        rintro e w' ⟨hb, W, so, pn, pc, rfl, hr⟩
        refine ⟨hb, W, so, pn, pc, rfl, fun h => Or.inr ?_⟩
        obtain ⟨_, h1, h2⟩ := Pl.text_multi h hw0
        exact ⟨(hr h).1, (hr h).2, h1, (hpt h).trans h2⟩
    · refine (mread_poly s w hs' hw0).mono ?_
      rintro e w' ⟨hb, W, so, pn, pc, rfl, hr⟩
      refine ⟨hb, W, so, pn, pc, rfl, fun h => Or.inl ?_⟩
      obtain ⟨gs, h0, h1, h2⟩ := Pl.text_poly h hw0
      exact ⟨gs, h0, (hr h).1, h0 ▸ (hr h).2, h1, (hpt h).trans h2⟩

set_option maxRecDepth 100000 in
set_option maxHeartbeats 1000000 in
theorem mprint_any (s : ByteArray) (w : World) (hm : s.size ≤ maxLen) (hG : Gl w) :
    Calls Tryz.prog 53 #[.string s] w fun e w' => e = .returned (.tuple #[.string ⟨(Pl.ptext s.data.toList).toArray⟩, .int .i64 (Pl.err s.data.toList).1, .int .i64 (Pl.err s.data.toList).2]) ∧ Below w.heap.size w w' := by
  by_cases h0 : (Pl.err s.data.toList).1 = 0
  · have hp2 := (err_zero h0).2.1
    have HR : Hid (∀ w1, Calls Tryz.prog 14 #[.string s] w1 fun e w' => Below w1.heap.size w1 w' ∧ ∃ W so pn pc, e = .returned (.tuple #[.agg #[.string W, .slice so pn pc, .int .i64 0], .int .i64 0, .int .i64 0]) ∧
        (∀ w2, Below w'.heap.size w' w2 → Gl w2 → Calls Tryz.prog 15 #[.agg #[.string W, .slice so pn pc, .int .i64 0]] w2 fun e w'' => e = .returned (.string ⟨(Pl.ptext s.data.toList).toArray⟩) ∧ Below w2.heap.size w2 w'')) := fun w1 => by
      refine (mread_any s w1 hm).mono ?_
      rintro e w' ⟨hb, W, so, pn, pc, rfl, hr⟩
      refine ⟨hb, W, so, pn, pc, by rw [h0, hp2]; rfl, fun w2 b2 g2 => ?_⟩
      rcases hr h0 with ⟨gs, _, rfl, hrd, hok, ht⟩ | ⟨rfl, hrd, hok, ht⟩
      · rw [ht]; exact written_poly gs _ w2 g2 (keeps_below keeps_multi hrd b2) hok
      · rw [ht]; exact written_multi _ _ w2 g2 (keeps_below keeps_multi hrd b2) hok
    rw [h0, hp2]
    clear hp2 h0
    generalize Pl.ptext s.data.toList = PT at *
    go_enter Tryz.func53, Tryz.ntmps53
    go_wp2_with fail
    refine (HR.out _).mono ?_
    rintro e w1 ⟨hb1, W, so, pn, pc, rfl, hw⟩
    have HW : Hid (∀ w2, Below w1.heap.size w1 w2 → Gl w2 → Calls Tryz.prog 15 #[.agg #[.string W, .slice so pn pc, .int .i64 0]] w2 fun e w'' => e = .returned (.string ⟨PT.toArray⟩) ∧ Below w2.heap.size w2 w'') := hw
    have hG1 : Gl w1 := hG.below hb1 hG.sz
    clear hw HR
    go_wp2_with fail
    refine (HW.out _ ((Below.refl _ _).alloc (Nat.le_refl _) _) (hG1.alloc _)).mono ?_
    rintro e w2 ⟨rfl, hb2⟩
    go_wp2_with fail
    go_ret3
    exact ⟨rfl, (hb1.alloc hb1.size _).trans (hb2.mono (Nat.le_trans hb1.size (by simp)))⟩
  · have hpt : Pl.ptext s.data.toList = [] := by unfold Pl.ptext; rw [if_neg h0]
    have HR : Hid (∀ w1, Calls Tryz.prog 14 #[.string s] w1 fun e w' => Below w1.heap.size w1 w' ∧ ∃ W so pn pc, e = .returned (.tuple #[.agg #[.string W, .slice so pn pc, .int .i64 0], .int .i64 (Pl.err s.data.toList).1, .int .i64 (Pl.err s.data.toList).2])) := fun w1 => by
      refine (mread_any s w1 hm).mono ?_
      rintro e w' ⟨hb, W, so, pn, pc, rfl, hr⟩
      exact ⟨hb, W, so, pn, pc, rfl⟩
    rw [hpt]
    have hne : (((Pl.err s.data.toList).1 : Int) != 0) = true := by rw [bne_iff_ne]; omega
    generalize (Pl.err s.data.toList).1 = E at *
    generalize (Pl.err s.data.toList).2 = Pp at *
    clear hpt h0
    go_enter Tryz.func53, Tryz.ntmps53
    go_wp2_with fail
    refine (HR.out _).mono ?_
    rintro e w1 ⟨hb1, W, so, pn, pc, rfl⟩
    go_wp2_with fail
    go_ret3
    exact ⟨rfl, hb1.alloc hb1.size _⟩

end Go.Proofs.YtkjhhooecopolaaGreatDoor

namespace Go.Proofs.YtkjhhooecopolaaGreatDoor
open Go.RowKit

set_option maxRecDepth 100000 in
set_option maxHeartbeats 400000 in
theorem num_any (n : Int) (w : World) (h1 : -9223372036854775808 ≤ n) (h2 : n ≤ 9223372036854775807) :
    Calls Tryz.prog 19 #[.int .i64 n] w fun e w' => e = .returned (.int .i64 n) ∧ w' = w := by
  have hw : IntKind.i64.wrap n = n := by rw [IntKind.wrap_i64]; omega
  go_enter Tryz.func19, Tryz.ntmps19
  go_wp2_with fail
  go_ret
  exact ⟨rfl, rfl⟩

theorem err_small (s : List UInt8) : (Pl.err s).1 ≤ 3 := by
  unfold Pl.err
  split
  · decide
  · split
    · split
      · exact Nat.le_refl 3
      · exact Nat.zero_le 3
    · show 2 ≤ 3
      decide

set_option maxRecDepth 100000 in
set_option maxHeartbeats 400000 in
theorem prints_any (s : ByteArray) (w : World) (hm : s.size ≤ maxLen) (hG : Gl w) :
    Calls Tryz.prog 20 #[.string s] w fun e w' => e = .returned (.agg #[.string ⟨(Pl.ptext s.data.toList).toArray⟩, .int .i64 (Pl.err s.data.toList).1, .int .i64 (Pl.err s.data.toList).2]) ∧ Below w.heap.size w w' := by
  have HP : Hid (∀ w1, Gl w1 → Calls Tryz.prog 40 #[.string s] w1 fun e w' => e = .returned (.tuple #[.string ⟨(Pl.ptext s.data.toList).toArray⟩, .int .i64 (Pl.err s.data.toList).1, .int .i64 (Pl.err s.data.toList).2]) ∧ Below w1.heap.size w1 w') := fun w1 g1 => print_any s w1 hm g1
  have he := err_small s.data.toList
  generalize (Pl.err s.data.toList).1 = E at *
  generalize (Pl.err s.data.toList).2 = Pp at *
  generalize Pl.ptext s.data.toList = PT at *
  have HN : Hid (∀ w1, Calls Tryz.prog 19 #[.int .i64 (E : Int)] w1 fun e w' => e = .returned (.int .i64 (E : Int)) ∧ w' = w1) := fun w1 => num_any E w1 (by omega) (by omega)
  clear he
  go_enter Tryz.func20, Tryz.ntmps20
  go_wp2_with fail
  have hb0 : Below w.heap.size w (w.alloc (.cells #[.string ⟨#[]⟩, .int .i64 0, .int .i64 0] 38)) := (Below.refl _ _).alloc (Nat.le_refl _) _
  refine (HP.out _ (hG.alloc _)).mono ?_
  rintro e w1 ⟨rfl, hb1⟩
  have hbx : w1.heap[w.heap.size]? = some (.cells #[.string ⟨#[]⟩, .int .i64 0, .int .i64 0] 38) := (hb1.block _ (by simp)).trans (heap_alloc_new _ _)
  have c0 : w1.cell? ⟨w.heap.size, 0, none⟩ = some (.string ⟨#[]⟩) := cell_of hbx 0
  have c1 : w1.cell? ⟨w.heap.size, 1, none⟩ = some (.int .i64 0) := cell_of hbx 1
  have c2 : w1.cell? ⟨w.heap.size, 2, none⟩ = some (.int .i64 0) := cell_of hbx 2
  have z0 : w1.frozen? ⟨w.heap.size, 0, none⟩ = false := frozen_of hbx 0
  have z1 : w1.frozen? ⟨w.heap.size, 1, none⟩ = false := frozen_of hbx 1
  have z2 : w1.frozen? ⟨w.heap.size, 2, none⟩ = false := frozen_of hbx 2
  have hbel := hb0.trans (hb1.mono hb0.size)
  clear hbx
  go_wp2_with fail
  refine (HN.out _).mono ?_
  rintro e w2 ⟨rfl, rfl⟩
  go_wp2_with fail
  refine bodyPost_ret (v := .agg #[.string ⟨PT.toArray⟩, .int .i64 E, .int .i64 Pp]) (by simp [results, Tryz.results20, go_sem, c0, c1, c2]) rfl ⟨rfl, ?_⟩
  exact ((hbel.setCell (Nat.le_refl _) _).setCell (Nat.le_refl _) _).setCell (Nat.le_refl _) _

set_option maxRecDepth 100000 in
set_option maxHeartbeats 400000 in
theorem plays_print (x y d : Int) (rule : Value) (s : ByteArray) (w : World) (hm : s.size ≤ maxLen) (hG : Gl w) :
    Calls Tryz.prog 27 #[.agg #[.int .i64 1, .int .i64 x, .int .i64 y, .int .i64 d, rule, .string s]] w fun e w' => e = .returned (.bool true) ∧ Below w.heap.size w w' := by
  have HP : Hid (∀ w1, Gl w1 → Calls Tryz.prog 20 #[.string s] w1 fun e w' => e = .returned (.agg #[.string ⟨(Pl.ptext s.data.toList).toArray⟩, .int .i64 (Pl.err s.data.toList).1, .int .i64 (Pl.err s.data.toList).2]) ∧ Below w1.heap.size w1 w') := fun w1 g1 => prints_any s w1 hm g1
  have HM : Hid (∀ w1, Gl w1 → Calls Tryz.prog 53 #[.string s] w1 fun e w' => e = .returned (.tuple #[.string ⟨(Pl.ptext s.data.toList).toArray⟩, .int .i64 (Pl.err s.data.toList).1, .int .i64 (Pl.err s.data.toList).2]) ∧ Below w1.heap.size w1 w') := fun w1 g1 => mprint_any s w1 hm g1
  generalize (Pl.err s.data.toList).1 = E at *
  generalize (Pl.err s.data.toList).2 = Pp at *
  generalize Pl.ptext s.data.toList = PT at *
  go_enter Tryz.func27, Tryz.ntmps27
  go_wp2_with fail
  refine (HM.out _ (hG.alloc _)).mono ?_
  rintro e w1 ⟨rfl, hb1⟩
  have hG1 : Gl w1 := (hG.alloc _).below hb1 (hG.alloc _).sz
  have c5 : w1.cell? ⟨w.heap.size, 5, none⟩ = some (.string s) := (hb1.cell (p := ⟨w.heap.size, 5, none⟩) (by simp)).trans (cell_of (heap_alloc_new _ _) 5)
  go_wp2_with fail
  refine (HP.out _ hG1).mono ?_
  rintro e w2 ⟨rfl, hb2⟩
  go_wp2_with fail
  go_ret
  have hb0 : Below w.heap.size w (w.alloc (.cells #[.int .i64 1, .int .i64 x, .int .i64 y, .int .i64 d, rule, .string s] 26)) := (Below.refl _ _).alloc (Nat.le_refl _) _
  have hb3 := (hb0.trans (hb1.mono hb0.size)).trans (hb2.mono (hb0.trans (hb1.mono hb0.size)).size)
  exact ⟨rfl, hb3.alloc hb3.size _⟩

end Go.Proofs.YtkjhhooecopolaaGreatDoor
