import Derived.Test.YtmfnlpmlmgjleaaGreatDoorRs
namespace Go.Proofs.YtmfnlpmlmgjleaaGreatDoor
open Go.RowKit

set_option maxRecDepth 100000 in
set_option maxHeartbeats 400000 in
theorem num_any (n : Int) (w : World) (h1 : -9223372036854775808 ≤ n) (h2 : n ≤ 9223372036854775807) :
    Calls Tryz.prog 12 #[.int .i64 n] w fun e w' => e = .returned (.int .i64 n) ∧ w' = w := by
  have hw : IntKind.i64.wrap n = n := by rw [IntKind.wrap_i64]; omega
  go_enter Tryz.func12, Tryz.ntmps12
  go_wp2_with fail
  go_ret
  exact ⟨rfl, rfl⟩

theorem err_small (s : List UInt8) : (Pl.err s).1 ≤ 3 := by
  unfold Pl.err
  split
  · decide
  · split
    · split
      · exact Nat.le_refl 3
      · exact Nat.zero_le 3
    · show 2 ≤ 3
      decide

set_option maxRecDepth 100000 in
set_option maxHeartbeats 400000 in
theorem prints_any (s : ByteArray) (w : World) (hm : s.size ≤ maxLen) (hG : Gl w) :
    Calls Tryz.prog 9 #[.string s] w fun e w' => e = .returned (.agg #[.string ⟨(Pl.ptext s.data.toList).toArray⟩, .int .i64 (Pl.err s.data.toList).1, .int .i64 (Pl.err s.data.toList).2]) ∧ Below w.heap.size w w' := by
  have HP : Hid (∀ w1, Gl w1 → Calls Tryz.prog 19 #[.string s] w1 fun e w' => e = .returned (.tuple #[.string ⟨(Pl.ptext s.data.toList).toArray⟩, .int .i64 (Pl.err s.data.toList).1, .int .i64 (Pl.err s.data.toList).2]) ∧ Below w1.heap.size w1 w') := fun w1 g1 => print_any s w1 hm g1
  have he := err_small s.data.toList
  generalize (Pl.err s.data.toList).1 = E at *
  generalize (Pl.err s.data.toList).2 = Pp at *
  generalize Pl.ptext s.data.toList = PT at *
  have HN : Hid (∀ w1, Calls Tryz.prog 12 #[.int .i64 (E : Int)] w1 fun e w' => e = .returned (.int .i64 (E : Int)) ∧ w' = w1) := fun w1 => num_any E w1 (by omega) (by omega)
  clear he
  go_enter Tryz.func9, Tryz.ntmps9
  go_wp2_with fail
  have hb0 : Below w.heap.size w (w.alloc (.cells #[.string ⟨#[]⟩, .int .i64 0, .int .i64 0] 31)) := (Below.refl _ _).alloc (Nat.le_refl _) _
  refine (HP.out _ (hG.alloc _)).mono ?_
  rintro e w1 ⟨rfl, hb1⟩
  have hbx : w1.heap[w.heap.size]? = some (.cells #[.string ⟨#[]⟩, .int .i64 0, .int .i64 0] 31) := (hb1.block _ (by simp)).trans (heap_alloc_new _ _)
  have c0 : w1.cell? ⟨w.heap.size, 0, none⟩ = some (.string ⟨#[]⟩) := cell_of hbx 0
  have c1 : w1.cell? ⟨w.heap.size, 1, none⟩ = some (.int .i64 0) := cell_of hbx 1
  have c2 : w1.cell? ⟨w.heap.size, 2, none⟩ = some (.int .i64 0) := cell_of hbx 2
  have z0 : w1.frozen? ⟨w.heap.size, 0, none⟩ = false := frozen_of hbx 0
  have z1 : w1.frozen? ⟨w.heap.size, 1, none⟩ = false := frozen_of hbx 1
  have z2 : w1.frozen? ⟨w.heap.size, 2, none⟩ = false := frozen_of hbx 2
  have hbel := hb0.trans (hb1.mono hb0.size)
  clear hbx
  go_wp2_with fail
  refine (HN.out _).mono ?_
  rintro e w2 ⟨rfl, rfl⟩
  go_wp2_with fail
  refine bodyPost_ret (v := .agg #[.string ⟨PT.toArray⟩, .int .i64 E, .int .i64 Pp]) (by simp [results, Tryz.results9, go_sem, c0, c1, c2]) rfl ⟨rfl, ?_⟩
  exact ((hbel.setCell (Nat.le_refl _) _).setCell (Nat.le_refl _) _).setCell (Nat.le_refl _) _

set_option maxRecDepth 100000 in
set_option maxHeartbeats 400000 in
theorem plays_print (x y d : Int) (rule : Value) (s : ByteArray) (w : World) (hm : s.size ≤ maxLen) (hG : Gl w) :
    Calls Tryz.prog 7 #[.agg #[.int .i64 1, .int .i64 x, .int .i64 y, .int .i64 d, rule, .string s]] w fun e w' => e = .returned (.bool true) ∧ Below w.heap.size w w' := by
  have HP : Hid (∀ w1, Gl w1 → Calls Tryz.prog 9 #[.string s] w1 fun e w' => e = .returned (.agg #[.string ⟨(Pl.ptext s.data.toList).toArray⟩, .int .i64 (Pl.err s.data.toList).1, .int .i64 (Pl.err s.data.toList).2]) ∧ Below w1.heap.size w1 w') := fun w1 g1 => prints_any s w1 hm g1
  have HM : Hid (∀ w1, Gl w1 → Calls Tryz.prog 8 #[.string s] w1 fun e w' => e = .returned (.tuple #[.string ⟨(Pl.ptext s.data.toList).toArray⟩, .int .i64 (Pl.err s.data.toList).1, .int .i64 (Pl.err s.data.toList).2]) ∧ Below w1.heap.size w1 w') := fun w1 g1 => mprint_any s w1 hm g1
  generalize (Pl.err s.data.toList).1 = E at *
  generalize (Pl.err s.data.toList).2 = Pp at *
  generalize Pl.ptext s.data.toList = PT at *
  go_enter Tryz.func7, Tryz.ntmps7
  go_wp2_with fail
  refine (HM.out _ (hG.alloc _)).mono ?_
  rintro e w1 ⟨rfl, hb1⟩
  have hG1 : Gl w1 := (hG.alloc _).below hb1 (hG.alloc _).sz
  have c5 : w1.cell? ⟨w.heap.size, 5, none⟩ = some (.string s) := (hb1.cell (p := ⟨w.heap.size, 5, none⟩) (by simp)).trans (cell_of (heap_alloc_new _ _) 5)
  go_wp2_with fail
  refine (HP.out _ hG1).mono ?_
  rintro e w2 ⟨rfl, hb2⟩
  go_wp2_with fail
  go_ret
  have hb0 : Below w.heap.size w (w.alloc (.cells #[.int .i64 1, .int .i64 x, .int .i64 y, .int .i64 d, rule, .string s] 26)) := (Below.refl _ _).alloc (Nat.le_refl _) _
  have hb3 := (hb0.trans (hb1.mono hb0.size)).trans (hb2.mono (hb0.trans (hb1.mono hb0.size)).size)
  exact ⟨rfl, hb3.alloc hb3.size _⟩

end Go.Proofs.YtmfnlpmlmgjleaaGreatDoor
