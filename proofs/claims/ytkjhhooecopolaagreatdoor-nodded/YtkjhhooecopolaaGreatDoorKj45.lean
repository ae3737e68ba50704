import Derived.Test.YtkjhhooecopolaaGreatDoorKj44
namespace Go.Proofs.YtkjhhooecopolaaGreatDoor
open Go.RowKit

set_option maxRecDepth 100000 in
set_option maxHeartbeats 2000000 in
theorem meeting_par (x y : EB) (w : World)
    (HP : Hid (∀ w, Calls Tryz.prog 179 #[.agg #[.complex .f64 x.wa x.wb, .float .f64 x.sh], .agg #[.complex .f64 y.wa y.wb, .float .f64 y.sh]] w fun r w' => r = .returned (.bool true) ∧ Below w.heap.size w w')) :
    Calls Tryz.prog 123 #[.agg x.cells, .agg y.cells] w fun r w' => r = .returned (.tuple #[.agg #[.complex .f64 0 0, .int .i64 0], .bool false]) ∧ Below w.heap.size w w' := by
  obtain ⟨wa, wb, sh, fa, fb, ta, tb⟩ := x
  obtain ⟨wa', wb', sh', fa', fb', ta', tb'⟩ := y
  simp only [EB.cells] at *
  go_enter Tryz.func123, Tryz.ntmps123
  go_wp2_with fail
  have hs1 : w.heap.size + 1 + 1 = ((w.alloc (.cells #[.complex .f64 wa wb, .float .f64 sh, .complex .f64 fa fb, .complex .f64 ta tb] 124)).alloc (.cells #[.complex .f64 wa' wb', .float .f64 sh', .complex .f64 fa' fb', .complex .f64 ta' tb'] 124)).heap.size := by simp
  have hb0 : Below w.heap.size w ((w.alloc (.cells #[.complex .f64 wa wb, .float .f64 sh, .complex .f64 fa fb, .complex .f64 ta tb] 124)).alloc (.cells #[.complex .f64 wa' wb', .float .f64 sh', .complex .f64 fa' fb', .complex .f64 ta' tb'] 124)) := ((Below.refl _ _).alloc (Nat.le_refl _) _).alloc (by simp) _
  generalize (w.alloc (.cells #[.complex .f64 wa wb, .float .f64 sh, .complex .f64 fa fb, .complex .f64 ta tb] 124)).alloc (.cells #[.complex .f64 wa' wb', .float .f64 sh', .complex .f64 fa' fb', .complex .f64 ta' tb'] 124) = W1 at *
  have hE := heap_alloc_new W1 (.cells #[.complex .f64 0 0, .int .i64 0] 83)
  have hb2 := hb0.alloc (by omega) (.cells #[.complex .f64 0 0, .int .i64 0] 83)
  have hz : W1.heap.size < (W1.alloc (.cells #[.complex .f64 0 0, .int .i64 0] 83)).heap.size := by simp
  generalize W1.alloc (.cells #[.complex .f64 0 0, .int .i64 0] 83) = W at *
  generalize hB : w.heap.size = B at *
  rw [← hs1] at hE hz
  refine (HP.out _).mono ?_
  rintro e w1 ⟨rfl, hb1⟩
  have hE2 := (hb1.block _ hz).trans hE
  have hbel := hb2.trans (hb1.mono (by omega))
  have e0 : w1.cell? ⟨B + 1 + 1, 0, none⟩ = some (.complex .f64 0 0) := cell_of hE2 0
  have e1 : w1.cell? ⟨B + 1 + 1, 1, none⟩ = some (.int .i64 0) := cell_of hE2 1
  have z0 : w1.frozen? ⟨B + 1 + 1, 0, none⟩ = false := frozen_of hE2 0
  have z1 : w1.frozen? ⟨B + 1 + 1, 1, none⟩ = false := frozen_of hE2 1
  have hBB : B ≤ B + 1 + 1 := by omega
  clear hE hE2 hb2 hb0 hb1 hs1
  go_wp2_with (simp only [st_complex]; go_simp)
  refine bodyPost_ret (v := .tuple #[.agg #[.complex .f64 0 0, .int .i64 0], .bool false]) (by simp [results, Tryz.results123, go_sem, e0, e1]) rfl ⟨rfl, ?_⟩
  rw [hB]
  exact (hbel.setCell hBB _).setCell hBB _

set_option maxRecDepth 100000 in
set_option maxHeartbeats 2000000 in
theorem meeting_at (x y : EB) (N1 N2 : Nat) (P : Int) (u1 u2 : Bool) (w : World)
    (HP : Hid (∀ w, Calls Tryz.prog 179 #[.agg #[.complex .f64 x.wa x.wb, .float .f64 x.sh], .agg #[.complex .f64 y.wa y.wb, .float .f64 y.sh]] w fun r w' => r = .returned (.bool false) ∧ Below w.heap.size w w'))
    (HC : Hid (∀ w, Calls Tryz.prog 180 #[.agg #[.complex .f64 x.wa x.wb, .float .f64 x.sh], .agg #[.complex .f64 y.wa y.wb, .float .f64 y.sh]] w fun r w' => r = .returned (.agg #[.complex .f64 N1 N2, .int .i64 P]) ∧ Below w.heap.size w w'))
    (HX : Hid (∀ w, Calls Tryz.prog 62 #[.agg x.cells, .agg #[.complex .f64 N1 N2, .int .i64 P]] w fun r w' => r = .returned (.bool u1) ∧ Below w.heap.size w w'))
    (HY : Hid (∀ w, Calls Tryz.prog 62 #[.agg y.cells, .agg #[.complex .f64 N1 N2, .int .i64 P]] w fun r w' => r = .returned (.bool u2) ∧ Below w.heap.size w w')) :
    Calls Tryz.prog 123 #[.agg x.cells, .agg y.cells] w fun r w' => r = .returned (.tuple #[.agg #[.complex .f64 N1 N2, .int .i64 P], .bool (u1 && u2)]) ∧ Below w.heap.size w w' := by
  obtain ⟨wa, wb, sh, fa, fb, ta, tb⟩ := x
  obtain ⟨wa', wb', sh', fa', fb', ta', tb'⟩ := y
  simp only [EB.cells] at *
  go_enter Tryz.func123, Tryz.ntmps123
  go_wp2_with fail
  have hs1 : w.heap.size + 1 + 1 = ((w.alloc (.cells #[.complex .f64 wa wb, .float .f64 sh, .complex .f64 fa fb, .complex .f64 ta tb] 124)).alloc (.cells #[.complex .f64 wa' wb', .float .f64 sh', .complex .f64 fa' fb', .complex .f64 ta' tb'] 124)).heap.size := by simp
  have hb0 : Below w.heap.size w ((w.alloc (.cells #[.complex .f64 wa wb, .float .f64 sh, .complex .f64 fa fb, .complex .f64 ta tb] 124)).alloc (.cells #[.complex .f64 wa' wb', .float .f64 sh', .complex .f64 fa' fb', .complex .f64 ta' tb'] 124)) := ((Below.refl _ _).alloc (Nat.le_refl _) _).alloc (by simp) _
  have hX : ((w.alloc (.cells #[.complex .f64 wa wb, .float .f64 sh, .complex .f64 fa fb, .complex .f64 ta tb] 124)).alloc (.cells #[.complex .f64 wa' wb', .float .f64 sh', .complex .f64 fa' fb', .complex .f64 ta' tb'] 124)).heap[w.heap.size]? = some (.cells #[.complex .f64 wa wb, .float .f64 sh, .complex .f64 fa fb, .complex .f64 ta tb] 124 (0, 0)) := by
    rw [Below.heap_alloc _ _ _ (by simp)]; exact heap_alloc_new _ _
  have hY : ((w.alloc (.cells #[.complex .f64 wa wb, .float .f64 sh, .complex .f64 fa fb, .complex .f64 ta tb] 124)).alloc (.cells #[.complex .f64 wa' wb', .float .f64 sh', .complex .f64 fa' fb', .complex .f64 ta' tb'] 124)).heap[w.heap.size + 1]? = some (.cells #[.complex .f64 wa' wb', .float .f64 sh', .complex .f64 fa' fb', .complex .f64 ta' tb'] 124 (0, 0)) := by
    have := heap_alloc_new (w.alloc (.cells #[.complex .f64 wa wb, .float .f64 sh, .complex .f64 fa fb, .complex .f64 ta tb] 124)) (.cells #[.complex .f64 wa' wb', .float .f64 sh', .complex .f64 fa' fb', .complex .f64 ta' tb'] 124)
    simpa using this
  generalize (w.alloc (.cells #[.complex .f64 wa wb, .float .f64 sh, .complex .f64 fa fb, .complex .f64 ta tb] 124)).alloc (.cells #[.complex .f64 wa' wb', .float .f64 sh', .complex .f64 fa' fb', .complex .f64 ta' tb'] 124) = W1 at *
  have hE := heap_alloc_new W1 (.cells #[.complex .f64 0 0, .int .i64 0] 83)
  have hX2 := (Below.heap_alloc W1 (.cells #[.complex .f64 0 0, .int .i64 0] 83) w.heap.size (by omega)).trans hX
  have hY2 := (Below.heap_alloc W1 (.cells #[.complex .f64 0 0, .int .i64 0] 83) (w.heap.size + 1) (by omega)).trans hY
  have hb2 := hb0.alloc (by omega) (.cells #[.complex .f64 0 0, .int .i64 0] 83)
  have hz : W1.heap.size < (W1.alloc (.cells #[.complex .f64 0 0, .int .i64 0] 83)).heap.size := by simp
  generalize W1.alloc (.cells #[.complex .f64 0 0, .int .i64 0] 83) = W at *
  generalize hB : w.heap.size = B at *
  rw [← hs1] at hE hz
  clear hX hY hb0 hs1
  refine (HP.out _).mono ?_
  rintro e w1 ⟨rfl, hb1⟩
  have hz1 : B + 1 + 1 < w1.heap.size := Nat.lt_of_lt_of_le hz hb1.size
  have hE2 := (hb1.block _ hz).trans hE
  have hX3 := (hb1.block B (by omega)).trans hX2
  have hY3 := (hb1.block (B + 1) (by omega)).trans hY2
  have hbel1 := hb2.trans (hb1.mono (by omega))
  clear hE hX2 hY2 hb2 hb1
  have x0 : w1.cell? ⟨B, 0, none⟩ = some (.complex .f64 wa wb) := cell_of hX3 0
  have x1 : w1.cell? ⟨B, 1, none⟩ = some (.float .f64 sh) := cell_of hX3 1
  have y0 : w1.cell? ⟨B + 1, 0, none⟩ = some (.complex .f64 wa' wb') := cell_of hY3 0
  have y1 : w1.cell? ⟨B + 1, 1, none⟩ = some (.float .f64 sh') := cell_of hY3 1
  go_wp2_with fail
  refine (HC.out _).mono ?_
  rintro e w2 ⟨rfl, hb3⟩
  have hz2 : B + 1 + 1 < w2.heap.size := Nat.lt_of_lt_of_le hz1 hb3.size
  have hE4 := (hb3.block _ hz1).trans hE2
  have hX4 := (hb3.block B (by omega)).trans hX3
  have hY4 := (hb3.block (B + 1) (by omega)).trans hY3
  have hbel2 := hbel1.trans (hb3.mono (by omega))
  clear hE2 hX3 hY3 hbel1 hb3 x0 x1 y0 y1
  go_wp2_with fail
  have hN := heap_alloc_new w2 (.cells #[.complex .f64 0 0, .int .i64 0] 83)
  have hE5 := (Below.heap_alloc w2 (.cells #[.complex .f64 0 0, .int .i64 0] 83) _ hz2).trans hE4
  have hX5 := (Below.heap_alloc w2 (.cells #[.complex .f64 0 0, .int .i64 0] 83) B (by omega)).trans hX4
  have hY5 := (Below.heap_alloc w2 (.cells #[.complex .f64 0 0, .int .i64 0] 83) (B + 1) (by omega)).trans hY4
  have hbel3 := hbel2.alloc (by omega) (.cells #[.complex .f64 0 0, .int .i64 0] 83)
  have hz3 : w2.heap.size < (w2.alloc (.cells #[.complex .f64 0 0, .int .i64 0] 83)).heap.size := by simp
  generalize w2.alloc (.cells #[.complex .f64 0 0, .int .i64 0] 83) = W3 at *
  generalize w2.heap.size = M at *
  clear hE4 hX4 hY4 hbel2
  have n0 : W3.cell? ⟨M, 0, none⟩ = some (.complex .f64 0 0) := cell_of hN 0
  have n1 : W3.cell? ⟨M, 1, none⟩ = some (.int .i64 0) := cell_of hN 1
  have f0 : W3.frozen? ⟨M, 0, none⟩ = false := frozen_of hN 0
  have f1 : W3.frozen? ⟨M, 1, none⟩ = false := frozen_of hN 1
  go_wp2_with (simp only [st_complex]; go_simp)
  have hMn : M ≠ B ∧ M ≠ B + 1 ∧ M ≠ B + 1 + 1 := by omega
  have hX6 := (heap_set_ne (o := 1) hMn.1.symm (.int .i64 P)).trans ((heap_set_ne (o := 0) hMn.1.symm (.complex .f64 N1 N2)).trans hX5)
  have hY6 := (heap_set_ne (o := 1) hMn.2.1.symm (.int .i64 P)).trans ((heap_set_ne (o := 0) hMn.2.1.symm (.complex .f64 N1 N2)).trans hY5)
  have hae := (heap_set_ne (o := 1) hMn.2.2.symm (.int .i64 P)).trans ((heap_set_ne (o := 0) hMn.2.2.symm (.complex .f64 N1 N2)).trans hE5)
  have a8 : ((W3.setCell ⟨M, 0, none⟩ (.complex .f64 N1 N2)).setCell ⟨M, 1, none⟩ (.int .i64 P)).cell? ⟨M, 0, none⟩ = some (.complex .f64 N1 N2) := by simp [go_sem, n0]
  have a9 : ((W3.setCell ⟨M, 0, none⟩ (.complex .f64 N1 N2)).setCell ⟨M, 1, none⟩ (.int .i64 P)).cell? ⟨M, 1, none⟩ = some (.int .i64 P) := by simp [go_sem, n1]
  have hbel4 := (hbel3.setCell (p := ⟨M, 0, none⟩) (by show B ≤ M; omega) (.complex .f64 N1 N2)).setCell (p := ⟨M, 1, none⟩) (by show B ≤ M; omega) (.int .i64 P)
  have ham : M < ((W3.setCell ⟨M, 0, none⟩ (.complex .f64 N1 N2)).setCell ⟨M, 1, none⟩ (.int .i64 P)).heap.size := by simpa using hz3
  generalize (W3.setCell ⟨M, 0, none⟩ (.complex .f64 N1 N2)).setCell ⟨M, 1, none⟩ (.int .i64 P) = W4 at *
  have haz : B + 1 + 1 < W4.heap.size := Nat.lt_trans hz2 ham
  have hBW : B ≤ W4.heap.size := by omega
  clear hX5 hY5 hE5 hbel3 n0 n1 f0 f1 hN hz3
  have a0 := cell_of hX6 0
  have a1 := cell_of hX6 1
  have a2 := cell_of hX6 2
  have a3 := cell_of hX6 3
  have a4 := cell_of hY6 0
  have a5 := cell_of hY6 1
  have a6 := cell_of hY6 2
  have a7 := cell_of hY6 3
  simp at a0 a1 a2 a3 a4 a5 a6 a7
  have aq0 : W4.cell? ⟨B + 1 + 1, 0, none⟩ = some (.complex .f64 0 0) := cell_of hae 0
  have aq1 : W4.cell? ⟨B + 1 + 1, 1, none⟩ = some (.int .i64 0) := cell_of hae 1
  have ay0 : W4.frozen? ⟨B + 1 + 1, 0, none⟩ = false := frozen_of hae 0
  have ay1 : W4.frozen? ⟨B + 1 + 1, 1, none⟩ = false := frozen_of hae 1
  clear hX6 hY6
  obtain ⟨m1, m2, m3⟩ := hMn
  have m4 := Ne.symm m3
  have hn1 : ¬ (B = B + 1 + 1) := by omega
  have hn2 : ¬ (B + 1 + 1 = B) := by omega
  have hn3 : ¬ (B + 1 = B + 1 + 1) := by omega
  have hn4 : ¬ (B + 1 + 1 = B + 1) := by omega
  have hn5 : ¬ (B = B + 2) := by omega
  have hn6 : ¬ (B + 2 = B) := by omega
  cases u1
  · refine wp_region_held_drew (S := (fun w' => w'.cell? ⟨B, 0, none⟩ = some (.complex .f64 wa wb) ∧ w'.cell? ⟨B, 1, none⟩ = some (.float .f64 sh) ∧ w'.cell? ⟨B, 2, none⟩ = some (.complex .f64 fa fb) ∧ w'.cell? ⟨B, 3, none⟩ = some (.complex .f64 ta tb) ∧ w'.cell? ⟨B + 1, 0, none⟩ = some (.complex .f64 wa' wb') ∧ w'.cell? ⟨B + 1, 1, none⟩ = some (.float .f64 sh') ∧ w'.cell? ⟨B + 1, 2, none⟩ = some (.complex .f64 fa' fb') ∧ w'.cell? ⟨B + 1, 3, none⟩ = some (.complex .f64 ta' tb') ∧ w'.cell? ⟨M, 0, none⟩ = some (.complex .f64 N1 N2) ∧ w'.cell? ⟨M, 1, none⟩ = some (.int .i64 P) ∧ w'.frozen? ⟨B + 1 + 1, 0, none⟩ = false ∧ w'.frozen? ⟨B + 1 + 1, 1, none⟩ = false)) (by kernel_rfl) ⟨a0, a1, a2, a3, a4, a5, a6, a7, a8, a9, ay0, ay1⟩ (fun hHeld => ?_)
    refine wpAnyH_take (i := 0) (oi := { dst := some 18, op := _, type := _, pos := _, after := _, guard := _ }) (v := ?_) rfl (by kernel_rfl) (by kernel_rfl) (by kernel_rfl) (fun _ _ _ h => h) (Or.inl ⟨by rfl, ?_⟩) hHeld ?_
    rotate_left
    · intro w' hS'
      obtain ⟨s0, s1, s2, s3, s4, s5, s6, s7, s8, s9, s10, s11⟩ := hS'
      go_simp
      try with_reducible rfl
    simp only [Act.put, List.setIfInBounds_toArray, List.set_cons_zero, List.set_cons_succ]
    refine wpAnyH_take (i := 1) (oi := { dst := some 19, op := _, type := _, pos := _, after := _, guard := _ }) (v := ?_) rfl (by kernel_rfl) (by kernel_rfl) (by kernel_rfl) (fun _ _ _ h => h) (Or.inl ⟨by rfl, ?_⟩) hHeld ?_
    rotate_left
    · intro w' hS'
      obtain ⟨s0, s1, s2, s3, s4, s5, s6, s7, s8, s9, s10, s11⟩ := hS'
      go_simp
      try with_reducible rfl
    simp only [Act.put, List.setIfInBounds_toArray, List.set_cons_zero, List.set_cons_succ]
    refine wpAnyH_take (i := 2) (oi := { dst := some 20, op := _, type := _, pos := _, after := _, guard := _ }) (v := ?_) rfl (by kernel_rfl) (by kernel_rfl) (by kernel_rfl) (fun _ _ _ h => h) (Or.inl ⟨by rfl, ?_⟩) hHeld ?_
    rotate_left
    · intro w' hS'
      obtain ⟨s0, s1, s2, s3, s4, s5, s6, s7, s8, s9, s10, s11⟩ := hS'
      go_simp
      try with_reducible rfl
    simp only [Act.put, List.setIfInBounds_toArray, List.set_cons_zero, List.set_cons_succ]
    refine wpAnyH_ready (rs := [3]) (by kernel_rfl) (by simp) ?_
    refine AllReadyH.cons rfl (fun K hK => ?_) AllReadyH.nil
    go_simp
    refine (HX.out _).mono ?_
    rintro e w6 ⟨rfl, hb6⟩
    have hbz : B + 1 + 1 < w6.heap.size := Nat.lt_of_lt_of_le haz hb6.size
    have hbm : M < w6.heap.size := Nat.lt_of_lt_of_le ham hb6.size
    have b0 := (hb6.cell (p := ⟨B, 0, none⟩) (Nat.lt_of_succ_lt (Nat.lt_of_succ_lt haz))).trans a0
    have b1 := (hb6.cell (p := ⟨B, 1, none⟩) (Nat.lt_of_succ_lt (Nat.lt_of_succ_lt haz))).trans a1
    have b2 := (hb6.cell (p := ⟨B, 2, none⟩) (Nat.lt_of_succ_lt (Nat.lt_of_succ_lt haz))).trans a2
    have b3 := (hb6.cell (p := ⟨B, 3, none⟩) (Nat.lt_of_succ_lt (Nat.lt_of_succ_lt haz))).trans a3
    have b4 := (hb6.cell (p := ⟨B + 1, 0, none⟩) (Nat.lt_of_succ_lt haz)).trans a4
    have b5 := (hb6.cell (p := ⟨B + 1, 1, none⟩) (Nat.lt_of_succ_lt haz)).trans a5
    have b6 := (hb6.cell (p := ⟨B + 1, 2, none⟩) (Nat.lt_of_succ_lt haz)).trans a6
    have b7 := (hb6.cell (p := ⟨B + 1, 3, none⟩) (Nat.lt_of_succ_lt haz)).trans a7
    have b8 := (hb6.cell (p := ⟨M, 0, none⟩) ham).trans a8
    have b9 := (hb6.cell (p := ⟨M, 1, none⟩) ham).trans a9
    have hbe := (hb6.block (B + 1 + 1) haz).trans hae
    have bq0 : w6.cell? ⟨B + 1 + 1, 0, none⟩ = some (.complex .f64 0 0) := cell_of hbe 0
    have bq1 : w6.cell? ⟨B + 1 + 1, 1, none⟩ = some (.int .i64 0) := cell_of hbe 1
    have by0 : w6.frozen? ⟨B + 1 + 1, 0, none⟩ = false := frozen_of hbe 0
    have by1 : w6.frozen? ⟨B + 1 + 1, 1, none⟩ = false := frozen_of hbe 1
    go_wp2_with fail
    refine hK.out _ _ ⟨b0, b1, b2, b3, b4, b5, b6, b7, b8, b9, by0, by1⟩ (fun hHeld => ?_)
    clear hK K
    try simp only [Act.put, List.setIfInBounds_toArray, List.set_cons_zero, List.set_cons_succ]
    refine wpAnyH_take (i := 4) (oi := { dst := some 22, op := _, type := _, pos := _, after := _, guard := _ }) (v := ?_) rfl (by kernel_rfl) (by kernel_rfl) (by kernel_rfl) (fun _ _ _ h => h) (Or.inl ⟨by rfl, ?_⟩) hHeld ?_
    rotate_left
    · intro w' hS'
      obtain ⟨s0, s1, s2, s3, s4, s5, s6, s7, s8, s9, s10, s11⟩ := hS'
      go_simp
      try with_reducible rfl
    simp only [Act.put, List.setIfInBounds_toArray, List.set_cons_zero, List.set_cons_succ]
    refine wpAnyH_take (i := 5) (oi := { dst := some 23, op := _, type := _, pos := _, after := _, guard := _ }) (v := undef) rfl (by kernel_rfl) (by kernel_rfl) (by kernel_rfl) (fun _ _ _ h => h) (Or.inr ⟨by kernel_rfl, rfl⟩) hHeld ?_
    simp only [Act.put, List.setIfInBounds_toArray, List.set_cons_zero, List.set_cons_succ]
    refine wpAnyH_take (i := 6) (oi := { dst := some 24, op := _, type := _, pos := _, after := _, guard := _ }) (v := undef) rfl (by kernel_rfl) (by kernel_rfl) (by kernel_rfl) (fun _ _ _ h => h) (Or.inr ⟨by kernel_rfl, rfl⟩) hHeld ?_
    simp only [Act.put, List.setIfInBounds_toArray, List.set_cons_zero, List.set_cons_succ]
    refine wpAnyH_take (i := 7) (oi := { dst := some 25, op := _, type := _, pos := _, after := _, guard := _ }) (v := undef) rfl (by kernel_rfl) (by kernel_rfl) (by kernel_rfl) (fun _ _ _ h => h) (Or.inr ⟨by kernel_rfl, rfl⟩) hHeld ?_
    simp only [Act.put, List.setIfInBounds_toArray, List.set_cons_zero, List.set_cons_succ]
    refine wpAnyH_take (i := 8) (oi := { dst := some 26, op := _, type := _, pos := _, after := _, guard := _ }) (v := ?_) rfl (by kernel_rfl) (by kernel_rfl) (by kernel_rfl) (fun _ _ _ h => h) (Or.inl ⟨by rfl, ?_⟩) hHeld ?_
    rotate_left
    · intro w' hS'
      obtain ⟨s0, s1, s2, s3, s4, s5, s6, s7, s8, s9, s10, s11⟩ := hS'
      go_simp
      try with_reducible rfl
    simp only [Act.put, List.setIfInBounds_toArray, List.set_cons_zero, List.set_cons_succ]
    refine wpAnyH_ready (rs := [9]) (by kernel_rfl) (by simp) ?_
    refine AllReadyH.cons rfl (fun K hK => ?_) AllReadyH.nil
    go_simp
    simp only [st_complex]
    go_simp
    refine hK.out _ _ ?_ (fun hHeld => ?_)
    · refine ⟨?_, ?_, ?_, ?_, ?_, ?_, ?_, ?_, ?_, ?_, ?_, ?_⟩ <;> simp [World.frozen?_setCell, go_sem, b0, b1, b2, b3, b4, b5, b6, b7, b8, b9, by0, by1]
    clear hK K
    try simp only [Act.put, List.setIfInBounds_toArray, List.set_cons_zero, List.set_cons_succ]
    refine wpAnyH_take (i := 10) (oi := { dst := some 5, op := _, type := _, pos := _, after := _, guard := _ }) (v := ?_) rfl (by kernel_rfl) (by kernel_rfl) (by kernel_rfl) (fun _ _ _ h => h) (Or.inl ⟨by rfl, ?_⟩) hHeld ?_
    rotate_left
    · intro w' hS'
      obtain ⟨s0, s1, s2, s3, s4, s5, s6, s7, s8, s9, s10, s11⟩ := hS'
      go_simp
      try with_reducible rfl
    simp only [Act.put, List.setIfInBounds_toArray, List.set_cons_zero, List.set_cons_succ]
    refine wpAnyH_done (by kernel_rfl) ?_ _
    go_wp2_with fail
    refine bodyPost_ret (v := .tuple #[.agg #[.complex .f64 N1 N2, .int .i64 P], .bool false]) (by simp [results, Tryz.results123, go_sem, bq0, bq1]) rfl ⟨rfl, ?_⟩
    rw [hB]
    exact ((hbel4.drew.trans (hb6.mono hBW)).setCell (by show B ≤ B + 1 + 1; omega) _).setCell (by show B ≤ B + 1 + 1; omega) _
  · go_region_held3 (fun w' => w'.cell? ⟨B, 0, none⟩ = some (.complex .f64 wa wb) ∧ w'.cell? ⟨B, 1, none⟩ = some (.float .f64 sh) ∧ w'.cell? ⟨B, 2, none⟩ = some (.complex .f64 fa fb) ∧ w'.cell? ⟨B, 3, none⟩ = some (.complex .f64 ta tb) ∧ w'.cell? ⟨B + 1, 0, none⟩ = some (.complex .f64 wa' wb') ∧ w'.cell? ⟨B + 1, 1, none⟩ = some (.float .f64 sh') ∧ w'.cell? ⟨B + 1, 2, none⟩ = some (.complex .f64 fa' fb') ∧ w'.cell? ⟨B + 1, 3, none⟩ = some (.complex .f64 ta' tb') ∧ w'.cell? ⟨M, 0, none⟩ = some (.complex .f64 N1 N2) ∧ w'.cell? ⟨M, 1, none⟩ = some (.int .i64 P) ∧ w'.frozen? ⟨B + 1 + 1, 0, none⟩ = false ∧ w'.frozen? ⟨B + 1 + 1, 1, none⟩ = false) (first | go_keep | (go_split_ands; refine ⟨?_, ?_, ?_, ?_, ?_, ?_, ?_, ?_, ?_, ?_, ?_, ?_⟩ <;> first | (simp [World.frozen?_setCell, *]; done) | (simp [*]; done))) (first
      | (go_at_call_of 62 (Value.agg #[Value.complex FloatKind.f64 wa wb, Value.float FloatKind.f64 sh, Value.complex FloatKind.f64 fa fb, Value.complex FloatKind.f64 ta tb]); refine (HX.out _).mono ?_; rintro e w6 ⟨rfl, hb6⟩; have hbz : B + 1 + 1 < w6.heap.size := Nat.lt_of_lt_of_le haz hb6.size; have hbm : M < w6.heap.size := Nat.lt_of_lt_of_le ham hb6.size; have b0 := (hb6.cell (p := ⟨B, 0, none⟩) (Nat.lt_of_succ_lt (Nat.lt_of_succ_lt haz))).trans a0; have b1 := (hb6.cell (p := ⟨B, 1, none⟩) (Nat.lt_of_succ_lt (Nat.lt_of_succ_lt haz))).trans a1; have b2 := (hb6.cell (p := ⟨B, 2, none⟩) (Nat.lt_of_succ_lt (Nat.lt_of_succ_lt haz))).trans a2; have b3 := (hb6.cell (p := ⟨B, 3, none⟩) (Nat.lt_of_succ_lt (Nat.lt_of_succ_lt haz))).trans a3; have b4 := (hb6.cell (p := ⟨B + 1, 0, none⟩) (Nat.lt_of_succ_lt haz)).trans a4; have b5 := (hb6.cell (p := ⟨B + 1, 1, none⟩) (Nat.lt_of_succ_lt haz)).trans a5; have b6 := (hb6.cell (p := ⟨B + 1, 2, none⟩) (Nat.lt_of_succ_lt haz)).trans a6; have b7 := (hb6.cell (p := ⟨B + 1, 3, none⟩) (Nat.lt_of_succ_lt haz)).trans a7; have b8 := (hb6.cell (p := ⟨M, 0, none⟩) ham).trans a8; have b9 := (hb6.cell (p := ⟨M, 1, none⟩) ham).trans a9; have hbe := (hb6.block (B + 1 + 1) haz).trans hae; have bq0 : w6.cell? ⟨B + 1 + 1, 0, none⟩ = some (.complex .f64 0 0) := cell_of hbe 0; have bq1 : w6.cell? ⟨B + 1 + 1, 1, none⟩ = some (.int .i64 0) := cell_of hbe 1; have by0 : w6.frozen? ⟨B + 1 + 1, 0, none⟩ = false := frozen_of hbe 0; have by1 : w6.frozen? ⟨B + 1 + 1, 1, none⟩ = false := frozen_of hbe 1)
      | (go_at_call_of 62 (Value.agg #[Value.complex FloatKind.f64 wa' wb', Value.float FloatKind.f64 sh', Value.complex FloatKind.f64 fa' fb', Value.complex FloatKind.f64 ta' tb']); refine (HY.out _).mono ?_; rintro e w7 ⟨rfl, hb7⟩; have hcz : B + 1 + 1 < w7.heap.size := Nat.lt_of_lt_of_le hbz hb7.size; have hcm : M < w7.heap.size := Nat.lt_of_lt_of_le hbm hb7.size; have c0 := (hb7.cell (p := ⟨B, 0, none⟩) (Nat.lt_of_succ_lt (Nat.lt_of_succ_lt hbz))).trans b0; have c1 := (hb7.cell (p := ⟨B, 1, none⟩) (Nat.lt_of_succ_lt (Nat.lt_of_succ_lt hbz))).trans b1; have c2 := (hb7.cell (p := ⟨B, 2, none⟩) (Nat.lt_of_succ_lt (Nat.lt_of_succ_lt hbz))).trans b2; have c3 := (hb7.cell (p := ⟨B, 3, none⟩) (Nat.lt_of_succ_lt (Nat.lt_of_succ_lt hbz))).trans b3; have c4 := (hb7.cell (p := ⟨B + 1, 0, none⟩) (Nat.lt_of_succ_lt hbz)).trans b4; have c5 := (hb7.cell (p := ⟨B + 1, 1, none⟩) (Nat.lt_of_succ_lt hbz)).trans b5; have c6 := (hb7.cell (p := ⟨B + 1, 2, none⟩) (Nat.lt_of_succ_lt hbz)).trans b6; have c7 := (hb7.cell (p := ⟨B + 1, 3, none⟩) (Nat.lt_of_succ_lt hbz)).trans b7; have c8 := (hb7.cell (p := ⟨M, 0, none⟩) hbm).trans b8; have c9 := (hb7.cell (p := ⟨M, 1, none⟩) hbm).trans b9; have hce := (hb7.block (B + 1 + 1) hbz).trans hbe; have cq0 : w7.cell? ⟨B + 1 + 1, 0, none⟩ = some (.complex .f64 0 0) := cell_of hce 0; have cq1 : w7.cell? ⟨B + 1 + 1, 1, none⟩ = some (.int .i64 0) := cell_of hce 1; have cy0 : w7.frozen? ⟨B + 1 + 1, 0, none⟩ = false := frozen_of hce 0; have cy1 : w7.frozen? ⟨B + 1 + 1, 1, none⟩ = false := frozen_of hce 1)
      | (simp only [st_complex]; go_simp))
    go_wp2_with fail
    refine bodyPost_ret (v := .tuple #[.agg #[.complex .f64 N1 N2, .int .i64 P], .bool u2]) (by simp [results, Tryz.results123, go_sem, cq0, cq1]) rfl ⟨rfl, ?_⟩
    rw [hB]
    exact (((hbel4.drew.trans (hb6.mono hBW)).trans (hb7.mono (Nat.le_of_lt (Nat.lt_of_succ_lt (Nat.lt_of_succ_lt hbz))))).setCell (by show B ≤ B + 1 + 1; omega) _).setCell (by show B ≤ B + 1 + 1; omega) _

end Go.Proofs.YtkjhhooecopolaaGreatDoor

namespace Go.Proofs.YtkjhhooecopolaaGreatDoor.Ge

theorem hq_nd {n : Nd} (h : Can n) (e : Pt × Pt) : hq (ndQ n) e = fo (n.1, n.2.1) n.2.2 e := by
  obtain ⟨X, Y, P⟩ := n
  have hp : 0 < P := h.pos
  obtain ⟨g, g0, e1, e2, gp⟩ := fr2_eq (n := X) (d := P) (by omega)
  obtain ⟨k, k0, e3, e4, kp⟩ := fr2_eq (n := Y) (d := P) (by omega)
  have hgk := Int.mul_pos (gp.2 hp) (kp.2 hp)
  unfold hq ndQ
  show fo ((fr2 X P).1 * (fr2 Y P).2, (fr2 Y P).1 * (fr2 X P).2) ((fr2 X P).2 * (fr2 Y P).2) e = fo (X, Y) P e
  rw [← fo_scale (x := P * X) (y := P * Y) (d := P * P) hp rfl rfl rfl e]
  generalize fr2 X P = A at *
  generalize fr2 Y P = B at *
  have q1 : P * X = g * k * (A.1 * B.2) := by rw [e1]; grind
  have q2 : P * Y = g * k * (B.1 * A.2) := by rw [e3]; grind
  have q3 : P * P = g * k * (A.2 * B.2) := by grind
  exact (fo_scale hgk q1 q2 q3 e).symm
end Go.Proofs.YtkjhhooecopolaaGreatDoor.Ge

namespace Go.Proofs.YtkjhhooecopolaaGreatDoor
open Go.RowKit

theorem fl_nd {n : Ge.Nd} (h : NodeIn n.1 n.2.1 n.2.2) : Fl (floatOfInt .f64 n.1) n.1 ∧ Fl (floatOfInt .f64 n.2.1) n.2.1 := by
  have hx := h.x
  have hy := h.y
  exact ⟨fl_ofInt (by omega), fl_ofInt (by omega)⟩

/-- What two edges give: their node, if they share one and are not parallel. -/
theorem meeting_any (x y : EB) (e f : Ed) (hx : EBok x e) (hy : EBok y f) (he : smallE e) (hf : smallE f) :
    ∃ (v : Ge.Nd) (b : Bool) (nv : Value), (∀ w, Calls Tryz.prog 123 #[.agg x.cells, .agg y.cells] w fun r w' => r = .returned (.tuple #[nv, .bool b]) ∧ Below w.heap.size w w')
      ∧ (∃ N1 N2 P, nv = .agg #[.complex .f64 N1 N2, .int .i64 P])
      ∧ (b = true ↔ Ge.crE e f ≠ 0 ∧ Ge.hq (Ge.meetP e f) e = true ∧ Ge.hq (Ge.meetP e f) f = true)
      ∧ (b = true → nv = ndV v ∧ Ge.Can v ∧ Ge.ndQ v = Ge.meetP e f ∧ NodeIn v.1 v.2.1 v.2.2) := by
  by_cases hc : Ge.crE e f = 0
  · refine ⟨(0, 0, 1), false, _, fun w => meeting_par x y w (fun w => ?_), ⟨_, _, _, rfl⟩, ?_, ?_⟩
    · have := parallelTo_any x y e f hx hy he hf w
      rw [decide_eq_true hc] at this
      exact this
    · simp [hc]
    · simp
  · obtain ⟨n, n1, n2, n3, hC⟩ := crossing_any x y e f hx hy he hf hc
    obtain ⟨f1, f2⟩ := fl_nd n3
    refine ⟨n, Ge.hq (Ge.meetP e f) e && Ge.hq (Ge.meetP e f) f, _, fun w => meeting_at x y (floatOfInt .f64 n.1) (floatOfInt .f64 n.2.1) n.2.2 _ _ w (fun w => ?_) hC (fun w => ?_) (fun w => ?_), ⟨_, _, _, rfl⟩, ?_, ?_⟩
    · have := parallelTo_any x y e f hx hy he hf w
      rw [decide_eq_false hc] at this
      exact this
    · rw [← n2, Ge.hq_nd n1]
      exact holds_any x e hx he f1 f2 n3 w
    · rw [← n2, Ge.hq_nd n1]
      exact holds_any y f hy hf f1 f2 n3 w
    · simp [hc]
    · exact fun _ => ⟨rfl, n1, n2, n3⟩

end Go.Proofs.YtkjhhooecopolaaGreatDoor
