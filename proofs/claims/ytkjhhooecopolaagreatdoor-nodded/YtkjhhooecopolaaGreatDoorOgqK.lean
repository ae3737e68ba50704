import Derived.Test.YtkjhhooecopolaaGreatDoorKj32
namespace Go.Proofs.YtkjhhooecopolaaGreatDoor
open Go.RowKit

set_option maxRecDepth 100000 in
set_option maxHeartbeats 400000 in
theorem or_any (p q : Int) (b cap : Nat) (w : World) (h0 : w.cell? ⟨b, 0, none⟩ = some (.int .i64 p)) (h1 : w.cell? ⟨b, 1, none⟩ = some (.int .i64 q)) :
    Calls Tryz.prog 182 #[.slice (some ⟨b, 0, none⟩) 2 cap] w fun r w' => r = .returned (.int .i64 (if p = 0 then q else p)) ∧ w' = w := by
  go_enter Tryz.func182, Tryz.ntmps182
  go_wp2_with fail
  go_loopg [8] 2 (fun n iv wr => wr = w ∧ ((n = 2 ∧ iv = .int .i64 0) ∨ (n = 1 ∧ iv = .int .i64 1 ∧ p = 0) ∨ (n = 0 ∧ iv = .int .i64 2 ∧ p = 0 ∧ q = 0)))
  case atStart => exact ⟨rfl, Or.inl ⟨rfl, rfl⟩⟩
  case round =>
    obtain ⟨rfl, ⟨rfl, rfl⟩ | ⟨rfl, rfl, hp⟩ | ⟨rfl, rfl, hp, hq⟩⟩ := hrel
    · by_cases hp : p = 0
      · subst hp
        go_wp2_with fail
        go_roundg 1
        case measure => omega
        case rel => exact ⟨rfl, Or.inr (Or.inl ⟨rfl, rfl, trivial⟩)⟩
      · go_wp2_with fail
        go_ret
        exact ⟨by simp, rfl⟩
    · subst hp
      by_cases hq : q = 0
      · subst hq
        go_wp2_with fail
        go_roundg 0
        case measure => omega
        case rel => exact ⟨rfl, Or.inr (Or.inr ⟨rfl, rfl, by simp⟩)⟩
      · go_wp2_with fail
        go_ret
        exact ⟨by simp, rfl⟩
    · subst hp
      subst hq
      go_wp2_with fail
      go_ret
      exact ⟨by simp, rfl⟩

theorem sm_nd {n : Ge.Nd} (h : NodeIn n.1 n.2.1 n.2.2) : sm n.1 ∧ sm n.2.1 ∧ sm n.2.2 := by
  have hx := h.x
  have hy := h.y
  have hd := h.d
  unfold sm
  omega

set_option maxRecDepth 100000 in
set_option maxHeartbeats 1000000 in
theorem compare_core (N1 N2 M1 M2 re im re' im' : Nat) (P Q p q R : Int) (w : World)
    (HO : Hid (∀ b cap w, w.cell? ⟨b, 0, none⟩ = some (.int .i64 p) → w.cell? ⟨b, 1, none⟩ = some (.int .i64 q) → Calls Tryz.prog 182 #[.slice (some ⟨b, 0, none⟩) 2 cap] w fun r w' => r = .returned (.int .i64 R) ∧ w' = w))
    (HM : Hid (∀ w, Calls Tryz.prog 152 #[.agg #[.complex .f64 M1 M2, .int .i64 Q], .complex .f64 N1 N2] w fun e w' => e = .returned (.complex .f64 re im) ∧ Below w.heap.size w w' ∧ w.drawn ≤ w'.drawn))
    (HT : Hid (∀ w, Calls Tryz.prog 152 #[.agg #[.complex .f64 N1 N2, .int .i64 P], .complex .f64 M1 M2] w fun e w' => e = .returned (.complex .f64 re' im') ∧ Below w.heap.size w w' ∧ w.drawn ≤ w'.drawn))
    (HC1 : Hid (∀ w, Calls Tryz.prog 183 #[.float .f64 re, .float .f64 re'] w fun r w' => r = .returned (.int .i64 p) ∧ w' = w))
    (HC2 : Hid (∀ w, Calls Tryz.prog 183 #[.float .f64 im, .float .f64 im'] w fun r w' => r = .returned (.int .i64 q) ∧ w' = w)) :
    Calls Tryz.prog 125 #[.agg #[.complex .f64 N1 N2, .int .i64 P], .agg #[.complex .f64 M1 M2, .int .i64 Q]] w fun r w' => r = .returned (.int .i64 R) ∧ Below w.heap.size w w' ∧ w.drawn ≤ w'.drawn := by
  go_enter Tryz.func125, Tryz.ntmps125
  go_wp2_with fail
  have hX : ((w.alloc (.cells #[.complex .f64 N1 N2, .int .i64 P] 83)).alloc (.cells #[.complex .f64 M1 M2, .int .i64 Q] 83)).heap[w.heap.size]? = some (.cells #[.complex .f64 N1 N2, .int .i64 P] 83 (0, 0)) := by
    rw [Below.heap_alloc _ _ _ (by simp)]; exact heap_alloc_new _ _
  have hY : ((w.alloc (.cells #[.complex .f64 N1 N2, .int .i64 P] 83)).alloc (.cells #[.complex .f64 M1 M2, .int .i64 Q] 83)).heap[w.heap.size + 1]? = some (.cells #[.complex .f64 M1 M2, .int .i64 Q] 83 (0, 0)) := by
    have := heap_alloc_new (w.alloc (.cells #[.complex .f64 N1 N2, .int .i64 P] 83)) (.cells #[.complex .f64 M1 M2, .int .i64 Q] 83)
    simpa using this
  have hb0 : Below w.heap.size w ((w.alloc (.cells #[.complex .f64 N1 N2, .int .i64 P] 83)).alloc (.cells #[.complex .f64 M1 M2, .int .i64 Q] 83)) := ((Below.refl _ _).alloc (Nat.le_refl _) _).alloc (by simp) _
  have haz : w.heap.size + 1 < ((w.alloc (.cells #[.complex .f64 N1 N2, .int .i64 P] 83)).alloc (.cells #[.complex .f64 M1 M2, .int .i64 Q] 83)).heap.size := by simp
  have hd0 : w.drawn ≤ ((w.alloc (.cells #[.complex .f64 N1 N2, .int .i64 P] 83)).alloc (.cells #[.complex .f64 M1 M2, .int .i64 Q] 83)).drawn := Nat.le_refl _
  generalize (w.alloc (.cells #[.complex .f64 N1 N2, .int .i64 P] 83)).alloc (.cells #[.complex .f64 M1 M2, .int .i64 Q] 83) = W at *
  generalize hB : w.heap.size = B at *
  have a0 : W.cell? ⟨B, 0, none⟩ = some (.complex .f64 N1 N2) := cell_of hX 0
  have a1 : W.cell? ⟨B, 1, none⟩ = some (.int .i64 P) := cell_of hX 1
  have a2 : W.cell? ⟨B + 1, 0, none⟩ = some (.complex .f64 M1 M2) := cell_of hY 0
  have a3 : W.cell? ⟨B + 1, 1, none⟩ = some (.int .i64 Q) := cell_of hY 1
  clear hX hY
  go_region_held3 (fun w' => w'.cell? ⟨B, 0, none⟩ = some (.complex .f64 N1 N2) ∧ w'.cell? ⟨B, 1, none⟩ = some (.int .i64 P) ∧ w'.cell? ⟨B + 1, 0, none⟩ = some (.complex .f64 M1 M2) ∧ w'.cell? ⟨B + 1, 1, none⟩ = some (.int .i64 Q)) (go_keep) (first
      | (go_at_call_of 152 (Value.complex FloatKind.f64 N1 N2); refine (HM.out _).mono ?_; rintro e w6 ⟨rfl, hb6, hd6⟩; have hbz : B + 1 < w6.heap.size := Nat.lt_of_lt_of_le haz hb6.size; have b0 := (hb6.cell (p := ⟨B, 0, none⟩) (Nat.lt_of_succ_lt haz)).trans a0; have b1 := (hb6.cell (p := ⟨B, 1, none⟩) (Nat.lt_of_succ_lt haz)).trans a1; have b2 := (hb6.cell (p := ⟨B + 1, 0, none⟩) haz).trans a2; have b3 := (hb6.cell (p := ⟨B + 1, 1, none⟩) haz).trans a3)
      | (go_at_call_of 152 (Value.complex FloatKind.f64 M1 M2); refine (HT.out _).mono ?_; rintro e w7 ⟨rfl, hb7, hd7⟩; have hcz : B + 1 < w7.heap.size := Nat.lt_of_lt_of_le hbz hb7.size; have c0 := (hb7.cell (p := ⟨B, 0, none⟩) (Nat.lt_of_succ_lt hbz)).trans b0; have c1 := (hb7.cell (p := ⟨B, 1, none⟩) (Nat.lt_of_succ_lt hbz)).trans b1; have c2 := (hb7.cell (p := ⟨B + 1, 0, none⟩) hbz).trans b2; have c3 := (hb7.cell (p := ⟨B + 1, 1, none⟩) hbz).trans b3))
  have hbel := (hb0.drew.trans (hb6.mono (Nat.le_of_lt (Nat.lt_of_succ_lt haz)))).trans (hb7.mono (Nat.le_of_lt (Nat.lt_of_succ_lt hbz)))
  have HD : Hid (w.drawn ≤ w7.drawn) := by
    have h1 : W.drawn ≤ W.drew.drawn := Nat.le_succ _
    exact Nat.le_trans hd0 (Nat.le_trans h1 (Nat.le_trans hd6 hd7))
  clear hb6 hb7 hb0 hd6 hd7 hd0
  go_wp2_with fail
  refine (HC1.out _).mono ?_
  rintro e w8 ⟨rfl, rfl⟩
  go_wp2_with fail
  refine (HC2.out _).mono ?_
  rintro e w9 ⟨rfl, rfl⟩
  go_wp2_with fail
  have hO := heap_alloc_new w9 (.cells #[.int .i64 p, .int .i64 q] 3)
  have hbelO := hbel.alloc (by omega) (.cells #[.int .i64 p, .int .i64 q] 3)
  have HDO : Hid (w.drawn ≤ (w9.alloc (.cells #[.int .i64 p, .int .i64 q] 3)).drawn) := HD
  generalize w9.alloc (.cells #[.int .i64 p, .int .i64 q] 3) = WO at *
  refine (HO.out _ _ _ (cell_of hO 0) (cell_of hO 1)).mono ?_
  rintro e w10 ⟨rfl, rfl⟩
  go_wp2_with fail
  go_ret
  exact ⟨rfl, by rw [hB]; exact hbelO, HDO.out⟩

theorem compare_any (n m : Ge.Nd) (hn : NodeIn n.1 n.2.1 n.2.2) (hm : NodeIn m.1 m.2.1 m.2.2) (cn : Ge.Can n) (cm : Ge.Can m) (w : World) :
    Calls Tryz.prog 125 #[ndV n, ndV m] w fun r w' => r = .returned (.int .i64 (Ge.pc (Ge.ndQ n) (Ge.ndQ m))) ∧ Below w.heap.size w w' ∧ w.drawn ≤ w'.drawn := by
  obtain ⟨a1, a2⟩ := fl_nd hn
  obtain ⟨b1, b2⟩ := fl_nd hm
  obtain ⟨s1, s2, s3⟩ := sm_nd hn
  obtain ⟨t1, t2, t3⟩ := sm_nd hm
  obtain ⟨re, im, f1, f2, hM⟩ := scaled_any (floatOfInt .f64 m.1) (floatOfInt .f64 m.2.1) m.2.2 a1 a2 s1 s2 t3
  obtain ⟨re', im', g1, g2, hT⟩ := scaled_any (floatOfInt .f64 n.1) (floatOfInt .f64 n.2.1) n.2.2 b1 b2 t1 t2 s3
  rw [Ge.pc_ndQ cn cm]
  exact compare_core _ _ _ _ re im re' im' n.2.2 m.2.2 _ _ _ w (fun b cap w h0 h1 => or_any _ _ b cap w h0 h1) hM hT (fun w => compare_f f1 g1 w) (fun w => compare_f f2 g2 w)

end Go.Proofs.YtkjhhooecopolaaGreatDoor
