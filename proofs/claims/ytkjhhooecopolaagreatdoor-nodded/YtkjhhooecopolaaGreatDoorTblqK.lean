import Derived.Test.YtkjhhooecopolaaGreatDoorKj18
namespace Go.Proofs.YtkjhhooecopolaaGreatDoor
open Go.RowKit

set_option maxRecDepth 100000 in
set_option maxHeartbeats 4000000 in
theorem isLeftOf_core (na nb a b pa pb qa qb : Nat) (D E : Int) (w : World)
    (HA : Hid (∀ w, Calls Tryz.prog 152 #[.agg #[.complex .f64 a b, .int .i64 E], .complex .f64 na nb] w fun e w' => e = .returned (.complex .f64 pa pb) ∧ Below w.heap.size w w' ∧ w.drawn ≤ w'.drawn))
    (HC : Hid (∀ w, Calls Tryz.prog 152 #[.agg #[.complex .f64 na nb, .int .i64 D], .complex .f64 a b] w fun e w' => e = .returned (.complex .f64 qa qb) ∧ Below w.heap.size w w' ∧ w.drawn ≤ w'.drawn)) :
    Calls Tryz.prog 100 #[.agg #[.complex .f64 na nb, .int .i64 D], .agg #[.complex .f64 a b, .int .i64 E]] w fun e w' => e = .returned (.bool (FloatKind.f64.format.order pa qa == some .lt)) ∧ Below w.heap.size w w' := by
  have hE : ((w.alloc (.cells #[.complex .f64 na nb, .int .i64 D] 83)).alloc (.cells #[.complex .f64 a b, .int .i64 E] 83)).heap[w.heap.size]? = some (.cells #[.complex .f64 na nb, .int .i64 D] 83 (0, 0)) := by
    rw [Below.heap_alloc _ _ _ (by simp)]; exact heap_alloc_new _ _
  have hP : ((w.alloc (.cells #[.complex .f64 na nb, .int .i64 D] 83)).alloc (.cells #[.complex .f64 a b, .int .i64 E] 83)).heap[w.heap.size + 1]? = some (.cells #[.complex .f64 a b, .int .i64 E] 83 (0, 0)) := by
    have := heap_alloc_new (w.alloc (.cells #[.complex .f64 na nb, .int .i64 D] 83)) (.cells #[.complex .f64 a b, .int .i64 E] 83)
    simpa using this
  have hb0 : Below w.heap.size w ((w.alloc (.cells #[.complex .f64 na nb, .int .i64 D] 83)).alloc (.cells #[.complex .f64 a b, .int .i64 E] 83)) := ((Below.refl _ _).alloc (Nat.le_refl _) _).alloc (by simp) _
  have hsz : w.heap.size + 2 = ((w.alloc (.cells #[.complex .f64 na nb, .int .i64 D] 83)).alloc (.cells #[.complex .f64 a b, .int .i64 E] 83)).heap.size := by simp
  go_enter Tryz.func100, Tryz.ntmps100
  go_wp2_with fail
  generalize (w.alloc (.cells #[.complex .f64 na nb, .int .i64 D] 83)).alloc (.cells #[.complex .f64 a b, .int .i64 E] 83) = W at *
  generalize hB : w.heap.size = B at *
  have hza : B < W.heap.size := by omega
  have hzb : B + 1 < W.heap.size := by omega
  have z0 : W.cell? ⟨B, 0, none⟩ = some (.complex .f64 na nb) := cell_of hE 0
  have z1 : W.cell? ⟨B, 1, none⟩ = some (.int .i64 D) := cell_of hE 1
  have z2 : W.cell? ⟨B + 1, 0, none⟩ = some (.complex .f64 a b) := cell_of hP 0
  have z3 : W.cell? ⟨B + 1, 1, none⟩ = some (.int .i64 E) := cell_of hP 1
  go_region_held3 (fun w' => w'.cell? ⟨B, 0, none⟩ = some (.complex .f64 na nb) ∧ w'.cell? ⟨B, 1, none⟩ = some (.int .i64 D) ∧ w'.cell? ⟨B + 1, 0, none⟩ = some (.complex .f64 a b) ∧ w'.cell? ⟨B + 1, 1, none⟩ = some (.int .i64 E)) (go_keep) (first
      | (go_at_call_of 152 (Value.complex FloatKind.f64 na nb); refine (HA.out _).mono ?_; rintro e w6 ⟨rfl, hb6, _⟩; have hua : B < w6.heap.size := Nat.lt_of_lt_of_le hza hb6.size; have hub : B + 1 < w6.heap.size := Nat.lt_of_lt_of_le hzb hb6.size; have u0 := (hb6.cell (p := ⟨B, 0, none⟩) hza).trans z0; have u1 := (hb6.cell (p := ⟨B, 1, none⟩) hza).trans z1; have u2 := (hb6.cell (p := ⟨B + 1, 0, none⟩) hzb).trans z2; have u3 := (hb6.cell (p := ⟨B + 1, 1, none⟩) hzb).trans z3)
      | (go_at_call_of 152 (Value.complex FloatKind.f64 a b); refine (HC.out _).mono ?_; rintro e w7 ⟨rfl, hb7, _⟩; have v0 := (hb7.cell (p := ⟨B, 0, none⟩) hua).trans u0; have v1 := (hb7.cell (p := ⟨B, 1, none⟩) hua).trans u1; have v2 := (hb7.cell (p := ⟨B + 1, 0, none⟩) hub).trans u2; have v3 := (hb7.cell (p := ⟨B + 1, 1, none⟩) hub).trans u3))
  all_goals
    have hbel := (hb0.drew.trans (hb6.mono (Nat.le_of_lt hza))).trans (hb7.mono (Nat.le_of_lt hua))
    clear hb6 hb7 hb0
    go_wp2_with fail
    go_ret
    exact ⟨rfl, by rw [hB]; exact hbel⟩

theorem isLeftOf_any {na nb : Nat} {X Y D : Int} {a b : Nat} {x y E : Int} (g1 : Fl na X) (g2 : Fl nb Y) (h1 : Fl a x) (h2 : Fl b y) (b1 : sm x) (b2 : sm y) (bD : sm D) (bE : sm E) (c1 : sm X) (c2 : sm Y) (w : World) :
    Calls Tryz.prog 100 #[.agg #[.complex .f64 na nb, .int .i64 D], .agg #[.complex .f64 a b, .int .i64 E]] w fun e w' => e = .returned (.bool (decide (X * E < x * D))) ∧ Below w.heap.size w w' := by
  obtain ⟨pa, pb, f1, f2, hs1⟩ := scaled_any a b E g1 g2 c1 c2 bE
  obtain ⟨qa, qb, k1, k2, hs2⟩ := scaled_any na nb D h1 h2 b1 b2 bD
  rw [← lt_bits f1 k1]
  exact isLeftOf_core na nb a b pa pb qa qb D E w hs1 hs2

end Go.Proofs.YtkjhhooecopolaaGreatDoor
