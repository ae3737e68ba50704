import Derived.Test.YtkjhhooecopolaaGreatDoorWdqV
import Derived.Test.YtkjhhooecopolaaGreatDoorVj26
import Derived.Deep.RegionHeld3
namespace Go.Proofs.YtkjhhooecopolaaGreatDoor
open Go.RowKit

/-! The reference's plane: fractions, sides of edges, what an edge holds. -/
set_option maxRecDepth 100000 in
set_option maxHeartbeats 400000 in
theorem rDx_any (a b c d : Int) (w : World) (h1 : -50 ≤ a ∧ a ≤ 50) (h2 : -50 ≤ c ∧ c ≤ 50) :
    Calls Tryz.prog 135 #[.agg #[.int .i64 a, .int .i64 b, .int .i64 c, .int .i64 d]] w fun e w' => e = .returned (.int .i64 (c - a)) ∧ Below w.heap.size w w' := by
  go_enter Tryz.func135, Tryz.ntmps135
  go_wp2_with fail
  go_ret
  exact ⟨rfl, (Below.refl _ _).alloc (Nat.le_refl _) _⟩

set_option maxRecDepth 100000 in
set_option maxHeartbeats 400000 in
theorem rDy_any (a b c d : Int) (w : World) (h1 : -50 ≤ b ∧ b ≤ 50) (h2 : -50 ≤ d ∧ d ≤ 50) :
    Calls Tryz.prog 137 #[.agg #[.int .i64 a, .int .i64 b, .int .i64 c, .int .i64 d]] w fun e w' => e = .returned (.int .i64 (d - b)) ∧ Below w.heap.size w w' := by
  go_enter Tryz.func137, Tryz.ntmps137
  go_wp2_with fail
  go_ret
  exact ⟨rfl, (Below.refl _ _).alloc (Nat.le_refl _) _⟩

theorem sign_pos' {z : Int} (h : 0 < z) : z.sign = 1 := Int.sign_eq_one_of_pos h
theorem sign_neg' {z : Int} (h : z < 0) : z.sign = -1 := Int.sign_eq_neg_one_of_neg h

set_option maxRecDepth 100000 in
set_option maxHeartbeats 400000 in
theorem fcmp_any (a b c d x y : Int) (w : World) (hx : a * d = x) (hy : c * b = y) (h1 : -1000000000000000 ≤ x ∧ x ≤ 1000000000000000) (h2 : -1000000000000000 ≤ y ∧ y ≤ 1000000000000000) :
    Calls Tryz.prog 49 #[.agg #[.int .i64 a, .int .i64 b], .agg #[.int .i64 c, .int .i64 d]] w fun e w' => e = .returned (.int .i64 (x - y).sign) ∧ Below w.heap.size w w' := by
  have hb : Below w.heap.size w ((w.alloc (.cells #[.int .i64 a, .int .i64 b] 97)).alloc (.cells #[.int .i64 c, .int .i64 d] 97)) := ((Below.refl _ _).alloc (Nat.le_refl _) _).alloc (by simp) _
  have hwx : IntKind.i64.wrap (a * d) = x := by rw [hx, IntKind.wrap_i64]; omega
  have hwy : IntKind.i64.wrap (c * b) = y := by rw [hy, IntKind.wrap_i64]; omega
  go_enter Tryz.func49, Tryz.ntmps49
  rcases Int.lt_trichotomy x y with h | h | h
  · have e := sign_neg' (z := x - y) (by omega)
    rw [e]
    go_wp2_with fail
    go_ret
    exact ⟨rfl, hb⟩
  · have e : (x - y).sign = 0 := by rw [h, Int.sub_self]; rfl
    rw [e]
    go_wp2_with fail
    go_ret
    exact ⟨rfl, hb⟩
  · have e := sign_pos' (z := x - y) (by omega)
    rw [e]
    go_wp2_with fail
    go_ret
    exact ⟨rfl, hb⟩

end Go.Proofs.YtkjhhooecopolaaGreatDoor

namespace Go.Proofs.YtkjhhooecopolaaGreatDoor
open Go.RowKit

/-- The bounds of what is reckoned with: an edge's ends are small, a point's fractions too. -/
def small (z : Int) : Prop := -50 ≤ z ∧ z ≤ 50
structure PtIn (XN XD YN YD : Int) : Prop where
  xn : -10000000 ≤ XN ∧ XN ≤ 10000000
  xd : 0 < XD ∧ XD ≤ 1000000
  yn : -10000000 ≤ YN ∧ YN ≤ 10000000
  yd : 0 < YD ∧ YD ≤ 1000000

theorem mul_in {x y a b : Int} (hx : -a ≤ x ∧ x ≤ a) (hy : -b ≤ y ∧ y ≤ b) : -(a * b) ≤ x * y ∧ x * y ≤ a * b := by
  have h : (x * y).natAbs ≤ (a * b).natAbs := by
    rw [Int.natAbs_mul, Int.natAbs_mul]
    exact Nat.mul_le_mul (by omega) (by omega)
  have hab : 0 ≤ a * b := Int.mul_nonneg (by omega) (by omega)
  omega

theorem cell_of' {w : World} {b : Nat} {c : Array Value} {T : TypeId} (h : w.heap[b]? = some (.cells c T (0, 0))) (o : Nat) : w.cell? ⟨b, o, none⟩ = c[o]? := by
  simp [World.cell?, h]
set_option maxRecDepth 100000 in
set_option maxHeartbeats 1000000 in
theorem side_any (a b c d XN XD YN YD : Int) (w : World) (ha : small a) (hb : small b) (hc : small c) (hd : small d) (hp : PtIn XN XD YN YD) :
    Calls Tryz.prog 133 #[.agg #[.int .i64 a, .int .i64 b, .int .i64 c, .int .i64 d], .agg #[.int .i64 XN, .int .i64 XD, .int .i64 YN, .int .i64 YD]] w
      fun e w' => e = .returned (.int .i64 ((c - a) * (YN - b * YD) * XD - (d - b) * (XN - a * XD) * YD).sign) ∧ Below w.heap.size w w' := by
  have HX : Hid (∀ w1, Calls Tryz.prog 135 #[.agg #[.int .i64 a, .int .i64 b, .int .i64 c, .int .i64 d]] w1 fun e w' => e = .returned (.int .i64 (c - a)) ∧ Below w1.heap.size w1 w') := fun w1 => rDx_any a b c d w1 ha hc
  have HY : Hid (∀ w1, Calls Tryz.prog 137 #[.agg #[.int .i64 a, .int .i64 b, .int .i64 c, .int .i64 d]] w1 fun e w' => e = .returned (.int .i64 (d - b)) ∧ Below w1.heap.size w1 w') := fun w1 => rDy_any a b c d w1 hb hd
  obtain ⟨⟨x1, x2⟩, ⟨x3, x4⟩, ⟨y1, y2⟩, y3, y4⟩ := hp
  have m1 : -50000000 ≤ b * YD ∧ b * YD ≤ 50000000 := mul_in (a := 50) (b := 1000000) hb ⟨by omega, y4⟩
  have m2 : -50000000 ≤ a * XD ∧ a * XD ≤ 50000000 := mul_in (a := 50) (b := 1000000) ha ⟨by omega, x4⟩
  have n1 : -6000000000 ≤ (c - a) * (YN - b * YD) ∧ (c - a) * (YN - b * YD) ≤ 6000000000 := mul_in (a := 100) (b := 60000000) (by unfold small at ha hc; omega) (by omega)
  have n2 : -6000000000 ≤ (d - b) * (XN - a * XD) ∧ (d - b) * (XN - a * XD) ≤ 6000000000 := mul_in (a := 100) (b := 60000000) (by unfold small at hb hd; omega) (by omega)
  have r1 : -6000000000000000 ≤ (c - a) * (YN - b * YD) * XD ∧ (c - a) * (YN - b * YD) * XD ≤ 6000000000000000 := mul_in (a := 6000000000) (b := 1000000) n1 ⟨by omega, x4⟩
  have r2 : -6000000000000000 ≤ (d - b) * (XN - a * XD) * YD ∧ (d - b) * (XN - a * XD) * YD ≤ 6000000000000000 := mul_in (a := 6000000000) (b := 1000000) n2 ⟨by omega, y4⟩
  have w1 : IntKind.i64.wrap (b * YD) = b * YD := by rw [IntKind.wrap_i64]; omega
  have w2 : IntKind.i64.wrap (a * XD) = a * XD := by rw [IntKind.wrap_i64]; omega
  have w3 : IntKind.i64.wrap (YN - b * YD) = YN - b * YD := by rw [IntKind.wrap_i64]; omega
  have w4 : IntKind.i64.wrap (XN - a * XD) = XN - a * XD := by rw [IntKind.wrap_i64]; omega
  have w5 : IntKind.i64.wrap ((c - a) * (YN - b * YD)) = (c - a) * (YN - b * YD) := by rw [IntKind.wrap_i64]; omega
  have w6 : IntKind.i64.wrap ((d - b) * (XN - a * XD)) = (d - b) * (XN - a * XD) := by rw [IntKind.wrap_i64]; omega
  have w7 : IntKind.i64.wrap ((c - a) * (YN - b * YD) * XD) = (c - a) * (YN - b * YD) * XD := by rw [IntKind.wrap_i64]; omega
  have w8 : IntKind.i64.wrap ((d - b) * (XN - a * XD) * YD) = (d - b) * (XN - a * XD) * YD := by rw [IntKind.wrap_i64]; omega
  clear m1 m2 n1 n2 r1 r2 ha hb hc hd x1 x2 x3 x4 y1 y2 y3 y4
  have key : ∀ L R S : Int, (c - a) * (YN - b * YD) * XD = L → (d - b) * (XN - a * XD) * YD = R → (L - R).sign = S → (decide (R < L) = true ∧ S = 1) ∨ (decide (R < L) = false ∧ decide (L < R) = true ∧ S = -1) ∨ (decide (R < L) = false ∧ decide (L < R) = false ∧ S = 0) → 
      Calls Tryz.prog 133 #[.agg #[.int .i64 a, .int .i64 b, .int .i64 c, .int .i64 d], .agg #[.int .i64 XN, .int .i64 XD, .int .i64 YN, .int .i64 YD]] w
        fun e w' => e = .returned (.int .i64 S) ∧ Below w.heap.size w w' := by
    intro L R S hL hR hS hcase
    clear hS
    rw [hL] at w7
    rw [hR] at w8
    have hb0 : Below w.heap.size w ((w.alloc (.cells #[.int .i64 a, .int .i64 b, .int .i64 c, .int .i64 d] 151)).alloc (.cells #[.int .i64 XN, .int .i64 XD, .int .i64 YN, .int .i64 YD] 100)) := ((Below.refl _ _).alloc (Nat.le_refl _) _).alloc (by simp) _
    go_enter Tryz.func133, Tryz.ntmps133
    go_wp2_with fail
    have hE : ((w.alloc (.cells #[.int .i64 a, .int .i64 b, .int .i64 c, .int .i64 d] 151)).alloc (.cells #[.int .i64 XN, .int .i64 XD, .int .i64 YN, .int .i64 YD] 100)).heap[w.heap.size]? = some (.cells #[.int .i64 a, .int .i64 b, .int .i64 c, .int .i64 d] 151 (0, 0)) := by
      rw [Below.heap_alloc _ _ _ (by simp)]; exact heap_alloc_new _ _
    have hP : ((w.alloc (.cells #[.int .i64 a, .int .i64 b, .int .i64 c, .int .i64 d] 151)).alloc (.cells #[.int .i64 XN, .int .i64 XD, .int .i64 YN, .int .i64 YD] 100)).heap[w.heap.size + 1]? = some (.cells #[.int .i64 XN, .int .i64 XD, .int .i64 YN, .int .i64 YD] 100 (0, 0)) := by
      have := heap_alloc_new (w.alloc (.cells #[.int .i64 a, .int .i64 b, .int .i64 c, .int .i64 d] 151)) (.cells #[.int .i64 XN, .int .i64 XD, .int .i64 YN, .int .i64 YD] 100)
      simpa using this
    have hsz : ((w.alloc (.cells #[.int .i64 a, .int .i64 b, .int .i64 c, .int .i64 d] 151)).alloc (.cells #[.int .i64 XN, .int .i64 XD, .int .i64 YN, .int .i64 YD] 100)).heap.size = w.heap.size + 2 := by simp
    generalize ((w.alloc (.cells #[.int .i64 a, .int .i64 b, .int .i64 c, .int .i64 d] 151)).alloc (.cells #[.int .i64 XN, .int .i64 XD, .int .i64 YN, .int .i64 YD] 100)) = W at *
    generalize hB : w.heap.size = B at *
    have hB1 : B < W.heap.size := by omega
    have hB2 : B + 1 < W.heap.size := by omega
    have e0 : W.cell? ⟨B, 0, none⟩ = some (.int .i64 a) := cell_of' hE 0
    have e1 : W.cell? ⟨B, 1, none⟩ = some (.int .i64 b) := cell_of' hE 1
    have e2 : W.cell? ⟨B, 2, none⟩ = some (.int .i64 c) := cell_of' hE 2
    have e3 : W.cell? ⟨B, 3, none⟩ = some (.int .i64 d) := cell_of' hE 3
    have p0 : W.cell? ⟨B + 1, 0, none⟩ = some (.int .i64 XN) := cell_of' hP 0
    have p1 : W.cell? ⟨B + 1, 1, none⟩ = some (.int .i64 XD) := cell_of' hP 1
    have p2 : W.cell? ⟨B + 1, 2, none⟩ = some (.int .i64 YN) := cell_of' hP 2
    have p3 : W.cell? ⟨B + 1, 3, none⟩ = some (.int .i64 YD) := cell_of' hP 3
    clear hE hP
    go_region_held3 (fun w' => w'.cell? ⟨B, 0, none⟩ = some (.int .i64 a) ∧ w'.cell? ⟨B, 1, none⟩ = some (.int .i64 b) ∧ w'.cell? ⟨B, 2, none⟩ = some (.int .i64 c) ∧ w'.cell? ⟨B, 3, none⟩ = some (.int .i64 d) ∧ w'.cell? ⟨B + 1, 0, none⟩ = some (.int .i64 XN) ∧ w'.cell? ⟨B + 1, 1, none⟩ = some (.int .i64 XD) ∧ w'.cell? ⟨B + 1, 2, none⟩ = some (.int .i64 YN) ∧ w'.cell? ⟨B + 1, 3, none⟩ = some (.int .i64 YD)) (go_keep) (first | (go_at_call_of 135 (Value.agg #[Value.int IntKind.i64 a, Value.int IntKind.i64 b, Value.int IntKind.i64 c, Value.int IntKind.i64 d]); refine (HX.out _).mono ?_; rintro e w5 ⟨rfl, hb5⟩; have qe0 := (hb5.cell (p := ⟨B, 0, none⟩) hB1).trans e0; have qe1 := (hb5.cell (p := ⟨B, 1, none⟩) hB1).trans e1; have qe2 := (hb5.cell (p := ⟨B, 2, none⟩) hB1).trans e2; have qe3 := (hb5.cell (p := ⟨B, 3, none⟩) hB1).trans e3; have qp0 := (hb5.cell (p := ⟨B + 1, 0, none⟩) hB2).trans p0; have qp1 := (hb5.cell (p := ⟨B + 1, 1, none⟩) hB2).trans p1; have qp2 := (hb5.cell (p := ⟨B + 1, 2, none⟩) hB2).trans p2; have qp3 := (hb5.cell (p := ⟨B + 1, 3, none⟩) hB2).trans p3))
    go_wp2_with fail
    have hC1 : B < w5.heap.size := Nat.lt_of_lt_of_le hB1 hb5.size
    have hC2 : B + 1 < w5.heap.size := Nat.lt_of_lt_of_le hB2 hb5.size
    go_region_held3 (fun w' => w'.cell? ⟨B, 0, none⟩ = some (.int .i64 a) ∧ w'.cell? ⟨B, 1, none⟩ = some (.int .i64 b) ∧ w'.cell? ⟨B, 2, none⟩ = some (.int .i64 c) ∧ w'.cell? ⟨B, 3, none⟩ = some (.int .i64 d) ∧ w'.cell? ⟨B + 1, 0, none⟩ = some (.int .i64 XN) ∧ w'.cell? ⟨B + 1, 1, none⟩ = some (.int .i64 XD) ∧ w'.cell? ⟨B + 1, 2, none⟩ = some (.int .i64 YN) ∧ w'.cell? ⟨B + 1, 3, none⟩ = some (.int .i64 YD)) (go_keep) (first | (go_at_call_of 137 (Value.agg #[Value.int IntKind.i64 a, Value.int IntKind.i64 b, Value.int IntKind.i64 c, Value.int IntKind.i64 d]); refine (HY.out _).mono ?_; rintro e w6 ⟨rfl, hb6⟩; have re0 := (hb6.cell (p := ⟨B, 0, none⟩) hC1).trans qe0; have re1 := (hb6.cell (p := ⟨B, 1, none⟩) hC1).trans qe1; have re2 := (hb6.cell (p := ⟨B, 2, none⟩) hC1).trans qe2; have re3 := (hb6.cell (p := ⟨B, 3, none⟩) hC1).trans qe3; have rp0 := (hb6.cell (p := ⟨B + 1, 0, none⟩) hC2).trans qp0; have rp1 := (hb6.cell (p := ⟨B + 1, 1, none⟩) hC2).trans qp1; have rp2 := (hb6.cell (p := ⟨B + 1, 2, none⟩) hC2).trans qp2; have rp3 := (hb6.cell (p := ⟨B + 1, 3, none⟩) hC2).trans qp3))
    clear hL hR
    have hbel : Below w.heap.size w w6 := by
      rw [hB]
      exact (hb0.drew.trans (hb5.mono (by show B ≤ W.heap.size; omega))).drew.trans (hb6.mono (by show B ≤ w5.heap.size; omega))
    rcases hcase with ⟨h1, rfl⟩ | ⟨h1, h2, rfl⟩ | ⟨h1, h2, rfl⟩
    all_goals
      go_wp2_with fail
      go_ret
      exact ⟨rfl, hbel⟩
  refine key _ _ _ rfl rfl rfl ?_
  rcases Int.lt_trichotomy ((c - a) * (YN - b * YD) * XD) ((d - b) * (XN - a * XD) * YD) with h | h | h
  · exact Or.inr (Or.inl ⟨decide_eq_false (by omega), decide_eq_true h, sign_neg' (by omega)⟩)
  · exact Or.inr (Or.inr ⟨decide_eq_false (by omega), decide_eq_false (by omega), by rw [h, Int.sub_self]; rfl⟩)
  · exact Or.inl ⟨decide_eq_true h, sign_pos' (by omega)⟩

end Go.Proofs.YtkjhhooecopolaaGreatDoor
