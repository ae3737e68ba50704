import Derived.Test.YtkjhhooecopolaaGreatDoorKj36
namespace Go.Proofs.YtkjhhooecopolaaGreatDoor
open Go.RowKit

namespace Ge
def crE (e f : Pt × Pt) : Int := (e.2.1 - e.1.1) * (f.2.2 - f.1.2) - (e.2.2 - e.1.2) * (f.2.1 - f.1.1)
def mT (e f : Pt × Pt) : Int := (f.1.1 - e.1.1) * (f.2.2 - f.1.2) - (f.1.2 - e.1.2) * (f.2.1 - f.1.1)
def mX (e f : Pt × Pt) : Int := e.1.1 * crE e f + (e.2.1 - e.1.1) * mT e f
def mY (e f : Pt × Pt) : Int := e.1.2 * crE e f + (e.2.2 - e.1.2) * mT e f
/-- Where the lines of two edges meet. -/
def meetP (e f : Pt × Pt) : Qt := (fr2 (mX e f) (crE e f), fr2 (mY e f) (crE e f))
end Ge

set_option maxRecDepth 100000 in
set_option maxHeartbeats 2000000 in
theorem meet_core (a b c d a' b' c' d' DXE DYE DXF DYF C T P1 P2 P3 P4 : Int) (w : World)
    (H1 : Hid (∀ w1, Calls Tryz.prog 135 #[.agg #[.int .i64 a, .int .i64 b, .int .i64 c, .int .i64 d]] w1 fun e w' => e = .returned (.int .i64 DXE) ∧ Below w1.heap.size w1 w'))
    (H2 : Hid (∀ w1, Calls Tryz.prog 137 #[.agg #[.int .i64 a, .int .i64 b, .int .i64 c, .int .i64 d]] w1 fun e w' => e = .returned (.int .i64 DYE) ∧ Below w1.heap.size w1 w'))
    (H3 : Hid (∀ w1, Calls Tryz.prog 135 #[.agg #[.int .i64 a', .int .i64 b', .int .i64 c', .int .i64 d']] w1 fun e w' => e = .returned (.int .i64 DXF) ∧ Below w1.heap.size w1 w'))
    (H4 : Hid (∀ w1, Calls Tryz.prog 137 #[.agg #[.int .i64 a', .int .i64 b', .int .i64 c', .int .i64 d']] w1 fun e w' => e = .returned (.int .i64 DYF) ∧ Below w1.heap.size w1 w'))
    (H5 : Hid (∀ w1, Calls Tryz.prog 46 #[.int .i64 (a * C + DXE * T), .int .i64 C] w1 fun e w' => e = .returned (.agg #[.int .i64 P1, .int .i64 P2]) ∧ Below w1.heap.size w1 w'))
    (H6 : Hid (∀ w1, Calls Tryz.prog 46 #[.int .i64 (b * C + DYE * T), .int .i64 C] w1 fun e w' => e = .returned (.agg #[.int .i64 P3, .int .i64 P4]) ∧ Below w1.heap.size w1 w'))
    (v1 : IntKind.i64.wrap (DXE * DYF) = DXE * DYF) (v2 : IntKind.i64.wrap (DYE * DXF) = DYE * DXF) (v3 : IntKind.i64.wrap (DXE * DYF - DYE * DXF) = C)
    (v4 : IntKind.i64.wrap (a' - a) = a' - a) (v5 : IntKind.i64.wrap (b' - b) = b' - b) (v6 : IntKind.i64.wrap ((a' - a) * DYF) = (a' - a) * DYF) (v7 : IntKind.i64.wrap ((b' - b) * DXF) = (b' - b) * DXF)
    (v8 : IntKind.i64.wrap ((a' - a) * DYF - (b' - b) * DXF) = T) (v9 : IntKind.i64.wrap (a * C) = a * C) (v10 : IntKind.i64.wrap (DXE * T) = DXE * T) (v11 : IntKind.i64.wrap (a * C + DXE * T) = a * C + DXE * T)
    (v12 : IntKind.i64.wrap (b * C) = b * C) (v13 : IntKind.i64.wrap (DYE * T) = DYE * T) (v14 : IntKind.i64.wrap (b * C + DYE * T) = b * C + DYE * T) :
    Calls Tryz.prog 138 #[.agg #[.int .i64 a, .int .i64 b, .int .i64 c, .int .i64 d], .agg #[.int .i64 a', .int .i64 b', .int .i64 c', .int .i64 d']] w fun e w' => e = .returned (.agg #[.int .i64 P1, .int .i64 P2, .int .i64 P3, .int .i64 P4]) ∧ Below w.heap.size w w' := by
  obtain ⟨W, hW⟩ : ∃ W, W = ((w.alloc (.cells #[.int .i64 a, .int .i64 b, .int .i64 c, .int .i64 d] 151)).alloc (.cells #[.int .i64 a', .int .i64 b', .int .i64 c', .int .i64 d'] 151)).alloc (.cells #[.int .i64 0, .int .i64 0, .int .i64 0, .int .i64 0] 100) := ⟨_, rfl⟩
  have hE : W.heap[w.heap.size]? = some (.cells #[.int .i64 a, .int .i64 b, .int .i64 c, .int .i64 d] 151 (0, 0)) := by
    rw [hW, Below.heap_alloc _ _ _ (by simp; omega), Below.heap_alloc _ _ _ (by simp)]; exact heap_alloc_new _ _
  have hF : W.heap[w.heap.size + 1]? = some (.cells #[.int .i64 a', .int .i64 b', .int .i64 c', .int .i64 d'] 151 (0, 0)) := by
    rw [hW, Below.heap_alloc _ _ _ (by simp)]
    have := heap_alloc_new (w.alloc (.cells #[.int .i64 a, .int .i64 b, .int .i64 c, .int .i64 d] 151)) (.cells #[.int .i64 a', .int .i64 b', .int .i64 c', .int .i64 d'] 151)
    simpa using this
  have hP : W.heap[w.heap.size + 2]? = some (.cells #[.int .i64 0, .int .i64 0, .int .i64 0, .int .i64 0] 100 (0, 0)) := by
    rw [hW]
    have := heap_alloc_new ((w.alloc (.cells #[.int .i64 a, .int .i64 b, .int .i64 c, .int .i64 d] 151)).alloc (.cells #[.int .i64 a', .int .i64 b', .int .i64 c', .int .i64 d'] 151)) (.cells #[.int .i64 0, .int .i64 0, .int .i64 0, .int .i64 0] 100)
    simpa using this
  have hb0 : Below w.heap.size w W := by
    rw [hW]; exact (((Below.refl _ _).alloc (Nat.le_refl _) _).alloc (by simp) _).alloc (by simp; omega) _
  have hsz : w.heap.size + 3 = W.heap.size := by rw [hW]; simp
  go_enter Tryz.func138, Tryz.ntmps138
  go_wp2_with fail
  rw [← hW]
  clear hW
  generalize hB : w.heap.size = B at *
  have hza : B < W.heap.size := by omega
  have hzb : B + 1 < W.heap.size := by omega
  have z0 : W.cell? ⟨B, 0, none⟩ = some (.int .i64 a) := cell_of' hE 0
  have z1 : W.cell? ⟨B, 1, none⟩ = some (.int .i64 b) := cell_of' hE 1
  have z2 : W.cell? ⟨B, 2, none⟩ = some (.int .i64 c) := cell_of' hE 2
  have z3 : W.cell? ⟨B, 3, none⟩ = some (.int .i64 d) := cell_of' hE 3
  have z4 : W.cell? ⟨B + 1, 0, none⟩ = some (.int .i64 a') := cell_of' hF 0
  have z5 : W.cell? ⟨B + 1, 1, none⟩ = some (.int .i64 b') := cell_of' hF 1
  have z6 : W.cell? ⟨B + 1, 2, none⟩ = some (.int .i64 c') := cell_of' hF 2
  have z7 : W.cell? ⟨B + 1, 3, none⟩ = some (.int .i64 d') := cell_of' hF 3
  have hzc : B + 2 < W.heap.size := by omega
  have hzp := hP
  clear hE hF hP
  go_region_held3 (fun w' => w'.cell? ⟨B, 0, none⟩ = some (.int .i64 a) ∧ w'.cell? ⟨B, 1, none⟩ = some (.int .i64 b) ∧ w'.cell? ⟨B, 2, none⟩ = some (.int .i64 c) ∧ w'.cell? ⟨B, 3, none⟩ = some (.int .i64 d) ∧ w'.cell? ⟨B + 1, 0, none⟩ = some (.int .i64 a') ∧ w'.cell? ⟨B + 1, 1, none⟩ = some (.int .i64 b') ∧ w'.cell? ⟨B + 1, 2, none⟩ = some (.int .i64 c') ∧ w'.cell? ⟨B + 1, 3, none⟩ = some (.int .i64 d')) (go_keep) (first
      | (go_at_call_of 135 (Value.agg #[Value.int IntKind.i64 a, Value.int IntKind.i64 b, Value.int IntKind.i64 c, Value.int IntKind.i64 d]); refine (H1.out _).mono ?_; rintro e w1 ⟨rfl, hb1⟩; have hfa : B < w1.heap.size := Nat.lt_of_lt_of_le hza hb1.size; have hfb : B + 1 < w1.heap.size := Nat.lt_of_lt_of_le hzb hb1.size; have f0 := (hb1.cell (p := ⟨B, 0, none⟩) hza).trans z0; have f1 := (hb1.cell (p := ⟨B, 1, none⟩) hza).trans z1; have f2 := (hb1.cell (p := ⟨B, 2, none⟩) hza).trans z2; have f3 := (hb1.cell (p := ⟨B, 3, none⟩) hza).trans z3; have f4 := (hb1.cell (p := ⟨B + 1, 0, none⟩) hzb).trans z4; have f5 := (hb1.cell (p := ⟨B + 1, 1, none⟩) hzb).trans z5; have f6 := (hb1.cell (p := ⟨B + 1, 2, none⟩) hzb).trans z6; have f7 := (hb1.cell (p := ⟨B + 1, 3, none⟩) hzb).trans z7; have hfc : B + 2 < w1.heap.size := Nat.lt_of_lt_of_le hzc hb1.size; have hfp := (hb1.block (B + 2) hzc).trans hzp)
      | (go_at_call_of 137 (Value.agg #[Value.int IntKind.i64 a', Value.int IntKind.i64 b', Value.int IntKind.i64 c', Value.int IntKind.i64 d']); refine (H4.out _).mono ?_; rintro e w2 ⟨rfl, hb2⟩; have hga : B < w2.heap.size := Nat.lt_of_lt_of_le hfa hb2.size; have hgb : B + 1 < w2.heap.size := Nat.lt_of_lt_of_le hfb hb2.size; have g0 := (hb2.cell (p := ⟨B, 0, none⟩) hfa).trans f0; have g1 := (hb2.cell (p := ⟨B, 1, none⟩) hfa).trans f1; have g2 := (hb2.cell (p := ⟨B, 2, none⟩) hfa).trans f2; have g3 := (hb2.cell (p := ⟨B, 3, none⟩) hfa).trans f3; have g4 := (hb2.cell (p := ⟨B + 1, 0, none⟩) hfb).trans f4; have g5 := (hb2.cell (p := ⟨B + 1, 1, none⟩) hfb).trans f5; have g6 := (hb2.cell (p := ⟨B + 1, 2, none⟩) hfb).trans f6; have g7 := (hb2.cell (p := ⟨B + 1, 3, none⟩) hfb).trans f7; have hgc : B + 2 < w2.heap.size := Nat.lt_of_lt_of_le hfc hb2.size; have hgp := (hb2.block (B + 2) hfc).trans hfp)
      | (go_at_call_of 137 (Value.agg #[Value.int IntKind.i64 a, Value.int IntKind.i64 b, Value.int IntKind.i64 c, Value.int IntKind.i64 d]); refine (H2.out _).mono ?_; rintro e w3 ⟨rfl, hb3⟩; have hha : B < w3.heap.size := Nat.lt_of_lt_of_le hga hb3.size; have hhb : B + 1 < w3.heap.size := Nat.lt_of_lt_of_le hgb hb3.size; have h0 := (hb3.cell (p := ⟨B, 0, none⟩) hga).trans g0; have h1 := (hb3.cell (p := ⟨B, 1, none⟩) hga).trans g1; have h2 := (hb3.cell (p := ⟨B, 2, none⟩) hga).trans g2; have h3 := (hb3.cell (p := ⟨B, 3, none⟩) hga).trans g3; have h4 := (hb3.cell (p := ⟨B + 1, 0, none⟩) hgb).trans g4; have h5 := (hb3.cell (p := ⟨B + 1, 1, none⟩) hgb).trans g5; have h6 := (hb3.cell (p := ⟨B + 1, 2, none⟩) hgb).trans g6; have h7 := (hb3.cell (p := ⟨B + 1, 3, none⟩) hgb).trans g7; have hhc : B + 2 < w3.heap.size := Nat.lt_of_lt_of_le hgc hb3.size; have hhp := (hb3.block (B + 2) hgc).trans hgp)
      | (go_at_call_of 135 (Value.agg #[Value.int IntKind.i64 a', Value.int IntKind.i64 b', Value.int IntKind.i64 c', Value.int IntKind.i64 d']); refine (H3.out _).mono ?_; rintro e w4 ⟨rfl, hb4⟩; have hia : B < w4.heap.size := Nat.lt_of_lt_of_le hha hb4.size; have hib : B + 1 < w4.heap.size := Nat.lt_of_lt_of_le hhb hb4.size; have i0 := (hb4.cell (p := ⟨B, 0, none⟩) hha).trans h0; have i1 := (hb4.cell (p := ⟨B, 1, none⟩) hha).trans h1; have i2 := (hb4.cell (p := ⟨B, 2, none⟩) hha).trans h2; have i3 := (hb4.cell (p := ⟨B, 3, none⟩) hha).trans h3; have i4 := (hb4.cell (p := ⟨B + 1, 0, none⟩) hhb).trans h4; have i5 := (hb4.cell (p := ⟨B + 1, 1, none⟩) hhb).trans h5; have i6 := (hb4.cell (p := ⟨B + 1, 2, none⟩) hhb).trans h6; have i7 := (hb4.cell (p := ⟨B + 1, 3, none⟩) hhb).trans h7; have hic : B + 2 < w4.heap.size := Nat.lt_of_lt_of_le hhc hb4.size; have hip := (hb4.block (B + 2) hhc).trans hhp))
  have hL4 : Below B w w4 := ((((hb0.drew.trans (hb1.mono (Nat.le_of_lt hza))).trans (hb2.mono (Nat.le_of_lt hfa))).trans (hb3.mono (Nat.le_of_lt hga))).trans (hb4.mono (Nat.le_of_lt hha)))
  clear hb0 hb1 hb2 hb3 hb4
  go_wp2_with fail
  go_region_held3 (fun w' => w'.cell? ⟨B, 0, none⟩ = some (.int .i64 a) ∧ w'.cell? ⟨B, 1, none⟩ = some (.int .i64 b) ∧ w'.cell? ⟨B, 2, none⟩ = some (.int .i64 c) ∧ w'.cell? ⟨B, 3, none⟩ = some (.int .i64 d) ∧ w'.cell? ⟨B + 1, 0, none⟩ = some (.int .i64 a') ∧ w'.cell? ⟨B + 1, 1, none⟩ = some (.int .i64 b') ∧ w'.cell? ⟨B + 1, 2, none⟩ = some (.int .i64 c') ∧ w'.cell? ⟨B + 1, 3, none⟩ = some (.int .i64 d')) (go_keep) (first
      | (go_at_call_of 137 (Value.agg #[Value.int IntKind.i64 a', Value.int IntKind.i64 b', Value.int IntKind.i64 c', Value.int IntKind.i64 d']); refine (H4.out _).mono ?_; rintro e w5 ⟨rfl, hb5⟩; have hja : B < w5.heap.size := Nat.lt_of_lt_of_le hia hb5.size; have hjb : B + 1 < w5.heap.size := Nat.lt_of_lt_of_le hib hb5.size; have j0 := (hb5.cell (p := ⟨B, 0, none⟩) hia).trans i0; have j1 := (hb5.cell (p := ⟨B, 1, none⟩) hia).trans i1; have j2 := (hb5.cell (p := ⟨B, 2, none⟩) hia).trans i2; have j3 := (hb5.cell (p := ⟨B, 3, none⟩) hia).trans i3; have j4 := (hb5.cell (p := ⟨B + 1, 0, none⟩) hib).trans i4; have j5 := (hb5.cell (p := ⟨B + 1, 1, none⟩) hib).trans i5; have j6 := (hb5.cell (p := ⟨B + 1, 2, none⟩) hib).trans i6; have j7 := (hb5.cell (p := ⟨B + 1, 3, none⟩) hib).trans i7; have hjc : B + 2 < w5.heap.size := Nat.lt_of_lt_of_le hic hb5.size; have hjp := (hb5.block (B + 2) hic).trans hip)
      | (go_at_call_of 135 (Value.agg #[Value.int IntKind.i64 a', Value.int IntKind.i64 b', Value.int IntKind.i64 c', Value.int IntKind.i64 d']); refine (H3.out _).mono ?_; rintro e w6 ⟨rfl, hb6⟩; have hka : B < w6.heap.size := Nat.lt_of_lt_of_le hja hb6.size; have hkb : B + 1 < w6.heap.size := Nat.lt_of_lt_of_le hjb hb6.size; have k0 := (hb6.cell (p := ⟨B, 0, none⟩) hja).trans j0; have k1 := (hb6.cell (p := ⟨B, 1, none⟩) hja).trans j1; have k2 := (hb6.cell (p := ⟨B, 2, none⟩) hja).trans j2; have k3 := (hb6.cell (p := ⟨B, 3, none⟩) hja).trans j3; have k4 := (hb6.cell (p := ⟨B + 1, 0, none⟩) hjb).trans j4; have k5 := (hb6.cell (p := ⟨B + 1, 1, none⟩) hjb).trans j5; have k6 := (hb6.cell (p := ⟨B + 1, 2, none⟩) hjb).trans j6; have k7 := (hb6.cell (p := ⟨B + 1, 3, none⟩) hjb).trans j7; have hkc : B + 2 < w6.heap.size := Nat.lt_of_lt_of_le hjc hb6.size; have hkp := (hb6.block (B + 2) hjc).trans hjp))
  have hL6 : Below B w w6 := (hL4.drew.trans (hb5.mono (Nat.le_of_lt hia))).trans (hb6.mono (Nat.le_of_lt hja))
  have hn1 : ¬ (B = B + 1 + 1) := by omega
  have hn2 : ¬ (B + 1 + 1 = B) := by omega
  have hn3 : ¬ (B = B + 2) := by omega
  have hn4 : ¬ (B + 2 = B) := by omega
  have y0 : w6.frozen? ⟨B + 2, 0, none⟩ = false := frozen_of' hkp 0
  have y1 : w6.frozen? ⟨B + 2, 1, none⟩ = false := frozen_of' hkp 1
  have y2 : w6.frozen? ⟨B + 2, 2, none⟩ = false := frozen_of' hkp 2
  have y3 : w6.frozen? ⟨B + 2, 3, none⟩ = false := frozen_of' hkp 3
  clear hL4 hb5 hb6
  go_wp2_with fail
  go_region_held3 (fun w' => w'.cell? ⟨B, 0, none⟩ = some (.int .i64 a) ∧ w'.cell? ⟨B, 1, none⟩ = some (.int .i64 b) ∧ w'.cell? ⟨B, 2, none⟩ = some (.int .i64 c) ∧ w'.cell? ⟨B, 3, none⟩ = some (.int .i64 d) ∧ w'.cell? ⟨B + 1, 0, none⟩ = some (.int .i64 a') ∧ w'.cell? ⟨B + 1, 1, none⟩ = some (.int .i64 b') ∧ w'.cell? ⟨B + 1, 2, none⟩ = some (.int .i64 c') ∧ w'.cell? ⟨B + 1, 3, none⟩ = some (.int .i64 d') ∧ w'.frozen? ⟨B + 2, 0, none⟩ = false ∧ w'.frozen? ⟨B + 2, 1, none⟩ = false ∧ w'.frozen? ⟨B + 2, 2, none⟩ = false ∧ w'.frozen? ⟨B + 2, 3, none⟩ = false) (first | go_keep | (go_split_ands; refine ⟨?_, ?_, ?_, ?_, ?_, ?_, ?_, ?_, ?_, ?_, ?_, ?_⟩ <;> first | (simp [World.frozen?_setCell, *]; done) | (simp [*]; done))) (first
      | (go_at_call_of 135 (Value.agg #[Value.int IntKind.i64 a, Value.int IntKind.i64 b, Value.int IntKind.i64 c, Value.int IntKind.i64 d]); refine (H1.out _).mono ?_; rintro e w7 ⟨rfl, hb7⟩; have hla : B < w7.heap.size := Nat.lt_of_lt_of_le hka hb7.size; have hlb : B + 1 < w7.heap.size := Nat.lt_of_lt_of_le hkb hb7.size; have l0 := (hb7.cell (p := ⟨B, 0, none⟩) hka).trans k0; have l1 := (hb7.cell (p := ⟨B, 1, none⟩) hka).trans k1; have l2 := (hb7.cell (p := ⟨B, 2, none⟩) hka).trans k2; have l3 := (hb7.cell (p := ⟨B, 3, none⟩) hka).trans k3; have l4 := (hb7.cell (p := ⟨B + 1, 0, none⟩) hkb).trans k4; have l5 := (hb7.cell (p := ⟨B + 1, 1, none⟩) hkb).trans k5; have l6 := (hb7.cell (p := ⟨B + 1, 2, none⟩) hkb).trans k6; have l7 := (hb7.cell (p := ⟨B + 1, 3, none⟩) hkb).trans k7; have hlc : B + 2 < w7.heap.size := Nat.lt_of_lt_of_le hkc hb7.size; have hlp := (hb7.block (B + 2) hkc).trans hkp; have lq0 : w7.cell? ⟨B + 2, 0, none⟩ = some (.int .i64 0) := cell_of' hlp 0; have lz0 : w7.frozen? ⟨B + 2, 0, none⟩ = false := frozen_of' hlp 0; have lq1 : w7.cell? ⟨B + 2, 1, none⟩ = some (.int .i64 0) := cell_of' hlp 1; have lz1 : w7.frozen? ⟨B + 2, 1, none⟩ = false := frozen_of' hlp 1; have lq2 : w7.cell? ⟨B + 2, 2, none⟩ = some (.int .i64 0) := cell_of' hlp 2; have lz2 : w7.frozen? ⟨B + 2, 2, none⟩ = false := frozen_of' hlp 2; have lq3 : w7.cell? ⟨B + 2, 3, none⟩ = some (.int .i64 0) := cell_of' hlp 3; have lz3 : w7.frozen? ⟨B + 2, 3, none⟩ = false := frozen_of' hlp 3)
      | (go_at_call_of 46 (Value.int IntKind.i64 (a * C + DXE * T)); refine (H5.out _).mono ?_; rintro e w8 ⟨rfl, hb8⟩; have hma : B < w8.heap.size := Nat.lt_of_lt_of_le hla hb8.size; have hmb : B + 1 < w8.heap.size := Nat.lt_of_lt_of_le hlb hb8.size; have m0 := (hb8.cell (p := ⟨B, 0, none⟩) hla).trans l0; have m1 := (hb8.cell (p := ⟨B, 1, none⟩) hla).trans l1; have m2 := (hb8.cell (p := ⟨B, 2, none⟩) hla).trans l2; have m3 := (hb8.cell (p := ⟨B, 3, none⟩) hla).trans l3; have m4 := (hb8.cell (p := ⟨B + 1, 0, none⟩) hlb).trans l4; have m5 := (hb8.cell (p := ⟨B + 1, 1, none⟩) hlb).trans l5; have m6 := (hb8.cell (p := ⟨B + 1, 2, none⟩) hlb).trans l6; have m7 := (hb8.cell (p := ⟨B + 1, 3, none⟩) hlb).trans l7; have hmc : B + 2 < w8.heap.size := Nat.lt_of_lt_of_le hlc hb8.size; have hmp := (hb8.block (B + 2) hlc).trans hlp; have mq0 : w8.cell? ⟨B + 2, 0, none⟩ = some (.int .i64 0) := cell_of' hmp 0; have mz0 : w8.frozen? ⟨B + 2, 0, none⟩ = false := frozen_of' hmp 0; have mq1 : w8.cell? ⟨B + 2, 1, none⟩ = some (.int .i64 0) := cell_of' hmp 1; have mz1 : w8.frozen? ⟨B + 2, 1, none⟩ = false := frozen_of' hmp 1; have mq2 : w8.cell? ⟨B + 2, 2, none⟩ = some (.int .i64 0) := cell_of' hmp 2; have mz2 : w8.frozen? ⟨B + 2, 2, none⟩ = false := frozen_of' hmp 2; have mq3 : w8.cell? ⟨B + 2, 3, none⟩ = some (.int .i64 0) := cell_of' hmp 3; have mz3 : w8.frozen? ⟨B + 2, 3, none⟩ = false := frozen_of' hmp 3)
      | (go_at_call_of 137 (Value.agg #[Value.int IntKind.i64 a, Value.int IntKind.i64 b, Value.int IntKind.i64 c, Value.int IntKind.i64 d]); refine (H2.out _).mono ?_; rintro e w9 ⟨rfl, hb9⟩; have hna : B < w9.heap.size := Nat.lt_of_lt_of_le hma hb9.size; have hnb : B + 1 < w9.heap.size := Nat.lt_of_lt_of_le hmb hb9.size; have n0 := (hb9.cell (p := ⟨B, 0, none⟩) hma).trans m0; have n1 := (hb9.cell (p := ⟨B, 1, none⟩) hma).trans m1; have n2 := (hb9.cell (p := ⟨B, 2, none⟩) hma).trans m2; have n3 := (hb9.cell (p := ⟨B, 3, none⟩) hma).trans m3; have n4 := (hb9.cell (p := ⟨B + 1, 0, none⟩) hmb).trans m4; have n5 := (hb9.cell (p := ⟨B + 1, 1, none⟩) hmb).trans m5; have n6 := (hb9.cell (p := ⟨B + 1, 2, none⟩) hmb).trans m6; have n7 := (hb9.cell (p := ⟨B + 1, 3, none⟩) hmb).trans m7; have hnc : B + 2 < w9.heap.size := Nat.lt_of_lt_of_le hmc hb9.size; have hnp := (hb9.block (B + 2) hmc).trans hmp; have nq0 : w9.cell? ⟨B + 2, 0, none⟩ = some (.int .i64 0) := cell_of' hnp 0; have nz0 : w9.frozen? ⟨B + 2, 0, none⟩ = false := frozen_of' hnp 0; have nq1 : w9.cell? ⟨B + 2, 1, none⟩ = some (.int .i64 0) := cell_of' hnp 1; have nz1 : w9.frozen? ⟨B + 2, 1, none⟩ = false := frozen_of' hnp 1; have nq2 : w9.cell? ⟨B + 2, 2, none⟩ = some (.int .i64 0) := cell_of' hnp 2; have nz2 : w9.frozen? ⟨B + 2, 2, none⟩ = false := frozen_of' hnp 2; have nq3 : w9.cell? ⟨B + 2, 3, none⟩ = some (.int .i64 0) := cell_of' hnp 3; have nz3 : w9.frozen? ⟨B + 2, 3, none⟩ = false := frozen_of' hnp 3)
      | (go_at_call_of 46 (Value.int IntKind.i64 (b * C + DYE * T)); refine (H6.out _).mono ?_; rintro e w10 ⟨rfl, hb10⟩; have hoa : B < w10.heap.size := Nat.lt_of_lt_of_le hna hb10.size; have hob : B + 1 < w10.heap.size := Nat.lt_of_lt_of_le hnb hb10.size; have o0 := (hb10.cell (p := ⟨B, 0, none⟩) hna).trans n0; have o1 := (hb10.cell (p := ⟨B, 1, none⟩) hna).trans n1; have o2 := (hb10.cell (p := ⟨B, 2, none⟩) hna).trans n2; have o3 := (hb10.cell (p := ⟨B, 3, none⟩) hna).trans n3; have o4 := (hb10.cell (p := ⟨B + 1, 0, none⟩) hnb).trans n4; have o5 := (hb10.cell (p := ⟨B + 1, 1, none⟩) hnb).trans n5; have o6 := (hb10.cell (p := ⟨B + 1, 2, none⟩) hnb).trans n6; have o7 := (hb10.cell (p := ⟨B + 1, 3, none⟩) hnb).trans n7; have hoc : B + 2 < w10.heap.size := Nat.lt_of_lt_of_le hnc hb10.size; have hop := (hb10.block (B + 2) hnc).trans hnp; have oq0 : w10.cell? ⟨B + 2, 0, none⟩ = some (.int .i64 0) := cell_of' hop 0; have oz0 : w10.frozen? ⟨B + 2, 0, none⟩ = false := frozen_of' hop 0; have oq1 : w10.cell? ⟨B + 2, 1, none⟩ = some (.int .i64 0) := cell_of' hop 1; have oz1 : w10.frozen? ⟨B + 2, 1, none⟩ = false := frozen_of' hop 1; have oq2 : w10.cell? ⟨B + 2, 2, none⟩ = some (.int .i64 0) := cell_of' hop 2; have oz2 : w10.frozen? ⟨B + 2, 2, none⟩ = false := frozen_of' hop 2; have oq3 : w10.cell? ⟨B + 2, 3, none⟩ = some (.int .i64 0) := cell_of' hop 3; have oz3 : w10.frozen? ⟨B + 2, 3, none⟩ = false := frozen_of' hop 3))
  go_wp2_with fail
  have hL10 : Below B w w10 := (((hL6.drew.trans (hb7.mono (Nat.le_of_lt hka))).trans (hb8.mono (Nat.le_of_lt hla))).trans (hb9.mono (Nat.le_of_lt hma))).trans (hb10.mono (Nat.le_of_lt hna))
  refine bodyPost_ret (v := .agg #[.int .i64 P1, .int .i64 P2, .int .i64 P3, .int .i64 P4]) (by simp [results, Tryz.results138, go_sem, oq0, oq1, oq2, oq3]) rfl ⟨rfl, ?_⟩
  rw [hB]
  exact (((hL10.setCell (by simp; omega) _).setCell (by simp; omega) _).setCell (by simp; omega) _).setCell (by simp; omega) _

theorem meet_any (e f : Ed) (w : World) (he : smallE e) (hf : smallE f) (hc : Ge.crE e f ≠ 0) :
    Calls Tryz.prog 138 #[.agg (edA e), .agg (edA f)] w fun r w' => r = .returned (.agg (qA (Ge.meetP e f))) ∧ Below w.heap.size w w' := by
  obtain ⟨a1, a2, a3, a4⟩ := he
  obtain ⟨b1, b2, b3, b4⟩ := hf
  have sm1 : ∀ {x y : Int}, small x → small y → -100 ≤ y - x ∧ y - x ≤ 100 := fun hx hy => by unfold small at *; omega
  have x1 := sm1 a1 a3
  have x2 := sm1 a2 a4
  have x3 := sm1 b1 b3
  have x4 := sm1 b2 b4
  have x5 := sm1 a1 b1
  have x6 := sm1 a2 b2
  have m1 : -10000 ≤ (e.2.1 - e.1.1) * (f.2.2 - f.1.2) ∧ (e.2.1 - e.1.1) * (f.2.2 - f.1.2) ≤ 10000 := mul_in (a := 100) (b := 100) x1 x4
  have m2 : -10000 ≤ (e.2.2 - e.1.2) * (f.2.1 - f.1.1) ∧ (e.2.2 - e.1.2) * (f.2.1 - f.1.1) ≤ 10000 := mul_in (a := 100) (b := 100) x2 x3
  have m3 : -10000 ≤ (f.1.1 - e.1.1) * (f.2.2 - f.1.2) ∧ (f.1.1 - e.1.1) * (f.2.2 - f.1.2) ≤ 10000 := mul_in (a := 100) (b := 100) x5 x4
  have m4 : -10000 ≤ (f.1.2 - e.1.2) * (f.2.1 - f.1.1) ∧ (f.1.2 - e.1.2) * (f.2.1 - f.1.1) ≤ 10000 := mul_in (a := 100) (b := 100) x6 x3
  have hC : Ge.crE e f = (e.2.1 - e.1.1) * (f.2.2 - f.1.2) - (e.2.2 - e.1.2) * (f.2.1 - f.1.1) := rfl
  have hT : Ge.mT e f = (f.1.1 - e.1.1) * (f.2.2 - f.1.2) - (f.1.2 - e.1.2) * (f.2.1 - f.1.1) := rfl
  have cb : -20000 ≤ Ge.crE e f ∧ Ge.crE e f ≤ 20000 := by omega
  have tb : -20000 ≤ Ge.mT e f ∧ Ge.mT e f ≤ 20000 := by omega
  have m5 : -1000000 ≤ e.1.1 * Ge.crE e f ∧ e.1.1 * Ge.crE e f ≤ 1000000 := mul_in (a := 50) (b := 20000) a1 cb
  have m6 : -2000000 ≤ (e.2.1 - e.1.1) * Ge.mT e f ∧ (e.2.1 - e.1.1) * Ge.mT e f ≤ 2000000 := mul_in (a := 100) (b := 20000) x1 tb
  have m7 : -1000000 ≤ e.1.2 * Ge.crE e f ∧ e.1.2 * Ge.crE e f ≤ 1000000 := mul_in (a := 50) (b := 20000) a2 cb
  have m8 : -2000000 ≤ (e.2.2 - e.1.2) * Ge.mT e f ∧ (e.2.2 - e.1.2) * Ge.mT e f ≤ 2000000 := mul_in (a := 100) (b := 20000) x2 tb
  have wp : ∀ {z : Int}, -9223372036854775808 ≤ z → z ≤ 9223372036854775807 → IntKind.i64.wrap z = z := fun h1 h2 => by rw [IntKind.wrap_i64]; omega
  have h := meet_core e.1.1 e.1.2 e.2.1 e.2.2 f.1.1 f.1.2 f.2.1 f.2.2 (e.2.1 - e.1.1) (e.2.2 - e.1.2) (f.2.1 - f.1.1) (f.2.2 - f.1.2) (Ge.crE e f) (Ge.mT e f) (Ge.meetP e f).1.1 (Ge.meetP e f).1.2 (Ge.meetP e f).2.1 (Ge.meetP e f).2.2 w
    (fun w1 => rDx_any _ _ _ _ w1 a1 a3) (fun w1 => rDy_any _ _ _ _ w1 a2 a4) (fun w1 => rDx_any _ _ _ _ w1 b1 b3) (fun w1 => rDy_any _ _ _ _ w1 b2 b4)
    (fun w1 => frac_any _ _ w1 hc (by omega) (by omega)) (fun w1 => frac_any _ _ w1 hc (by omega) (by omega))
    (wp (by omega) (by omega)) (wp (by omega) (by omega)) (by rw [wp (by omega) (by omega)]; rfl) (wp (by omega) (by omega)) (wp (by omega) (by omega)) (wp (by omega) (by omega)) (wp (by omega) (by omega)) (by rw [wp (by omega) (by omega)]; rfl)
    (wp (by omega) (by omega)) (wp (by omega) (by omega)) (wp (by omega) (by omega)) (wp (by omega) (by omega)) (wp (by omega) (by omega)) (wp (by omega) (by omega))
  exact h

end Go.Proofs.YtkjhhooecopolaaGreatDoor

namespace Go.Proofs.YtkjhhooecopolaaGreatDoor
open Go.RowKit

namespace Ge
/-- Does the edge hold the point? -/
def hq (p : Qt) (e : Pt × Pt) : Bool := fo (p.1.1 * p.2.2, p.2.1 * p.1.2) (p.1.2 * p.2.2) e
def pt (a : Pt) : Qt := ((a.1, 1), (a.2, 1))
def stepC (e : Pt × Pt) (out : List Qt) (f : Pt × Pt) : List Qt :=
  if crE e f = 0 then
    (let o1 := if hq (pt f.1) e then ins (pt f.1) out else out
     if hq (pt f.2) e then ins (pt f.2) o1 else o1)
  else if hq (meetP e f) e && hq (meetP e f) f then ins (meetP e f) out else out
def cutsL (l : List (Pt × Pt)) (e : Pt × Pt) : List Qt := l.foldl (stepC e) (ins (pt e.2) (ins (pt e.1) []))

theorem pt_red (a : Pt) : RedP (pt a) := ⟨⟨by show (0 : Int) < 1; decide, by show Int.gcd a.1 1 = 1; exact Int.gcd_one ..⟩, ⟨by show (0 : Int) < 1; decide, by show Int.gcd a.2 1 = 1; exact Int.gcd_one ..⟩⟩
theorem meet_red {e f : Pt × Pt} (h : crE e f ≠ 0) : RedP (meetP e f) := ⟨fr2_red h, fr2_red h⟩
theorem ins_len (p : Qt) : ∀ l : List Qt, (ins p l).length ≤ l.length + 1
  | [] => by simp [ins]
  | q :: l => by
    have ih := ins_len p l
    unfold ins
    split
    · simp
    · split <;> simp <;> omega
end Ge

/-- What is asked of every list of points. -/
structure Good (l : List Ge.Qt) : Prop where
  inn : ∀ q ∈ l, QIn q
  red : ∀ q ∈ l, Ge.RedP q
  asc : Ge.Asc l
theorem Good.ins {l : List Ge.Qt} {p : Ge.Qt} (h : Good l) (hp : QIn p) (hr : Ge.RedP p) : Good (Ge.ins p l) :=
  ⟨fun q hq => by
    rcases (Ge.ins_mem hr h.red q).1 hq with e | e
    · rw [e]; exact hp
    · exact h.inn q e, Ge.ins_red hr h.red, Ge.ins_asc hr h.red h.asc⟩
theorem good_nil : Good [] := ⟨fun q h => by simp at h, fun q h => by simp at h, List.Pairwise.nil⟩
theorem pt_in {a : Int × Int} (h1 : small a.1) (h2 : small a.2) : QIn (Ge.pt a) := by
  unfold small at h1 h2
  exact ⟨by show -10000000 ≤ a.1 ∧ a.1 ≤ 10000000; omega, by show (0 : Int) < 1 ∧ (1 : Int) ≤ 1000000; omega, by show -10000000 ≤ a.2 ∧ a.2 ≤ 10000000; omega, by show (0 : Int) < 1 ∧ (1 : Int) ≤ 1000000; omega⟩
theorem fr2_in {n d : Int} (hd : d ≠ 0) (hn : -10000000 ≤ n ∧ n ≤ 10000000) (hd2 : -1000000 ≤ d ∧ d ≤ 1000000) : (-10000000 ≤ (Ge.fr2 n d).1 ∧ (Ge.fr2 n d).1 ≤ 10000000) ∧ (0 < (Ge.fr2 n d).2 ∧ (Ge.fr2 n d).2 ≤ 1000000) := by
  obtain ⟨g, g0, h1, h2, _⟩ := Ge.fr2_eq (n := n) hd
  have hp := (Ge.fr2_red (n := n) hd).pos
  have hg : 1 ≤ g.natAbs := by omega
  have k1 : (Ge.fr2 n d).1.natAbs ≤ n.natAbs := by
    conv => rhs; rw [h1]
    rw [Int.natAbs_mul]
    exact Nat.le_mul_of_pos_left _ hg
  have k2 : (Ge.fr2 n d).2.natAbs ≤ d.natAbs := by
    conv => rhs; rw [h2]
    rw [Int.natAbs_mul]
    exact Nat.le_mul_of_pos_left _ hg
  omega
theorem crE_in {e f : Ed} (he : smallE e) (hf : smallE f) : (-20000 ≤ Ge.crE e f ∧ Ge.crE e f ≤ 20000) ∧ (-3000000 ≤ Ge.mX e f ∧ Ge.mX e f ≤ 3000000) ∧ (-3000000 ≤ Ge.mY e f ∧ Ge.mY e f ≤ 3000000) := by
  obtain ⟨a1, a2, a3, a4⟩ := he
  obtain ⟨b1, b2, b3, b4⟩ := hf
  have sm1 : ∀ {x y : Int}, small x → small y → -100 ≤ y - x ∧ y - x ≤ 100 := fun hx hy => by unfold small at *; omega
  have x1 := sm1 a1 a3
  have x2 := sm1 a2 a4
  have x3 := sm1 b1 b3
  have x4 := sm1 b2 b4
  have x5 := sm1 a1 b1
  have x6 := sm1 a2 b2
  have m1 : -10000 ≤ (e.2.1 - e.1.1) * (f.2.2 - f.1.2) ∧ (e.2.1 - e.1.1) * (f.2.2 - f.1.2) ≤ 10000 := mul_in (a := 100) (b := 100) x1 x4
  have m2 : -10000 ≤ (e.2.2 - e.1.2) * (f.2.1 - f.1.1) ∧ (e.2.2 - e.1.2) * (f.2.1 - f.1.1) ≤ 10000 := mul_in (a := 100) (b := 100) x2 x3
  have m3 : -10000 ≤ (f.1.1 - e.1.1) * (f.2.2 - f.1.2) ∧ (f.1.1 - e.1.1) * (f.2.2 - f.1.2) ≤ 10000 := mul_in (a := 100) (b := 100) x5 x4
  have m4 : -10000 ≤ (f.1.2 - e.1.2) * (f.2.1 - f.1.1) ∧ (f.1.2 - e.1.2) * (f.2.1 - f.1.1) ≤ 10000 := mul_in (a := 100) (b := 100) x6 x3
  have hC : Ge.crE e f = (e.2.1 - e.1.1) * (f.2.2 - f.1.2) - (e.2.2 - e.1.2) * (f.2.1 - f.1.1) := rfl
  have hT : Ge.mT e f = (f.1.1 - e.1.1) * (f.2.2 - f.1.2) - (f.1.2 - e.1.2) * (f.2.1 - f.1.1) := rfl
  have cb : -20000 ≤ Ge.crE e f ∧ Ge.crE e f ≤ 20000 := by omega
  have tb : -20000 ≤ Ge.mT e f ∧ Ge.mT e f ≤ 20000 := by omega
  have m5 : -1000000 ≤ e.1.1 * Ge.crE e f ∧ e.1.1 * Ge.crE e f ≤ 1000000 := mul_in (a := 50) (b := 20000) a1 cb
  have m6 : -2000000 ≤ (e.2.1 - e.1.1) * Ge.mT e f ∧ (e.2.1 - e.1.1) * Ge.mT e f ≤ 2000000 := mul_in (a := 100) (b := 20000) x1 tb
  have m7 : -1000000 ≤ e.1.2 * Ge.crE e f ∧ e.1.2 * Ge.crE e f ≤ 1000000 := mul_in (a := 50) (b := 20000) a2 cb
  have m8 : -2000000 ≤ (e.2.2 - e.1.2) * Ge.mT e f ∧ (e.2.2 - e.1.2) * Ge.mT e f ≤ 2000000 := mul_in (a := 100) (b := 20000) x2 tb
  refine ⟨cb, ?_, ?_⟩
  · unfold Ge.mX; omega
  · unfold Ge.mY; omega
theorem meet_in {e f : Ed} (he : smallE e) (hf : smallE f) (hc : Ge.crE e f ≠ 0) : QIn (Ge.meetP e f) := by
  obtain ⟨h1, h2, h3⟩ := crE_in he hf
  have k1 := fr2_in (n := Ge.mX e f) hc (by omega) (by omega)
  have k2 := fr2_in (n := Ge.mY e f) hc (by omega) (by omega)
  exact ⟨k1.1, k1.2, k2.1, k2.2⟩
theorem hq_of (p : Ge.Qt) (hp : QIn p) : PtOf p.1.1 p.1.2 p.2.1 p.2.2 (p.1.1 * p.2.2) (p.2.1 * p.1.2) (p.1.2 * p.2.2) :=
  ⟨hp, ⟨p.2.2, hp.yd.1, Int.mul_comm .., Int.mul_comm ..⟩, ⟨p.1.2, hp.xd.1, Int.mul_comm .., rfl⟩⟩
theorem hq_any (p : Ge.Qt) (e : Ed) (w : World) (hp : QIn p) (he : smallE e) :
    Calls Tryz.prog 80 #[.agg (edA e), .agg (qA p)] w fun r w' => r = .returned (.bool (Ge.hq p e)) ∧ Below w.heap.size w w' :=
  rholds_any e p.1.1 p.1.2 p.2.1 p.2.2 _ _ _ w he (hq_of p hp)

end Go.Proofs.YtkjhhooecopolaaGreatDoor
