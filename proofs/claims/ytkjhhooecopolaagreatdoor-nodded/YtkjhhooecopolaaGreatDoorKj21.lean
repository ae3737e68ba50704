import Derived.Test.YtkjhhooecopolaaGreatDoorKj18
import Derived.Test.YtkjhhooecopolaaGreatDoorKj20
namespace Go.Proofs.YtkjhhooecopolaaGreatDoor
open Go.RowKit

/-- The words of an edge: its way, its shift, its ends. -/
structure EB where
  wa : Nat
  wb : Nat
  sh : Nat
  fa : Nat
  fb : Nat
  ta : Nat
  tb : Nat
def EB.cells (x : EB) : Array Value := #[.complex .f64 x.wa x.wb, .float .f64 x.sh, .complex .f64 x.fa x.fb, .complex .f64 x.ta x.tb]
structure EBok (x : EB) (e : Ed) : Prop where
  wa : Fl x.wa (e.2.1 - e.1.1)
  wb : Fl x.wb (e.2.2 - e.1.2)
  sh : Fl x.sh ((e.2.1 - e.1.1) * e.1.2 - (e.2.2 - e.1.2) * e.1.1)
  fa : Fl x.fa e.1.1
  fb : Fl x.fb e.1.2
  ta : Fl x.ta e.2.1
  tb : Fl x.tb e.2.2

structure NodeIn (X Y D : Int) : Prop where
  x : X.natAbs ≤ 16000000
  y : Y.natAbs ≤ 16000000
  d : 0 < D ∧ D ≤ 300000

theorem sm_of {z : Int} (h : small z) : sm z := by unfold small at h; unfold sm; omega
theorem way_sm {X D x : Int} (hX : X.natAbs ≤ 16000000) (hD : 0 < D ∧ D ≤ 300000) (hx : small x) : sm (X - x * D) := by
  have m : -15000000 ≤ x * D ∧ x * D ≤ 15000000 := mul_in (a := 50) (b := 300000) hx ⟨by omega, hD.2⟩
  unfold sm
  omega
theorem shift_sm {e : Ed} (h : smallE e) : sm ((e.2.1 - e.1.1) * e.1.2 - (e.2.2 - e.1.2) * e.1.1) := by
  obtain ⟨a, b, c, d⟩ := h
  unfold small at a b c d
  have m1 : -5000 ≤ (e.2.1 - e.1.1) * e.1.2 ∧ (e.2.1 - e.1.1) * e.1.2 ≤ 5000 := mul_in (a := 100) (b := 50) (by omega) (by omega)
  have m2 : -5000 ≤ (e.2.2 - e.1.2) * e.1.1 ∧ (e.2.2 - e.1.2) * e.1.1 ≤ 5000 := mul_in (a := 100) (b := 50) (by omega) (by omega)
  unfold sm
  omega

/-- How far the node lies to the left of the edge's line. -/
def lf (X Y D : Int) (e : Ed) : Int := (e.2.1 - e.1.1) * Y - (e.2.2 - e.1.2) * X - ((e.2.1 - e.1.1) * e.1.2 - (e.2.2 - e.1.2) * e.1.1) * D

theorem lf_cr (X Y D : Int) (e : Ed) : D * lf X Y D e = Ge.cr (Ge.rel (X, Y) D e.1) (Ge.rel (X, Y) D e.2) := by
  obtain ⟨⟨a, b⟩, c, d⟩ := e
  simp only [lf, Ge.cr, Ge.rel]
  grind
theorem pos_of_mul {D z : Int} (hD : 0 < D) : (0 < D * z ↔ 0 < z) ∧ (D * z < 0 ↔ z < 0) ∧ (D * z = 0 ↔ z = 0) := by
  rcases Int.lt_trichotomy z 0 with h | h | h
  · have := Int.mul_neg_of_pos_of_neg hD h; omega
  · subst h; omega
  · have := Int.mul_pos hD h; omega
theorem dt_eq (X Y D : Int) (e : Ed) : (X - e.1.1 * D) * (X - e.2.1 * D) + (Y - e.1.2 * D) * (Y - e.2.2 * D) = Ge.dt (Ge.rel (X, Y) D e.1) (Ge.rel (X, Y) D e.2) := by
  obtain ⟨⟨a, b⟩, c, d⟩ := e
  simp only [Ge.dt, Ge.rel]
  grind
theorem fo_of (X Y D : Int) (e : Ed) (hD : 0 < D) : (decide (lf X Y D e = 0) && decide ((X - e.1.1 * D) * (X - e.2.1 * D) + (Y - e.1.2 * D) * (Y - e.2.2 * D) ≤ 0)) = Ge.fo (X, Y) D e := by
  unfold Ge.fo Ge.on
  rw [dt_eq, ← lf_cr]
  congr 1
  exact decide_eq_decide.2 (pos_of_mul hD).2.2.symm
theorem fr_of (X Y D : Int) (e : Ed) (hD : 0 < D) : Ge.fr (X, Y) D e.1 e.2 = if ¬ X * 1 < e.1.1 * D ∧ X * 1 < e.2.1 * D ∧ 0 < lf X Y D e then 1 else if X * 1 < e.1.1 * D ∧ ¬ X * 1 < e.2.1 * D ∧ lf X Y D e < 0 then -1 else 0 := by
  unfold Ge.fr Ge.right
  rw [← lf_cr]
  obtain ⟨p1, p2, _⟩ := pos_of_mul (z := lf X Y D e) hD
  have h1 : (Ge.rel (X, Y) D e.1).1 = D * e.1.1 - X := rfl
  have h2 : (Ge.rel (X, Y) D e.2).1 = D * e.2.1 - X := rfl
  rw [h1, h2, Int.mul_comm D e.1.1, Int.mul_comm D e.2.1]
  generalize D * lf X Y D e = Z at *
  generalize lf X Y D e = L at *
  generalize e.1.1 * D = U at *
  generalize e.2.1 * D = V at *
  repeat' split
  all_goals omega

end Go.Proofs.YtkjhhooecopolaaGreatDoor

namespace Go.Proofs.YtkjhhooecopolaaGreatDoor
open Go.RowKit

set_option maxRecDepth 100000 in
set_option maxHeartbeats 2000000 in
theorem holds_any (xb : EB) (ed : Ed) {na nb : Nat} {X Y D : Int} (hx : EBok xb ed) (hs : smallE ed) (g1 : Fl na X) (g2 : Fl nb Y) (hn : NodeIn X Y D) (w : World) :
    Calls Tryz.prog 62 #[.agg xb.cells, .agg #[.complex .f64 na nb, .int .i64 D]] w fun e w' => e = .returned (.bool (Ge.fo (X, Y) D ed)) ∧ Below w.heap.size w w' := by
  have sX : sm X := by have := hn.x; unfold sm; omega
  have sY : sm Y := by have := hn.y; unfold sm; omega
  have sD : sm D := by have := hn.d; unfold sm; omega
  have s1 : sm (ed.2.1 - ed.1.1) := by have := hs.a; have := hs.c; unfold small at *; unfold sm; omega
  have s2 : sm (ed.2.2 - ed.1.2) := by have := hs.b; have := hs.d; unfold small at *; unfold sm; omega
  obtain ⟨r, fr, hL⟩ := leftOf_any hx.wa hx.wb hx.sh g1 g2 s1 s2 (shift_sm hs) sD sX sY
  obtain ⟨u1, u2, fu1, fu2, hU⟩ := wayFrom_any (D := D) g1 g2 hx.fa hx.fb (sm_of hs.a) (sm_of hs.b) sD sX sY
  obtain ⟨v1, v2, fv1, fv2, hV⟩ := wayFrom_any (D := D) g1 g2 hx.ta hx.tb (sm_of hs.c) (sm_of hs.d) sD sX sY
  obtain ⟨re, im, fre, _, hT⟩ := turn_any fu1 fu2 fv1 fv2 (way_sm hn.x hn.d hs.a) (way_sm hn.y hn.d hs.b) (way_sm hn.x hn.d hs.c) (way_sm hn.y hn.d hs.d)
  have HL : Hid (∀ w, Calls Tryz.prog 97 #[.agg #[.complex .f64 xb.wa xb.wb, .float .f64 xb.sh], .agg #[.complex .f64 na nb, .int .i64 D]] w fun e w' => e = .returned (.float .f64 r) ∧ Below w.heap.size w w') := hL
  have HU : Hid (∀ w, Calls Tryz.prog 99 #[.agg #[.complex .f64 na nb, .int .i64 D], .complex .f64 xb.fa xb.fb] w fun e w' => e = .returned (.complex .f64 u1 u2) ∧ Below w.heap.size w w') := hU
  have HV : Hid (∀ w, Calls Tryz.prog 99 #[.agg #[.complex .f64 na nb, .int .i64 D], .complex .f64 xb.ta xb.tb] w fun e w' => e = .returned (.complex .f64 v1 v2) ∧ Below w.heap.size w w') := hV
  have HT : Hid (∀ w, Calls Tryz.prog 98 #[.complex .f64 u1 u2, .complex .f64 v1 v2] w fun e w' => e = .returned (.complex .f64 re im) ∧ w' = w) := hT
  have q1 := eq_bits fr fl_zero
  have q2 : (FloatKind.f64.format.order re 0 == some .lt || FloatKind.f64.format.order re 0 == some .eq) = decide ((X - ed.1.1 * D) * (X - ed.2.1 * D) + (Y - ed.1.2 * D) * (Y - ed.2.2 * D) ≤ 0) := by
    rw [lt_bits fre fl_zero, eq_bits fre fl_zero, ← Bool.decide_or]
    exact decide_eq_decide.2 (by omega)
  have hfo := fo_of X Y D ed hn.d.1
  unfold lf at hfo
  rw [← q1, ← q2] at hfo
  rw [← hfo]
  clear hfo q1 q2 hL hU hV hT fr fre fu1 fu2 fv1 fv2 hx hs hn g1 g2 sX sY sD s1 s2
  obtain ⟨wa, wb, sh, fa, fb, ta, tb⟩ := xb
  simp only [EB.cells] at *
  generalize hO1 : (FloatKind.f64.format.order r 0 == some Ordering.eq) = B1 at *
  have hE : ((w.alloc (.cells #[.complex .f64 wa wb, .float .f64 sh, .complex .f64 fa fb, .complex .f64 ta tb] 124)).alloc (.cells #[.complex .f64 na nb, .int .i64 D] 83)).heap[w.heap.size]? = some (.cells #[.complex .f64 wa wb, .float .f64 sh, .complex .f64 fa fb, .complex .f64 ta tb] 124 (0, 0)) := by
    rw [Below.heap_alloc _ _ _ (by simp)]; exact heap_alloc_new _ _
  have hP : ((w.alloc (.cells #[.complex .f64 wa wb, .float .f64 sh, .complex .f64 fa fb, .complex .f64 ta tb] 124)).alloc (.cells #[.complex .f64 na nb, .int .i64 D] 83)).heap[w.heap.size + 1]? = some (.cells #[.complex .f64 na nb, .int .i64 D] 83 (0, 0)) := by
    have := heap_alloc_new (w.alloc (.cells #[.complex .f64 wa wb, .float .f64 sh, .complex .f64 fa fb, .complex .f64 ta tb] 124)) (.cells #[.complex .f64 na nb, .int .i64 D] 83)
    simpa using this
  have hb0 : Below w.heap.size w ((w.alloc (.cells #[.complex .f64 wa wb, .float .f64 sh, .complex .f64 fa fb, .complex .f64 ta tb] 124)).alloc (.cells #[.complex .f64 na nb, .int .i64 D] 83)) := ((Below.refl _ _).alloc (Nat.le_refl _) _).alloc (by simp) _
  have hsz : w.heap.size + 2 = ((w.alloc (.cells #[.complex .f64 wa wb, .float .f64 sh, .complex .f64 fa fb, .complex .f64 ta tb] 124)).alloc (.cells #[.complex .f64 na nb, .int .i64 D] 83)).heap.size := by simp
  go_enter Tryz.func62, Tryz.ntmps62
  go_wp2_with fail
  generalize (w.alloc (.cells #[.complex .f64 wa wb, .float .f64 sh, .complex .f64 fa fb, .complex .f64 ta tb] 124)).alloc (.cells #[.complex .f64 na nb, .int .i64 D] 83) = W at *
  generalize hB : w.heap.size = B at *
  have hza : B < W.heap.size := by omega
  have hzb : B + 1 < W.heap.size := by omega
  have z0 : W.cell? ⟨B, 0, none⟩ = some (.complex .f64 wa wb) := cell_of hE 0
  have z1 : W.cell? ⟨B, 1, none⟩ = some (.float .f64 sh) := cell_of hE 1
  have z2 : W.cell? ⟨B, 2, none⟩ = some (.complex .f64 fa fb) := cell_of hE 2
  have z3 : W.cell? ⟨B, 3, none⟩ = some (.complex .f64 ta tb) := cell_of hE 3
  have z4 : W.cell? ⟨B + 1, 0, none⟩ = some (.complex .f64 na nb) := cell_of hP 0
  have z5 : W.cell? ⟨B + 1, 1, none⟩ = some (.int .i64 D) := cell_of hP 1
  cases B1
  · refine wp_region_held_drew (S := (fun w' => w'.cell? ⟨B, 0, none⟩ = some (.complex .f64 wa wb) ∧ w'.cell? ⟨B, 1, none⟩ = some (.float .f64 sh) ∧ w'.cell? ⟨B, 2, none⟩ = some (.complex .f64 fa fb) ∧ w'.cell? ⟨B, 3, none⟩ = some (.complex .f64 ta tb) ∧ w'.cell? ⟨B + 1, 0, none⟩ = some (.complex .f64 na nb) ∧ w'.cell? ⟨B + 1, 1, none⟩ = some (.int .i64 D))) (by kernel_rfl) ⟨z0, z1, z2, z3, z4, z5⟩ (fun hHeld => ?_)
    refine wpAnyH_take (i := 0) (oi := { dst := some 5, op := _, type := _, pos := _, after := _, guard := _ }) (v := ?_) rfl (by kernel_rfl) (by kernel_rfl) (by kernel_rfl) (fun _ _ _ h => h) (Or.inl ⟨by rfl, ?_⟩) hHeld ?_
    rotate_left
    · intro w' hS'
      obtain ⟨s0, s1, s2, s3, s4, s5⟩ := hS'
      go_simp
      try with_reducible rfl
    simp only [Act.put, List.setIfInBounds_toArray, List.set_cons_zero, List.set_cons_succ]
    refine wpAnyH_take (i := 1) (oi := { dst := some 6, op := _, type := _, pos := _, after := _, guard := _ }) (v := ?_) rfl (by kernel_rfl) (by kernel_rfl) (by kernel_rfl) (fun _ _ _ h => h) (Or.inl ⟨by rfl, ?_⟩) hHeld ?_
    rotate_left
    · intro w' hS'
      obtain ⟨s0, s1, s2, s3, s4, s5⟩ := hS'
      go_simp
      try with_reducible rfl
    simp only [Act.put, List.setIfInBounds_toArray, List.set_cons_zero, List.set_cons_succ]
    refine wpAnyH_take (i := 2) (oi := { dst := some 7, op := _, type := _, pos := _, after := _, guard := _ }) (v := ?_) rfl (by kernel_rfl) (by kernel_rfl) (by kernel_rfl) (fun _ _ _ h => h) (Or.inl ⟨by rfl, ?_⟩) hHeld ?_
    rotate_left
    · intro w' hS'
      obtain ⟨s0, s1, s2, s3, s4, s5⟩ := hS'
      go_simp
      try with_reducible rfl
    simp only [Act.put, List.setIfInBounds_toArray, List.set_cons_zero, List.set_cons_succ]
    refine wpAnyH_ready (rs := [3]) (by kernel_rfl) (by simp) ?_
    refine AllReadyH.cons rfl (fun K hK => ?_) AllReadyH.nil
    go_simp
    refine (HL.out _).mono ?_
    rintro e w5 ⟨rfl, hb5⟩
    have hla : B < w5.heap.size := Nat.lt_of_lt_of_le hza hb5.size
    have hlb : B + 1 < w5.heap.size := Nat.lt_of_lt_of_le hzb hb5.size
    have l0 := (hb5.cell (p := ⟨B, 0, none⟩) hza).trans z0
    have l1 := (hb5.cell (p := ⟨B, 1, none⟩) hza).trans z1
    have l2 := (hb5.cell (p := ⟨B, 2, none⟩) hza).trans z2
    have l3 := (hb5.cell (p := ⟨B, 3, none⟩) hza).trans z3
    have l4 := (hb5.cell (p := ⟨B + 1, 0, none⟩) hzb).trans z4
    have l5 := (hb5.cell (p := ⟨B + 1, 1, none⟩) hzb).trans z5
    go_wp2_with fail
    refine hK.out _ _ ⟨l0, l1, l2, l3, l4, l5⟩ (fun hHeld => ?_)
    clear hK K
    try simp only [Act.put, List.setIfInBounds_toArray, List.set_cons_zero, List.set_cons_succ]
    refine wpAnyH_take (i := 4) (oi := { dst := some 9, op := _, type := _, pos := _, after := _, guard := _ }) (v := ?_) rfl (by kernel_rfl) (by kernel_rfl) (by kernel_rfl) (fun _ _ _ h => h) (Or.inl ⟨by rfl, ?_⟩) hHeld ?_
    rotate_left
    · intro w' hS'
      obtain ⟨s0, s1, s2, s3, s4, s5⟩ := hS'
      go_simp
      try with_reducible rfl
    simp only [Act.put, List.setIfInBounds_toArray, List.set_cons_zero, List.set_cons_succ]
    refine wpAnyH_take (i := 5) (oi := { dst := some 10, op := _, type := _, pos := _, after := _, guard := _ }) (v := ?_) rfl (by kernel_rfl) (by kernel_rfl) (by kernel_rfl) (fun _ _ _ h => h) (Or.inl ⟨by rfl, ?_⟩) hHeld ?_
    rotate_left
    · intro w' hS'
      obtain ⟨s0, s1, s2, s3, s4, s5⟩ := hS'
      go_simp
      try with_reducible rfl
    simp only [Act.put, List.setIfInBounds_toArray, List.set_cons_zero, List.set_cons_succ]
    refine wpAnyH_take (i := 6) (oi := { dst := some 11, op := _, type := _, pos := _, after := _, guard := _ }) (v := undef) rfl (by kernel_rfl) (by kernel_rfl) (by kernel_rfl) (fun _ _ _ h => h) (Or.inr ⟨by kernel_rfl, rfl⟩) hHeld ?_
    simp only [Act.put, List.setIfInBounds_toArray, List.set_cons_zero, List.set_cons_succ]
    refine wpAnyH_take (i := 7) (oi := { dst := some 12, op := _, type := _, pos := _, after := _, guard := _ }) (v := undef) rfl (by kernel_rfl) (by kernel_rfl) (by kernel_rfl) (fun _ _ _ h => h) (Or.inr ⟨by kernel_rfl, rfl⟩) hHeld ?_
    simp only [Act.put, List.setIfInBounds_toArray, List.set_cons_zero, List.set_cons_succ]
    refine wpAnyH_take (i := 8) (oi := { dst := some 13, op := _, type := _, pos := _, after := _, guard := _ }) (v := undef) rfl (by kernel_rfl) (by kernel_rfl) (by kernel_rfl) (fun _ _ _ h => h) (Or.inr ⟨by kernel_rfl, rfl⟩) hHeld ?_
    simp only [Act.put, List.setIfInBounds_toArray, List.set_cons_zero, List.set_cons_succ]
    refine wpAnyH_take (i := 9) (oi := { dst := some 14, op := _, type := _, pos := _, after := _, guard := _ }) (v := undef) rfl (by kernel_rfl) (by kernel_rfl) (by kernel_rfl) (fun _ _ _ h => h) (Or.inr ⟨by kernel_rfl, rfl⟩) hHeld ?_
    simp only [Act.put, List.setIfInBounds_toArray, List.set_cons_zero, List.set_cons_succ]
    refine wpAnyH_take (i := 10) (oi := { dst := some 15, op := _, type := _, pos := _, after := _, guard := _ }) (v := undef) rfl (by kernel_rfl) (by kernel_rfl) (by kernel_rfl) (fun _ _ _ h => h) (Or.inr ⟨by kernel_rfl, rfl⟩) hHeld ?_
    simp only [Act.put, List.setIfInBounds_toArray, List.set_cons_zero, List.set_cons_succ]
    refine wpAnyH_take (i := 11) (oi := { dst := some 16, op := _, type := _, pos := _, after := _, guard := _ }) (v := undef) rfl (by kernel_rfl) (by kernel_rfl) (by kernel_rfl) (fun _ _ _ h => h) (Or.inr ⟨by kernel_rfl, rfl⟩) hHeld ?_
    simp only [Act.put, List.setIfInBounds_toArray, List.set_cons_zero, List.set_cons_succ]
    refine wpAnyH_take (i := 12) (oi := { dst := some 17, op := _, type := _, pos := _, after := _, guard := _ }) (v := undef) rfl (by kernel_rfl) (by kernel_rfl) (by kernel_rfl) (fun _ _ _ h => h) (Or.inr ⟨by kernel_rfl, rfl⟩) hHeld ?_
    simp only [Act.put, List.setIfInBounds_toArray, List.set_cons_zero, List.set_cons_succ]
    refine wpAnyH_take (i := 13) (oi := { dst := some 18, op := _, type := _, pos := _, after := _, guard := _ }) (v := undef) rfl (by kernel_rfl) (by kernel_rfl) (by kernel_rfl) (fun _ _ _ h => h) (Or.inr ⟨by kernel_rfl, rfl⟩) hHeld ?_
    simp only [Act.put, List.setIfInBounds_toArray, List.set_cons_zero, List.set_cons_succ]
    refine wpAnyH_take (i := 14) (oi := { dst := some 19, op := _, type := _, pos := _, after := _, guard := _ }) (v := undef) rfl (by kernel_rfl) (by kernel_rfl) (by kernel_rfl) (fun _ _ _ h => h) (Or.inr ⟨by kernel_rfl, rfl⟩) hHeld ?_
    simp only [Act.put, List.setIfInBounds_toArray, List.set_cons_zero, List.set_cons_succ]
    refine wpAnyH_take (i := 15) (oi := { dst := some 20, op := _, type := _, pos := _, after := _, guard := _ }) (v := undef) rfl (by kernel_rfl) (by kernel_rfl) (by kernel_rfl) (fun _ _ _ h => h) (Or.inr ⟨by kernel_rfl, rfl⟩) hHeld ?_
    simp only [Act.put, List.setIfInBounds_toArray, List.set_cons_zero, List.set_cons_succ]
    refine wpAnyH_take (i := 16) (oi := { dst := some 21, op := _, type := _, pos := _, after := _, guard := _ }) (v := undef) rfl (by kernel_rfl) (by kernel_rfl) (by kernel_rfl) (fun _ _ _ h => h) (Or.inr ⟨by kernel_rfl, rfl⟩) hHeld ?_
    simp only [Act.put, List.setIfInBounds_toArray, List.set_cons_zero, List.set_cons_succ]
    refine wpAnyH_take (i := 17) (oi := { dst := some 22, op := _, type := _, pos := _, after := _, guard := _ }) (v := ?_) rfl (by kernel_rfl) (by kernel_rfl) (by kernel_rfl) (fun _ _ _ h => h) (Or.inl ⟨by rfl, ?_⟩) hHeld ?_
    rotate_left
    · intro w' hS'
      obtain ⟨s0, s1, s2, s3, s4, s5⟩ := hS'
      go_simp
      try with_reducible rfl
    simp only [Act.put, List.setIfInBounds_toArray, List.set_cons_zero, List.set_cons_succ]
    refine wpAnyH_take (i := 18) (oi := { dst := some 4, op := _, type := _, pos := _, after := _, guard := _ }) (v := ?_) rfl (by kernel_rfl) (by kernel_rfl) (by kernel_rfl) (fun _ _ _ h => h) (Or.inl ⟨by rfl, ?_⟩) hHeld ?_
    rotate_left
    · intro w' hS'
      obtain ⟨s0, s1, s2, s3, s4, s5⟩ := hS'
      go_simp
      try with_reducible rfl
    simp only [Act.put, List.setIfInBounds_toArray, List.set_cons_zero, List.set_cons_succ]
    refine wpAnyH_done (by kernel_rfl) ?_ _
    go_wp2_with fail
    go_ret
    exact ⟨rfl, by rw [hB]; exact hb0.drew.trans (hb5.mono (Nat.le_of_lt hza))⟩
  · go_region_held3 (fun w' => w'.cell? ⟨B, 0, none⟩ = some (.complex .f64 wa wb) ∧ w'.cell? ⟨B, 1, none⟩ = some (.float .f64 sh) ∧ w'.cell? ⟨B, 2, none⟩ = some (.complex .f64 fa fb) ∧ w'.cell? ⟨B, 3, none⟩ = some (.complex .f64 ta tb) ∧ w'.cell? ⟨B + 1, 0, none⟩ = some (.complex .f64 na nb) ∧ w'.cell? ⟨B + 1, 1, none⟩ = some (.int .i64 D)) (go_keep) (first
      | (go_at_call 97; refine (HL.out _).mono ?_; rintro e w5 ⟨rfl, hb5⟩; have hla : B < w5.heap.size := Nat.lt_of_lt_of_le hza hb5.size; have hlb : B + 1 < w5.heap.size := Nat.lt_of_lt_of_le hzb hb5.size; have l0 := (hb5.cell (p := ⟨B, 0, none⟩) hza).trans z0; have l1 := (hb5.cell (p := ⟨B, 1, none⟩) hza).trans z1; have l2 := (hb5.cell (p := ⟨B, 2, none⟩) hza).trans z2; have l3 := (hb5.cell (p := ⟨B, 3, none⟩) hza).trans z3; have l4 := (hb5.cell (p := ⟨B + 1, 0, none⟩) hzb).trans z4; have l5 := (hb5.cell (p := ⟨B + 1, 1, none⟩) hzb).trans z5)
      | (go_at_call_of 99 (Value.complex FloatKind.f64 fa fb); refine (HU.out _).mono ?_; rintro e w6 ⟨rfl, hb6⟩; have hua : B < w6.heap.size := Nat.lt_of_lt_of_le hla hb6.size; have hub : B + 1 < w6.heap.size := Nat.lt_of_lt_of_le hlb hb6.size; have u0 := (hb6.cell (p := ⟨B, 0, none⟩) hla).trans l0; have u1 := (hb6.cell (p := ⟨B, 1, none⟩) hla).trans l1; have u2 := (hb6.cell (p := ⟨B, 2, none⟩) hla).trans l2; have u3 := (hb6.cell (p := ⟨B, 3, none⟩) hla).trans l3; have u4 := (hb6.cell (p := ⟨B + 1, 0, none⟩) hlb).trans l4; have u5 := (hb6.cell (p := ⟨B + 1, 1, none⟩) hlb).trans l5)
      | (go_at_call_of 99 (Value.complex FloatKind.f64 ta tb); refine (HV.out _).mono ?_; rintro e w7 ⟨rfl, hb7⟩; have hva : B < w7.heap.size := Nat.lt_of_lt_of_le hua hb7.size; have hvb : B + 1 < w7.heap.size := Nat.lt_of_lt_of_le hub hb7.size; have v0 := (hb7.cell (p := ⟨B, 0, none⟩) hua).trans u0; have v1 := (hb7.cell (p := ⟨B, 1, none⟩) hua).trans u1; have v2 := (hb7.cell (p := ⟨B, 2, none⟩) hua).trans u2; have v3 := (hb7.cell (p := ⟨B, 3, none⟩) hua).trans u3; have v4 := (hb7.cell (p := ⟨B + 1, 0, none⟩) hub).trans u4; have v5 := (hb7.cell (p := ⟨B + 1, 1, none⟩) hub).trans u5)
      | (go_at_call 98; refine (HT.out _).mono ?_; rintro e w8 ⟨rfl, hw8⟩; subst hw8))
    go_wp2_with fail
    go_ret
    refine ⟨ret_bool (by simp), ?_⟩
    rw [hB]
    exact ((hb0.drew.trans (hb5.mono (Nat.le_of_lt hza))).trans (hb6.mono (Nat.le_of_lt hla))).trans (hb7.mono (Nat.le_of_lt hua))

end Go.Proofs.YtkjhhooecopolaaGreatDoor
