import Derived.Test.YtkjhhooecopolaaGreatDoorKj31
import Derived.Deep.LoopGhost
namespace Go.Proofs.YtkjhhooecopolaaGreatDoor.Ge

theorem hq_nd {n : Nd} (h : Can n) (e : Pt × Pt) : hq (ndQ n) e = fo (n.1, n.2.1) n.2.2 e := by
  obtain ⟨X, Y, P⟩ := n
  have hp : 0 < P := h.pos
  obtain ⟨g, g0, e1, e2, gp⟩ := fr2_eq (n := X) (d := P) (by omega)
  obtain ⟨k, k0, e3, e4, kp⟩ := fr2_eq (n := Y) (d := P) (by omega)
  have hgk := Int.mul_pos (gp.2 hp) (kp.2 hp)
  unfold hq ndQ
  show fo ((fr2 X P).1 * (fr2 Y P).2, (fr2 Y P).1 * (fr2 X P).2) ((fr2 X P).2 * (fr2 Y P).2) e = fo (X, Y) P e
  rw [← fo_scale (x := P * X) (y := P * Y) (d := P * P) hp rfl rfl rfl e]
  generalize fr2 X P = A at *
  generalize fr2 Y P = B at *
  have q1 : P * X = g * k * (A.1 * B.2) := by rw [e1]; grind
  have q2 : P * Y = g * k * (B.1 * A.2) := by rw [e3]; grind
  have q3 : P * P = g * k * (A.2 * B.2) := by grind
  exact (fo_scale hgk q1 q2 q3 e).symm
end Go.Proofs.YtkjhhooecopolaaGreatDoor.Ge

namespace Go.Proofs.YtkjhhooecopolaaGreatDoor
open Go.RowKit

theorem fl_nd {n : Ge.Nd} (h : NodeIn n.1 n.2.1 n.2.2) : Fl (floatOfInt .f64 n.1) n.1 ∧ Fl (floatOfInt .f64 n.2.1) n.2.1 := by
  have hx := h.x
  have hy := h.y
  exact ⟨fl_ofInt (by omega), fl_ofInt (by omega)⟩

/-- What two edges give: their node, if they share one and are not parallel. -/
theorem meeting_any (x y : EB) (e f : Ed) (hx : EBok x e) (hy : EBok y f) (he : smallE e) (hf : smallE f) :
    ∃ (v : Ge.Nd) (b : Bool) (nv : Value), (∀ w, Calls Tryz.prog 123 #[.agg x.cells, .agg y.cells] w fun r w' => r = .returned (.tuple #[nv, .bool b]) ∧ Below w.heap.size w w')
      ∧ (∃ N1 N2 P, nv = .agg #[.complex .f64 N1 N2, .int .i64 P])
      ∧ (b = true ↔ Ge.crE e f ≠ 0 ∧ Ge.hq (Ge.meetP e f) e = true ∧ Ge.hq (Ge.meetP e f) f = true)
      ∧ (b = true → nv = ndV v ∧ Ge.Can v ∧ Ge.ndQ v = Ge.meetP e f ∧ NodeIn v.1 v.2.1 v.2.2) := by
  by_cases hc : Ge.crE e f = 0
  · refine ⟨(0, 0, 1), false, _, fun w => meeting_par x y w (fun w => ?_), ⟨_, _, _, rfl⟩, ?_, ?_⟩
    · have := parallelTo_any x y e f hx hy he hf w
      rw [decide_eq_true hc] at this
      exact this
    · simp [hc]
    · simp
  · obtain ⟨n, n1, n2, n3, hC⟩ := crossing_any x y e f hx hy he hf hc
    obtain ⟨f1, f2⟩ := fl_nd n3
    refine ⟨n, Ge.hq (Ge.meetP e f) e && Ge.hq (Ge.meetP e f) f, _, fun w => meeting_at x y (floatOfInt .f64 n.1) (floatOfInt .f64 n.2.1) n.2.2 _ _ w (fun w => ?_) hC (fun w => ?_) (fun w => ?_), ⟨_, _, _, rfl⟩, ?_, ?_⟩
    · have := parallelTo_any x y e f hx hy he hf w
      rw [decide_eq_false hc] at this
      exact this
    · rw [← n2, Ge.hq_nd n1]
      exact holds_any x e hx he f1 f2 n3 w
    · rw [← n2, Ge.hq_nd n1]
      exact holds_any y f hy hf f1 f2 n3 w
    · simp [hc]
    · exact fun _ => ⟨rfl, n1, n2, n3⟩

end Go.Proofs.YtkjhhooecopolaaGreatDoor

namespace Go.Proofs.YtkjhhooecopolaaGreatDoor
open Go.RowKit

set_option maxRecDepth 100000 in
set_option maxHeartbeats 400000 in
theorem isNaN_any {a : Nat} {x : Int} (h : Fl a x) (w : World) :
    Calls Tryz.prog 227 #[.float .f64 a] w fun r w' => r = .returned (.bool false) ∧ w' = w := by
  have q : (FloatKind.f64.format.order a a == some Ordering.eq) = true := by rw [eq_bits h h]; simp
  have q2 : (FloatKind.f64.format.order a a) = some Ordering.eq := by simpa using q
  go_enter Tryz.func227, Tryz.ntmps227
  go_wp2_with fail
  go_ret
  exact ⟨by simp, rfl⟩

set_option maxRecDepth 100000 in
set_option maxHeartbeats 1000000 in
theorem compare_f {a b : Nat} {x y : Int} (h1 : Fl a x) (h2 : Fl b y) (w : World) :
    Calls Tryz.prog 183 #[.float .f64 a, .float .f64 b] w fun r w' => r = .returned (.int .i64 (x - y).sign) ∧ w' = w := by
  have H1 : Hid (∀ w, Calls Tryz.prog 227 #[.float .f64 a] w fun r w' => r = .returned (.bool false) ∧ w' = w) := fun w => isNaN_any h1 w
  have H2 : Hid (∀ w, Calls Tryz.prog 227 #[.float .f64 b] w fun r w' => r = .returned (.bool false) ∧ w' = w) := fun w => isNaN_any h2 w
  have q1 := lt_bits h1 h2
  have q2 := gt_bits h1 h2
  rcases Int.lt_trichotomy x y with h | h | h
  · have hs : (x - y).sign = -1 := Int.sign_eq_neg_one_of_neg (by omega)
    have hq : (FloatKind.f64.format.order a b == some Ordering.lt) = true := by rw [q1]; simp [h]
    rw [hs]
    clear q1 q2
    go_enter Tryz.func183, Tryz.ntmps183
    go_wp2_with fail
    refine (H1.out _).mono ?_
    rintro e w1 ⟨rfl, rfl⟩
    go_wp2_with fail
    refine (H2.out _).mono ?_
    rintro e w2 ⟨rfl, rfl⟩
    go_wp2_with fail
    go_ret
    exact ⟨rfl, rfl⟩
  · have hs : (x - y).sign = 0 := by rw [h, Int.sub_self]; rfl
    have hq : (FloatKind.f64.format.order a b == some Ordering.lt) = false := by rw [q1]; simp; omega
    have hq2 : (FloatKind.f64.format.order a b == some Ordering.gt) = false := by rw [q2]; simp; omega
    rw [hs]
    clear q1 q2
    go_enter Tryz.func183, Tryz.ntmps183
    go_wp2_with fail
    refine (H1.out _).mono ?_
    rintro e w1 ⟨rfl, rfl⟩
    go_wp2_with fail
    refine (H2.out _).mono ?_
    rintro e w2 ⟨rfl, rfl⟩
    go_wp2_with fail
    go_ret
    exact ⟨rfl, rfl⟩
  · have hs : (x - y).sign = 1 := Int.sign_eq_one_of_pos (by omega)
    have hq : (FloatKind.f64.format.order a b == some Ordering.lt) = false := by rw [q1]; simp; omega
    have hq2 : (FloatKind.f64.format.order a b == some Ordering.gt) = true := by rw [q2]; simp [h]
    rw [hs]
    clear q1 q2
    go_enter Tryz.func183, Tryz.ntmps183
    go_wp2_with fail
    refine (H1.out _).mono ?_
    rintro e w1 ⟨rfl, rfl⟩
    go_wp2_with fail
    refine (H2.out _).mono ?_
    rintro e w2 ⟨rfl, rfl⟩
    go_wp2_with fail
    go_ret
    exact ⟨rfl, rfl⟩

end Go.Proofs.YtkjhhooecopolaaGreatDoor
