import Derived.Test.YtkjhhooecopolaaGreatDoorKj45
import Derived.Deep.LoopGhost
namespace Go.Proofs.YtkjhhooecopolaaGreatDoor
open Go.RowKit

set_option maxRecDepth 100000 in
set_option maxHeartbeats 400000 in
theorem isNaN_any {a : Nat} {x : Int} (h : Fl a x) (w : World) :
    Calls Tryz.prog 227 #[.float .f64 a] w fun r w' => r = .returned (.bool false) ∧ w' = w := by
  have q : (FloatKind.f64.format.order a a == some Ordering.eq) = true := by rw [eq_bits h h]; simp
  have q2 : (FloatKind.f64.format.order a a) = some Ordering.eq := by simpa using q
  go_enter Tryz.func227, Tryz.ntmps227
  go_wp2_with fail
  go_ret
  exact ⟨by simp, rfl⟩

set_option maxRecDepth 100000 in
set_option maxHeartbeats 1000000 in
theorem compare_f {a b : Nat} {x y : Int} (h1 : Fl a x) (h2 : Fl b y) (w : World) :
    Calls Tryz.prog 183 #[.float .f64 a, .float .f64 b] w fun r w' => r = .returned (.int .i64 (x - y).sign) ∧ w' = w := by
  have H1 : Hid (∀ w, Calls Tryz.prog 227 #[.float .f64 a] w fun r w' => r = .returned (.bool false) ∧ w' = w) := fun w => isNaN_any h1 w
  have H2 : Hid (∀ w, Calls Tryz.prog 227 #[.float .f64 b] w fun r w' => r = .returned (.bool false) ∧ w' = w) := fun w => isNaN_any h2 w
  have q1 := lt_bits h1 h2
  have q2 := gt_bits h1 h2
  rcases Int.lt_trichotomy x y with h | h | h
  · have hs : (x - y).sign = -1 := Int.sign_eq_neg_one_of_neg (by omega)
    have hq : (FloatKind.f64.format.order a b == some Ordering.lt) = true := by rw [q1]; simp [h]
    rw [hs]
    clear q1 q2
    go_enter Tryz.func183, Tryz.ntmps183
    go_wp2_with fail
    refine (H1.out _).mono ?_
    rintro e w1 ⟨rfl, rfl⟩
    go_wp2_with fail
    refine (H2.out _).mono ?_
    rintro e w2 ⟨rfl, rfl⟩
    go_wp2_with fail
    go_ret
    exact ⟨rfl, rfl⟩
  · have hs : (x - y).sign = 0 := by rw [h, Int.sub_self]; rfl
    have hq : (FloatKind.f64.format.order a b == some Ordering.lt) = false := by rw [q1]; simp; omega
    have hq2 : (FloatKind.f64.format.order a b == some Ordering.gt) = false := by rw [q2]; simp; omega
    rw [hs]
    clear q1 q2
    go_enter Tryz.func183, Tryz.ntmps183
    go_wp2_with fail
    refine (H1.out _).mono ?_
    rintro e w1 ⟨rfl, rfl⟩
    go_wp2_with fail
    refine (H2.out _).mono ?_
    rintro e w2 ⟨rfl, rfl⟩
    go_wp2_with fail
    go_ret
    exact ⟨rfl, rfl⟩
  · have hs : (x - y).sign = 1 := Int.sign_eq_one_of_pos (by omega)
    have hq : (FloatKind.f64.format.order a b == some Ordering.lt) = false := by rw [q1]; simp; omega
    have hq2 : (FloatKind.f64.format.order a b == some Ordering.gt) = true := by rw [q2]; simp [h]
    rw [hs]
    clear q1 q2
    go_enter Tryz.func183, Tryz.ntmps183
    go_wp2_with fail
    refine (H1.out _).mono ?_
    rintro e w1 ⟨rfl, rfl⟩
    go_wp2_with fail
    refine (H2.out _).mono ?_
    rintro e w2 ⟨rfl, rfl⟩
    go_wp2_with fail
    go_ret
    exact ⟨rfl, rfl⟩

end Go.Proofs.YtkjhhooecopolaaGreatDoor
