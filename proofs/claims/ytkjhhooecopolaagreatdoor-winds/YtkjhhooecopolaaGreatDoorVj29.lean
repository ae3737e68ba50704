import Derived.Test.YtkjhhooecopolaaGreatDoorVj28
import Derived.Deep.LoopGhost
import Derived.Deep.RegionHeld3
namespace Go.Proofs.YtkjhhooecopolaaGreatDoor
open Go.RowKit

/-- A fraction without a common divisor. -/
def frN (n d : Int) : Int := n.tdiv (Int.gcd n d)
def frD (n d : Int) : Int := d.tdiv (Int.gcd n d)

theorem gcd_pos {n d : Int} (hd : d ≠ 0) : 0 < Int.gcd n d := Int.gcd_pos_of_ne_zero_right _ hd
theorem frN_eq (n d : Int) : n = (Int.gcd n d : Int) * frN n d := (Int.mul_tdiv_cancel' (Int.gcd_dvd_left _ _)).symm
theorem frD_eq (n d : Int) : d = (Int.gcd n d : Int) * frD n d := (Int.mul_tdiv_cancel' (Int.gcd_dvd_right _ _)).symm
theorem frD_pos {n d : Int} (hd : 0 < d) : 0 < frD n d := by
  have h := frD_eq n d
  have hg := gcd_pos (n := n) (d := d) (by omega)
  generalize frD n d = x at *
  generalize Int.gcd n d = g at *
  rcases Int.lt_trichotomy x 0 with hx | hx | hx
  · have := Int.mul_neg_of_pos_of_neg (show (0 : Int) < g by omega) hx; omega
  · subst hx; omega
  · exact hx
theorem fr_le {z x : Int} {g : Nat} (h : z = (g : Int) * x) (hg : 0 < g) : x.natAbs ≤ z.natAbs := by
  rw [h, Int.natAbs_mul]
  exact Nat.le_mul_of_pos_left _ (by simpa using hg)

theorem frozen_of' {w : World} {b : Nat} {c : Array Value} {T : TypeId} (h : w.heap[b]? = some (.cells c T (0, 0))) (o : Nat) : w.frozen? ⟨b, o, none⟩ = false := by
  simp [World.frozen?, h]
theorem gcd_step (a b : Nat) : Nat.gcd b (a % b) = Nat.gcd a b := by
  rw [Nat.gcd_comm b, ← Nat.gcd_rec, Nat.gcd_comm]

set_option maxRecDepth 100000 in
set_option maxHeartbeats 1000000 in
theorem frac_loop (n d : Int) (w : World) (A : Nat) (hA : n.natAbs = A) (hd : 0 < d) (hd2 : d ≤ 1000000000000) (hn : -1000000000000 ≤ n ∧ n ≤ 1000000000000)
    (hq : (decide (n < 0) = true ∧ (A : Int) = -n) ∨ (decide (n < 0) = false ∧ (A : Int) = n)) :
    Calls Tryz.prog 46 #[.int .i64 n, .int .i64 d] w fun e w' => e = .returned (.agg #[.int .i64 (frN n d), .int .i64 (frD n d)]) ∧ Below w.heap.size w w' := by
  obtain ⟨D, rfl⟩ : ∃ D : Nat, d = D := ⟨d.toNat, by omega⟩
  have hG0 : 0 < Int.gcd n D := gcd_pos (by omega)
  have hGA : Nat.gcd A D = Int.gcd n D := by rw [Int.gcd, hA]; rfl
  have HN : Hid (frN n D = n.tdiv (Int.gcd n D)) := rfl
  have HD : Hid (frD n D = (D : Int).tdiv (Int.gcd n D)) := rfl
  generalize Int.gcd n D = G at *
  generalize frN n D = RN at *
  generalize frD n D = RD at *
  have hA2 : A ≤ 1000000000000 := by omega
  clear hA
  have hb0 : Below w.heap.size w (w.alloc (.cells #[.int .i64 0, .int .i64 0] 97)) := (Below.refl _ _).alloc (Nat.le_refl _) _
  have hE := heap_alloc_new w (.cells #[.int .i64 0, .int .i64 0] 97)
  rcases hq with ⟨hneg, hA1⟩ | ⟨hneg, hA1⟩
  all_goals
    go_enter Tryz.func46, Tryz.ntmps46
    go_wp2_with fail
    generalize w.alloc (.cells #[.int .i64 0, .int .i64 0] 97) = W at *
    generalize hB : w.heap.size = B at *
    go_loopg [5, 6] D (fun m av bv wr => ∃ a b : Nat, av = .int .i64 a ∧ bv = .int .i64 b ∧ m = b ∧ Nat.gcd a b = G ∧ a ≤ 1000000000000 ∧ b ≤ 1000000000000 ∧ wr = W)
    case atStart => exact ⟨A, D, by rw [hA1], rfl, rfl, hGA, hA2, by omega, rfl⟩
    case round =>
      obtain ⟨a, b, rfl, rfl, rfl, hg, ha, hb, rfl⟩ := hrel
      by_cases hz : gk = 0
      · subst hz
        rw [Nat.gcd_zero_right] at hg
        subst hg
        have e0 : wr.cell? ⟨B, 0, none⟩ = some (.int .i64 0) := cell_of' hE 0
        have e1 : wr.cell? ⟨B, 1, none⟩ = some (.int .i64 0) := cell_of' hE 1
        have z0 : wr.frozen? ⟨B, 0, none⟩ = false := frozen_of' hE 0
        have z1 : wr.frozen? ⟨B, 1, none⟩ = false := frozen_of' hE 1
        have hx : ¬ (a = 0) := by omega
        have hx1 : (0 : Int) < a := by omega
        have hw1 : IntKind.i64.wrap (n.tdiv (a : Int)) = RN := by rw [HN.out]; exact IntWalk.i64_quo' _ _ ⟨by omega, by omega, by omega⟩
        have hw3 : IntKind.i64.wrap ((D : Int) / (a : Int)) = RD := by rw [HD.out, Int.tdiv_eq_ediv_of_nonneg (by omega), IntKind.wrap_i64]; have := IntWalk.tdiv_le (D : Int) a (by omega) (by omega); omega
        have hw2 : IntKind.i64.wrap ((D : Int).tdiv (a : Int)) = RD := by rw [HD.out]; exact IntWalk.i64_quo' _ _ ⟨by omega, by omega, by omega⟩
        go_wp2_with fail
        go_region_held3 (fun w' => w'.frozen? ⟨B, 0, none⟩ = false ∧ w'.frozen? ⟨B, 1, none⟩ = false) (go_keep) (fail)
        go_wp2_with fail
        refine bodyPost_ret (v := .agg #[.int .i64 RN, .int .i64 RD]) (by simp [results, Tryz.results46, go_sem, e0, e1]) rfl ⟨rfl, ?_⟩
        rw [hB]
        exact ((hb0.setCell (Nat.le_refl _) _).setCell (Nat.le_refl _) _).drew
      · have hlt := Nat.mod_lt a (Nat.pos_of_ne_zero hz)
        have hgs := gcd_step a gk
        go_wp2_with fail
        go_roundg (a % gk)
        case measure => omega
        case rel => exact ⟨gk, a % gk, rfl, by go_num, rfl, by rw [hgs, hg], hb, by omega, rfl⟩

end Go.Proofs.YtkjhhooecopolaaGreatDoor

namespace Go.Proofs.YtkjhhooecopolaaGreatDoor
open Go.RowKit

theorem sign_in (z : Int) : -1 ≤ z.sign ∧ z.sign ≤ 1 := by
  rcases Int.lt_trichotomy z 0 with h | h | h
  · rw [sign_neg' h]; decide
  · rw [h]; decide
  · rw [sign_pos' h]; decide

set_option maxRecDepth 100000 in
set_option maxHeartbeats 1000000 in
theorem among_any (N D a b : Int) (w : World) (hN : -10000000 ≤ N ∧ N ≤ 10000000) (hD : 0 < D ∧ D ≤ 1000000) (ha : small a) (hb : small b) :
    Calls Tryz.prog 134 #[.agg #[.int .i64 N, .int .i64 D], .int .i64 a, .int .i64 b] w
      fun e w' => e = .returned (.bool (decide ((N * 1 - a * D).sign * (N * 1 - b * D).sign ≤ 0))) ∧ Below w.heap.size w w' := by
  have m1 : -50000000 ≤ a * D ∧ a * D ≤ 50000000 := mul_in (a := 50) (b := 1000000) ha ⟨by omega, hD.2⟩
  have m2 : -50000000 ≤ b * D ∧ b * D ≤ 50000000 := mul_in (a := 50) (b := 1000000) hb ⟨by omega, hD.2⟩
  have H1 : Hid (∀ w1, Calls Tryz.prog 49 #[.agg #[.int .i64 N, .int .i64 D], .agg #[.int .i64 a, .int .i64 1]] w1 fun e w' => e = .returned (.int .i64 (N * 1 - a * D).sign) ∧ Below w1.heap.size w1 w') := fun w1 => fcmp_any N D a 1 _ _ w1 rfl rfl (by omega) (by omega)
  have H2 : Hid (∀ w1, Calls Tryz.prog 49 #[.agg #[.int .i64 N, .int .i64 D], .agg #[.int .i64 b, .int .i64 1]] w1 fun e w' => e = .returned (.int .i64 (N * 1 - b * D).sign) ∧ Below w1.heap.size w1 w') := fun w1 => fcmp_any N D b 1 _ _ w1 rfl rfl (by omega) (by omega)
  have s1 := sign_in (N * 1 - a * D)
  have s2 := sign_in (N * 1 - b * D)
  generalize (N * 1 - a * D).sign = S1 at *
  generalize (N * 1 - b * D).sign = S2 at *
  have hm : -1 ≤ S1 * S2 ∧ S1 * S2 ≤ 1 := mul_in (a := 1) (b := 1) s1 s2
  have hw : IntKind.i64.wrap (S1 * S2) = S1 * S2 := by rw [IntKind.wrap_i64]; omega
  clear m1 m2 hm s1 s2
  have hb0 : Below w.heap.size w (w.alloc (.cells #[.int .i64 N, .int .i64 D] 97)) := (Below.refl _ _).alloc (Nat.le_refl _) _
  go_enter Tryz.func134, Tryz.ntmps134
  go_wp2_with fail
  refine (H1.out _).mono ?_
  rintro e w1 ⟨rfl, hb1⟩
  have hE : w1.heap[w.heap.size]? = some (.cells #[.int .i64 N, .int .i64 D] 97 (0, 0)) := (hb1.block _ (by simp)).trans (heap_alloc_new _ _)
  have e0 : w1.cell? ⟨w.heap.size, 0, none⟩ = some (.int .i64 N) := cell_of' hE 0
  have e1 : w1.cell? ⟨w.heap.size, 1, none⟩ = some (.int .i64 D) := cell_of' hE 1
  have hbel := hb0.trans (hb1.mono hb0.size)
  clear hE hb1 hb0
  go_wp2_with fail
  refine (H2.out _).mono ?_
  rintro e w2 ⟨rfl, hb2⟩
  go_wp2_with fail
  go_ret
  exact ⟨rfl, hbel.trans (hb2.mono hbel.size)⟩

/-- The point x by d, y by d, as the reference lays it. -/
structure PtOf (XN XD YN YD x y d : Int) : Prop where
  inn : PtIn XN XD YN YD
  ex : ∃ g, 0 < g ∧ x = g * XN ∧ d = g * XD
  ey : ∃ g, 0 < g ∧ y = g * YN ∧ d = g * YD

theorem sign_le {z : Int} : z.sign ≤ 0 ↔ z ≤ 0 := by
  rcases Int.lt_trichotomy z 0 with h | h | h
  · rw [sign_neg' h]; omega
  · rw [h]; decide
  · rw [sign_pos' h]; omega
theorem sign_zero_iff {z : Int} : z.sign = 0 ↔ z = 0 := Int.sign_eq_zero_iff_zero

/-- What holds asks, by the plain meaning. -/
theorem holds_plain {XN XD YN YD x y d : Int} (h : PtOf XN XD YN YD x y d) (a b : Int × Int) :
    (decide (((b.1 - a.1) * (YN - a.2 * YD) * XD - (b.2 - a.2) * (XN - a.1 * XD) * YD).sign = 0) &&
      decide ((XN * 1 - a.1 * XD).sign * (XN * 1 - b.1 * XD).sign ≤ 0) && decide ((YN * 1 - a.2 * YD).sign * (YN * 1 - b.2 * YD).sign ≤ 0)) = Ge.fo (x, y) d (a, b) := by
  obtain ⟨_, ⟨g1, p1, h1, h2⟩, g2, p2, h3, h4⟩ := h
  rw [Ge.side_sign a b h1 h2 h3 h4 p1 p2, Ge.cmp_sign h1 h2 p1, Ge.cmp_sign h1 h2 p1, Ge.cmp_sign h3 h4 p2, Ge.cmp_sign h3 h4 p2, Int.neg_mul_neg, Int.neg_mul_neg, ← Int.sign_mul, ← Int.sign_mul]
  rw [Bool.eq_iff_iff]
  unfold Ge.fo
  rw [Ge.on_iff]
  simp only [Bool.and_eq_true, decide_eq_true_eq, sign_le, sign_zero_iff, Ge.rel, and_assoc]

end Go.Proofs.YtkjhhooecopolaaGreatDoor
