import Derived.Test.YtkjhhooecopolaaGreatDoorOgqK
import Derived.Test.YtkjhhooecopolaaGreatDoorKj26
import Derived.Test.YtkjhhooecopolaaGreatDoorShelfqK
namespace Go.Proofs.YtkjhhooecopolaaGreatDoor
open Go.RowKit

theorem itoa_any (n : Int) (h1 : -9223372036854775808 ≤ n) (h2 : n ≤ 9223372036854775807) (w1 : World) (g1 : Gl w1) :
    Calls Tryz.prog 146 #[.int .i64 n] w1 fun e w' => e = .returned (.string ⟨(Lib.itoa n).toArray⟩) ∧ Below w1.heap.size w1 w' := by
  refine (Tryz.strconv_Itoa n h1 h2 w1 g1.tab).mono ?_
  rintro e w' ⟨rfl, k, os, rfl⟩
  exact ⟨rfl, Lib.below_grow _ _ (Nat.le_refl _) _ _⟩

set_option maxRecDepth 100000 in
set_option maxHeartbeats 1000000 in
theorem fraction_any (x d : Int) (w : World) (hG : Gl w) (hx : -16000000 ≤ x ∧ x ≤ 16000000) (hd : 0 < d ∧ d ≤ 300000) :
    Calls Tryz.prog 178 #[.int .i64 x, .int .i64 d] w fun e w' => e = .returned (.string ⟨(Pl.ftxt (Ge.fr2 x d)).toArray⟩) ∧ Below w.heap.size w w' := by
  obtain ⟨G, hg⟩ : ∃ G, Int.gcd x d = G := ⟨_, rfl⟩
  have hfr : Ge.fr2 x d = (x.tdiv G, d.tdiv G) := by
    unfold Ge.fr2; rw [if_neg (by omega)]; unfold frN frD; rw [hg]
  have hGp : 0 < G := by rw [← hg]; exact Int.gcd_pos_of_ne_zero_right _ (by omega)
  have hGd : (G : Int) ∣ d := by rw [← hg]; exact Int.gcd_dvd_right ..
  have hGle := Int.le_of_dvd hd.1 hGd
  have ed := Ge.tdiv_of_dvd hGd
  have bx := tdiv_in x G
  have bd := tdiv_in d G
  rw [hfr]
  have HD : Hid (∀ w1, Calls Tryz.prog 65 #[.int .i64 x, .int .i64 d] w1 fun e w' => e = .returned (.int .i64 (G : Int)) ∧ Below w1.heap.size w1 w') := fun w1 => by rw [← hg]; exact divisor_any x d w1 (by omega) (by omega)
  have hw1 : IntKind.i64.wrap (x.tdiv (G : Int)) = x.tdiv G := by rw [IntKind.wrap_i64]; omega
  have hw2 : IntKind.i64.wrap (d.tdiv (G : Int)) = d.tdiv G := by rw [IntKind.wrap_i64]; omega
  have hw3 : IntKind.i64.wrap (d / (G : Int)) = d.tdiv G := by rw [← hw2, Int.tdiv_eq_ediv_of_nonneg (by omega)]
  have HX : Hid (∀ w1, Gl w1 → Calls Tryz.prog 146 #[.int .i64 (x.tdiv G)] w1 fun e w' => e = .returned (.string ⟨(Lib.itoa (x.tdiv G)).toArray⟩) ∧ Below w1.heap.size w1 w') := fun w1 g1 => itoa_any _ (by omega) (by omega) w1 g1
  have HY : Hid (∀ w1, Gl w1 → Calls Tryz.prog 146 #[.int .i64 (d.tdiv G)] w1 fun e w' => e = .returned (.string ⟨(Lib.itoa (d.tdiv G)).toArray⟩) ∧ Below w1.heap.size w1 w') := fun w1 g1 => itoa_any _ (by omega) (by omega) w1 g1
  have h1 := Lib.itoa_length_le (x.tdiv G) (by omega) (by omega)
  have h2 := Lib.itoa_length_le (d.tdiv G) (by omega) (by omega)
  have hGz : ¬ G = 0 := by omega
  have hGi : (0 : Int) < G := by omega
  by_cases hdG : d = G
  · have hq : d.tdiv G = 1 := by
      rw [← hdG]; exact Int.tdiv_self (by omega)
    have HV : Hid (Pl.ftxt (x.tdiv G, d.tdiv G) = Lib.itoa (x.tdiv G)) := if_pos hq
    rw [HV.out]
    generalize Lib.itoa (x.tdiv G) = X1 at *
    clear HV h1 h2 hw2 hw3 HY hq ed bx bd hGle hGd hfr hg
    subst hdG
    go_enter Tryz.func178, Tryz.ntmps178
    go_wp2_with fail
    refine (HD.out _).mono ?_
    rintro e w1 ⟨rfl, hb1⟩
    go_wp2_with fail
    refine (HX.out _ (hG.below hb1 hG.sz)).mono ?_
    rintro e w2 ⟨rfl, hb2⟩
    go_wp2_with fail
    go_ret
    exact ⟨rfl, hb1.trans (hb2.mono hb1.size)⟩
  · have hq : ¬ d.tdiv G = 1 := by
      intro h
      rw [h, Int.mul_one] at ed
      exact hdG ed
    have HV : Hid (Pl.ftxt (x.tdiv G, d.tdiv G) = Lib.itoa (x.tdiv G) ++ ([47] ++ Lib.itoa (d.tdiv G))) := if_neg hq
    rw [HV.out]
    have hwd : (d / (G : Int)) = d.tdiv G := (Int.tdiv_eq_ediv_of_nonneg (by omega)).symm
    have HYt : Hid (∀ w1, Gl w1 → Calls Tryz.prog 146 #[.int .i64 (d / (G : Int))] w1 fun e w' => e = .returned (.string ⟨(Lib.itoa (d.tdiv G)).toArray⟩) ∧ Below w1.heap.size w1 w') := by rw [hwd]; exact HY
    generalize Lib.itoa (x.tdiv G) = X1 at *
    generalize Lib.itoa (d.tdiv G) = X2 at *
    have hs1 : ¬9223372036854775807 < X1.length + 1 := by omega
    have hs2 : ¬9223372036854775807 < X1.length + 1 + X2.length := by omega
    clear HV hq ed bx bd hGle hGd hfr hg hwd h1 h2
    go_enter Tryz.func178, Tryz.ntmps178
    go_wp2_with fail
    refine (HD.out _).mono ?_
    rintro e w1 ⟨rfl, hb1⟩
    have hG1 : Gl w1 := hG.below hb1 hG.sz
    go_wp2_with fail
    go_region_held3 (fun _ => True) (trivial) (first
      | (go_at_call_of 146 (Value.int IntKind.i64 (x.tdiv G)); refine (HX.out _ hG1.drew).mono ?_; rintro e w5 ⟨rfl, hb5⟩; have hG5 := hG1.drew.below hb5 hG1.sz)
      | (go_at_call_of 146 (Value.int IntKind.i64 (d.tdiv G)); refine (HY.out _ hG5).mono ?_; rintro e w6 ⟨rfl, hb6⟩)
      | (go_at_call_of 146 (Value.int IntKind.i64 (d / (G : Int))); refine (HYt.out _ hG5).mono ?_; rintro e w6 ⟨rfl, hb6⟩))
    go_wp2_with fail
    go_ret
    refine ⟨by simp [ByteArray.mk_append_mk], ?_⟩
    exact (hb1.drew.trans (hb5.mono hb1.size)).trans (hb6.mono (Nat.le_trans hb1.size hb5.size))

end Go.Proofs.YtkjhhooecopolaaGreatDoor

namespace Go.Proofs.YtkjhhooecopolaaGreatDoor
open Go.RowKit

theorem ftxt_len2 {x d : Int} (hx : -16000000 ≤ x ∧ x ≤ 16000000) (hd : 0 < d ∧ d ≤ 300000) : (Pl.ftxt (Ge.fr2 x d)).length ≤ 50 := by
  have hfr : Ge.fr2 x d = (x.tdiv (Int.gcd x d), d.tdiv (Int.gcd x d)) := by
    unfold Ge.fr2; rw [if_neg (by omega)]; rfl
  have bx := tdiv_in x (Int.gcd x d)
  have bd := tdiv_in d (Int.gcd x d)
  rw [hfr]
  have h1 := Lib.itoa_length_le (x.tdiv (Int.gcd x d)) (by omega) (by omega)
  have h2 := Lib.itoa_length_le (d.tdiv (Int.gcd x d)) (by omega) (by omega)
  unfold Pl.ftxt
  split
  · show (Lib.itoa (x.tdiv (Int.gcd x d))).length ≤ 50
    omega
  · show (Lib.itoa (x.tdiv (Int.gcd x d)) ++ ([47] ++ Lib.itoa (d.tdiv (Int.gcd x d)))).length ≤ 50
    simp; omega

set_option maxRecDepth 100000 in
set_option maxHeartbeats 1000000 in
theorem nwritten_core (N1 N2 : Nat) (X Y P : Int) (X1 X2 : List UInt8) (w : World) (hG : Gl w) (h1 : X1.length ≤ 50) (h2 : X2.length ≤ 50)
    (hc1 : ∀ w, (convert 120 3 (.float .f64 N1)).run Tryz.prog w = .ok (.int .i64 X) w)
    (hc2 : ∀ w, (convert 120 3 (.float .f64 N2)).run Tryz.prog w = .ok (.int .i64 Y) w)
    (HN : Hid (∀ w1, Gl w1 → Calls Tryz.prog 178 #[.int .i64 X, .int .i64 P] w1 fun e w' => e = .returned (.string ⟨X1.toArray⟩) ∧ Below w1.heap.size w1 w'))
    (HD : Hid (∀ w1, Gl w1 → Calls Tryz.prog 178 #[.int .i64 Y, .int .i64 P] w1 fun e w' => e = .returned (.string ⟨X2.toArray⟩) ∧ Below w1.heap.size w1 w')) :
    Calls Tryz.prog 122 #[.agg #[.complex .f64 N1 N2, .int .i64 P]] w fun e w' => e = .returned (.string ⟨(X1 ++ ([32] ++ X2)).toArray⟩) ∧ Below w.heap.size w w' := by
  have hs1 : ¬9223372036854775807 < X1.length + 1 := by omega
  have hs2 : ¬9223372036854775807 < X1.length + 1 + X2.length := by omega
  have hb0 : Below w.heap.size w (w.alloc (.cells #[.complex .f64 N1 N2, .int .i64 P] 83)) := (Below.refl _ _).alloc (Nat.le_refl _) _
  have hE := heap_alloc_new w (.cells #[.complex .f64 N1 N2, .int .i64 P] 83)
  have hz : w.heap.size < (w.alloc (.cells #[.complex .f64 N1 N2, .int .i64 P] 83)).heap.size := by simp
  have hG0 : Gl (w.alloc (.cells #[.complex .f64 N1 N2, .int .i64 P] 83)) := hG.alloc _
  go_enter Tryz.func122, Tryz.ntmps122
  go_wp2_with fail
  generalize w.alloc (.cells #[.complex .f64 N1 N2, .int .i64 P] 83) = W at *
  generalize hB : w.heap.size = B at *
  have r0 : W.cell? ⟨B, 0, none⟩ = some (.complex .f64 N1 N2) := cell_of hE 0
  have r1 : W.cell? ⟨B, 1, none⟩ = some (.int .i64 P) := cell_of hE 1
  go_region_held3 (fun w' => w'.cell? ⟨B, 0, none⟩ = some (.complex .f64 N1 N2) ∧ w'.cell? ⟨B, 1, none⟩ = some (.int .i64 P)) (go_keep) (first
      | (go_at_call_of 178 (Value.int IntKind.i64 X); refine (HN.out _ hG0.drew).mono ?_; rintro e w5 ⟨rfl, hb5⟩; have hG5 := hG0.drew.below hb5 hG0.sz; have q0 := (hb5.cell (p := ⟨B, 0, none⟩) hz).trans r0; have q1 := (hb5.cell (p := ⟨B, 1, none⟩) hz).trans r1)
      | (go_at_call_of 178 (Value.int IntKind.i64 Y); refine (HD.out _ hG5).mono ?_; rintro e w6 ⟨rfl, hb6⟩; have s0 := (hb6.cell (p := ⟨B, 0, none⟩) (Nat.lt_of_lt_of_le hz hb5.size)).trans q0; have s1 := (hb6.cell (p := ⟨B, 1, none⟩) (Nat.lt_of_lt_of_le hz hb5.size)).trans q1)
      | (simp only)
      | (simp only [hc2]))
  all_goals
    go_wp2_with fail
    go_ret
    refine ⟨by simp [ByteArray.mk_append_mk], ?_⟩
    rw [hB]
    exact (hb0.drew.trans (hb5.mono (Nat.le_of_lt hz))).trans (hb6.mono (Nat.le_trans (Nat.le_of_lt hz) hb5.size))

theorem nwritten_any (n : Ge.Nd) (hn : NodeIn n.1 n.2.1 n.2.2) (w : World) (hG : Gl w) :
    Calls Tryz.prog 122 #[ndV n] w fun e w' => e = .returned (.string ⟨(Pl.qtxt (Ge.ndQ n)).toArray⟩) ∧ Below w.heap.size w w' := by
  obtain ⟨a1, a2⟩ := fl_nd hn
  have hx := hn.x
  have hy := hn.y
  have c1 := a1.int (by omega) (by omega)
  have c2 := a2.int (by omega) (by omega)
  exact nwritten_core _ _ n.1 n.2.1 n.2.2 (Pl.ftxt (Ge.fr2 n.1 n.2.2)) (Pl.ftxt (Ge.fr2 n.2.1 n.2.2)) w hG (ftxt_len2 (by omega) hn.d) (ftxt_len2 (by omega) hn.d)
    (fun w => run_convert_float_int w 120 3 .f64 .i64 _ _ (by rw [Tryz.underlying120]; rfl) Tryz.underlying3 c1)
    (fun w => run_convert_float_int w 120 3 .f64 .i64 _ _ (by rw [Tryz.underlying120]; rfl) Tryz.underlying3 c2)
    (fun w1 g1 => fraction_any _ _ w1 g1 (by omega) hn.d) (fun w1 g1 => fraction_any _ _ w1 g1 (by omega) hn.d)

end Go.Proofs.YtkjhhooecopolaaGreatDoor
