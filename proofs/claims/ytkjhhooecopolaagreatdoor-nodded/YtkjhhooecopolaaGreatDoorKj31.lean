import Derived.Test.YtkjhhooecopolaaGreatDoorKj30
namespace Go.Proofs.YtkjhhooecopolaaGreatDoor.Ge

/-- A node that is left no common divisor: numbers X, Y over the part P above 0. -/
abbrev Nd := Int × Int × Int
structure Can (n : Nd) : Prop where
  pos : 0 < n.2.2
  co : Int.gcd (Int.gcd n.1 n.2.1) n.2.2 = 1
/-- The point of a node. -/
def ndQ (n : Nd) : Qt := (fr2 n.1 n.2.2, fr2 n.2.1 n.2.2)

theorem can_dvd {n m : Nd} (hn : Can n) (h1 : n.1 * m.2.2 = m.1 * n.2.2) (h2 : n.2.1 * m.2.2 = m.2.1 * n.2.2) : n.2.2 ∣ m.2.2 := by
  have d1 : n.2.2 ∣ n.1 * m.2.2 := ⟨m.1, by rw [h1, Int.mul_comm]⟩
  have d2 : n.2.2 ∣ n.2.1 * m.2.2 := ⟨m.2.1, by rw [h2, Int.mul_comm]⟩
  have d3 : n.2.2 ∣ (Int.gcd (n.1 * m.2.2) (n.2.1 * m.2.2) : Int) := Int.dvd_coe_gcd d1 d2
  rw [Int.gcd_mul_right] at d3
  have d4 : n.2.2 ∣ (Int.gcd n.1 n.2.1 : Int) * m.2.2 := by
    rw [Int.natCast_mul] at d3
    rcases Int.natAbs_eq m.2.2 with h | h
    · rw [h]; exact d3
    · rw [h, Int.mul_neg]; exact Int.dvd_neg.2 d3
  exact dvd_co (by rw [Int.gcd_comm]; exact hn.co) d4
theorem can_eq {n m : Nd} (hn : Can n) (hm : Can m) (h1 : n.1 * m.2.2 = m.1 * n.2.2) (h2 : n.2.1 * m.2.2 = m.2.1 * n.2.2) : n = m := by
  have a := can_dvd hn h1 h2
  have b := can_dvd hm h1.symm h2.symm
  have p1 := Int.le_of_dvd hm.pos a
  have p2 := Int.le_of_dvd hn.pos b
  have e : n.2.2 = m.2.2 := by omega
  have hz : m.2.2 ≠ 0 := by have := hm.pos; omega
  rw [e] at h1 h2
  have e1 := Int.eq_of_mul_eq_mul_right hz h1
  have e2 := Int.eq_of_mul_eq_mul_right hz h2
  exact Prod.ext e1 (Prod.ext e2 e)
theorem sgn_scale {g z : Int} (hg : 0 < g) : (g * z).sign = z.sign := by
  rw [Int.sign_mul, Int.sign_eq_one_of_pos hg, Int.one_mul]
theorem fc_fr2 {a b c d : Int} (hb : 0 < b) (hd : 0 < d) : fc (fr2 a b) (fr2 c d) = (a * d - c * b).sign := by
  obtain ⟨g, g0, e1, e2, gp⟩ := fr2_eq (n := a) (d := b) (by omega)
  obtain ⟨k, k0, e3, e4, kp⟩ := fr2_eq (n := c) (d := d) (by omega)
  have hg := gp.2 hb
  have hk := kp.2 hd
  unfold fc
  have : a * d - c * b = (g * k) * ((fr2 a b).1 * (fr2 c d).2 - (fr2 c d).1 * (fr2 a b).2) := by
    generalize fr2 a b = A at *
    generalize fr2 c d = B at *
    rw [e1, e2, e3, e4]; grind
  rw [this, sgn_scale (Int.mul_pos hg hk)]
theorem ndQ_red {n : Nd} (h : Can n) : RedP (ndQ n) := ⟨fr2_red (by have := h.pos; omega), fr2_red (by have := h.pos; omega)⟩
theorem pc_ndQ {n m : Nd} (hn : Can n) (hm : Can m) : pc (ndQ n) (ndQ m) = if (n.1 * m.2.2 - m.1 * n.2.2).sign = 0 then (n.2.1 * m.2.2 - m.2.1 * n.2.2).sign else (n.1 * m.2.2 - m.1 * n.2.2).sign := by
  unfold pc ndQ
  rw [fc_fr2 hn.pos hm.pos, fc_fr2 hn.pos hm.pos]
theorem pc_nd_zero {n m : Nd} (hn : Can n) (hm : Can m) (h : pc (ndQ n) (ndQ m) = 0) : n = m := by
  rw [pc_ndQ hn hm] at h
  split at h
  · rename_i h1
    have a := Int.sign_eq_zero_iff_zero.1 h1
    have b := Int.sign_eq_zero_iff_zero.1 h
    exact can_eq hn hm (by omega) (by omega)
  · contradiction
theorem ndQ_inj {n m : Nd} (hn : Can n) (hm : Can m) (h : ndQ n = ndQ m) : n = m := pc_nd_zero hn hm (by rw [h]; exact pc_self _)

theorem can_of {x y d k X Y P : Int} (hd : d ≠ 0) (h1 : x = k * X) (h2 : y = k * Y) (h3 : d = k * P) (hP : 0 < P) (hk : k.natAbs = Int.gcd (Int.gcd x y : Nat) d) : Can (X, Y, P) ∧ ndQ (X, Y, P) = (fr2 x d, fr2 y d) := by
  have k0 : k ≠ 0 := by rintro rfl; rw [Int.zero_mul] at h3; exact hd h3
  refine ⟨⟨hP, ?_⟩, ?_⟩
  · show Int.gcd (Int.gcd X Y : Nat) P = 1
    have e1 : Int.gcd x y = k.natAbs * Int.gcd X Y := by rw [h1, h2, Int.gcd_mul_left]
    have e2 : Int.gcd (Int.gcd x y : Nat) d = k.natAbs * Int.gcd (Int.gcd X Y : Nat) P := by
      have : Int.gcd (k * ((Int.gcd X Y : Nat) : Int)) (k * P) = k.natAbs * Int.gcd (Int.gcd X Y : Nat) P := Int.gcd_mul_left ..
      rw [← this, e1, h3]
      unfold Int.gcd
      congr 1
      rw [Int.natAbs_mul]
      simp [Int.natAbs_mul]
    rw [e2] at hk
    have kp : 0 < k.natAbs := by omega
    exact Nat.eq_of_mul_eq_mul_left kp (by omega)
  · unfold ndQ
    show (fr2 X P, fr2 Y P) = _
    rw [fr2_same (n := X) (d := P) (m := x) (e := d) (by omega) hd (by rw [h1, h3]; grind), fr2_same (n := Y) (d := P) (m := y) (e := d) (by omega) hd (by rw [h2, h3]; grind)]

theorem tdiv_of_dvd {x g : Int} (h : g ∣ x) : x = g * x.tdiv g := (Int.mul_tdiv_cancel' h).symm
end Go.Proofs.YtkjhhooecopolaaGreatDoor.Ge

namespace Go.Proofs.YtkjhhooecopolaaGreatDoor
open Go.RowKit

def ndV (n : Ge.Nd) : Value := .agg #[.complex .f64 (floatOfInt .f64 n.1) (floatOfInt .f64 n.2.1), .int .i64 n.2.2]

theorem nodeAt_all {a b : Nat} {x y : Int} (D : Int) (h1 : Fl a x) (h2 : Fl b y) (hx : -16000000 ≤ x ∧ x ≤ 16000000) (hy : -16000000 ≤ y ∧ y ≤ 16000000) (hD : D ≠ 0 ∧ -300000 ≤ D ∧ D ≤ 300000) :
    ∃ n : Ge.Nd, Ge.Can n ∧ Ge.ndQ n = (Ge.fr2 x D, Ge.fr2 y D) ∧ NodeIn n.1 n.2.1 n.2.2 ∧ ∀ w, Calls Tryz.prog 37 #[.complex .f64 a b, .int .i64 D] w fun e w' => e = .returned (ndV n) ∧ Below w.heap.size w w' := by
  obtain ⟨G, hG⟩ : ∃ G, Int.gcd (Int.gcd x y : Nat) D = G := ⟨_, rfl⟩
  have hGp : 0 < G := by rw [← hG]; exact Int.gcd_pos_of_ne_zero_right _ hD.1
  have dg : (G : Int) ∣ (Int.gcd x y : Nat) := by rw [← hG]; exact Int.gcd_dvd_left ..
  have dd : (G : Int) ∣ D := by rw [← hG]; exact Int.gcd_dvd_right ..
  have dx : (G : Int) ∣ x := Int.dvd_trans dg (Int.gcd_dvd_left ..)
  have dy : (G : Int) ∣ y := Int.dvd_trans dg (Int.gcd_dvd_right ..)
  have ex := Ge.tdiv_of_dvd dx
  have ey := Ge.tdiv_of_dvd dy
  have ed := Ge.tdiv_of_dvd dd
  have bx := tdiv_in x G
  have by' := tdiv_in y G
  have bd := tdiv_in D G
  rcases Int.lt_trichotomy D 0 with h | h | h
  · have call := nodeAt_neg D h1 h2 hx hy ⟨h, hD.2.1⟩ G hG
    rw [Int.tdiv_neg, Int.tdiv_neg, Int.tdiv_neg] at call
    have hP : 0 < -(D.tdiv G) := by
      rcases Int.lt_or_le (D.tdiv G) 0 with q | q
      · omega
      · have := Int.mul_nonneg (Int.natCast_nonneg G) q; omega
    obtain ⟨c1, c2⟩ := Ge.can_of (x := x) (y := y) (d := D) (k := -(G : Int)) (X := -(x.tdiv G)) (Y := -(y.tdiv G)) (P := -(D.tdiv G)) hD.1 (ex.trans (Int.neg_mul_neg ..).symm) (ey.trans (Int.neg_mul_neg ..).symm) (ed.trans (Int.neg_mul_neg ..).symm) hP (by rw [hG]; omega)
    exact ⟨(-(x.tdiv G), -(y.tdiv G), -(D.tdiv G)), c1, c2, ⟨by show (-(x.tdiv G)).natAbs ≤ _; omega, by show (-(y.tdiv G)).natAbs ≤ _; omega, hP, by show -(D.tdiv G) ≤ _; omega⟩, call⟩
  · exact absurd h hD.1
  · have call := nodeAt_any D h1 h2 hx hy ⟨h, hD.2.2⟩ G hG
    have hP : 0 < D.tdiv G := by
      rcases Int.lt_or_le 0 (D.tdiv G) with q | q
      · exact q
      · have := Int.mul_nonneg (Int.natCast_nonneg G) (Int.neg_nonneg_of_nonpos q)
        rw [Int.mul_neg] at this
        omega
    obtain ⟨c1, c2⟩ := Ge.can_of (x := x) (y := y) (d := D) (k := (G : Int)) (X := x.tdiv G) (Y := y.tdiv G) (P := D.tdiv G) hD.1 ex ey ed hP (by rw [hG]; omega)
    exact ⟨(x.tdiv G, y.tdiv G, D.tdiv G), c1, c2, ⟨by show (x.tdiv G).natAbs ≤ _; omega, by show (y.tdiv G).natAbs ≤ _; omega, hP, by show D.tdiv G ≤ _; omega⟩, call⟩

end Go.Proofs.YtkjhhooecopolaaGreatDoor

namespace Go.Proofs.YtkjhhooecopolaaGreatDoor
open Go.RowKit

theorem way_small {e : Ed} (h : smallE e) : (-100 ≤ e.2.1 - e.1.1 ∧ e.2.1 - e.1.1 ≤ 100) ∧ (-100 ≤ e.2.2 - e.1.2 ∧ e.2.2 - e.1.2 ≤ 100) := by
  obtain ⟨a, b, c, d⟩ := h
  unfold small at a b c d
  omega

set_option maxRecDepth 100000 in
set_option maxHeartbeats 1000000 in
theorem parallelTo_any (x y : EB) (e f : Ed) (hx : EBok x e) (hy : EBok y f) (he : smallE e) (hf : smallE f) (w : World) :
    Calls Tryz.prog 179 #[.agg #[.complex .f64 x.wa x.wb, .float .f64 x.sh], .agg #[.complex .f64 y.wa y.wb, .float .f64 y.sh]] w fun r w' => r = .returned (.bool (decide (Ge.crE e f = 0))) ∧ Below w.heap.size w w' := by
  have we := way_small he
  have wf := way_small hf
  obtain ⟨im, f1, hl⟩ := left_any hx.wa hx.wb hy.wa hy.wb (by unfold sm; omega) (by unfold sm; omega) (by unfold sm; omega) (by unfold sm; omega)
  have HL : Hid (∀ w, Calls Tryz.prog 101 #[.complex .f64 x.wa x.wb, .complex .f64 y.wa y.wb] w fun e w' => e = .returned (.float .f64 im) ∧ w' = w) := hl
  have q := eq_bits f1 fl_zero
  have hc : decide (Ge.crE e f = 0) = (FloatKind.f64.format.order im 0 == some .eq) := by rw [q]; rfl
  rw [hc]
  clear hl q hc f1 hx hy he hf we wf
  obtain ⟨wa, wb, sh, fa, fb, ta, tb⟩ := x
  obtain ⟨wa', wb', sh', fa', fb', ta', tb'⟩ := y
  simp only at *
  have hb0 : Below w.heap.size w ((w.alloc (.cells #[.complex .f64 wa wb, .float .f64 sh] 122)).alloc (.cells #[.complex .f64 wa' wb', .float .f64 sh'] 122)) := ((Below.refl _ _).alloc (Nat.le_refl _) _).alloc (by simp) _
  go_enter Tryz.func179, Tryz.ntmps179
  go_wp2_with fail
  refine (HL.out _).mono ?_
  rintro e w1 ⟨rfl, rfl⟩
  go_wp2_with fail
  go_ret
  exact ⟨rfl, hb0⟩

theorem cross_x (e f : Ed) : (f.2.1 - f.1.1) * ((e.2.1 - e.1.1) * e.1.2 - (e.2.2 - e.1.2) * e.1.1) - (e.2.1 - e.1.1) * ((f.2.1 - f.1.1) * f.1.2 - (f.2.2 - f.1.2) * f.1.1) = Ge.mX e f := by
  unfold Ge.mX Ge.mT Ge.crE; grind
theorem cross_y (e f : Ed) : (f.2.2 - f.1.2) * ((e.2.1 - e.1.1) * e.1.2 - (e.2.2 - e.1.2) * e.1.1) - (e.2.2 - e.1.2) * ((f.2.1 - f.1.1) * f.1.2 - (f.2.2 - f.1.2) * f.1.1) = Ge.mY e f := by
  unfold Ge.mY Ge.mT Ge.crE; grind

/-- A complex number times a whole one. -/
theorem cMul_real {a b s z : Nat} {x y t : Int} (h1 : Fl a x) (h2 : Fl b y) (h3 : Fl s t) (hz : Fl z 0) (b1 : sm x) (b2 : sm y) (b3 : sm t) :
    ∃ re im, (∀ ty w, (binOp .mul ty (.complex .f64 a b) (.complex .f64 s z)).run Tryz.prog w = .ok (.complex .f64 re im) w) ∧ Fl re (x * t) ∧ Fl im (y * t) := by
  have m1 := mul_sm b1 b3
  have m2 := mul_sm b2 b3
  obtain ⟨re, im, e, f1, f2⟩ := cMul_of h1 h2 h3 hz (by omega) (by omega) (by omega) (by omega) (by omega) (by omega)
  refine ⟨re, im, fun ty w => run_complex_mul (P := Tryz.prog) w ty a b s z re im e, ?_, ?_⟩
  · have : x * t = x * t - y * 0 := by omega
    rw [this]; exact f1
  · have : y * t = x * 0 + y * t := by omega
    rw [this]; exact f2

set_option maxRecDepth 100000 in
set_option maxHeartbeats 1000000 in
theorem crossing_any (x y : EB) (e f : Ed) (hx : EBok x e) (hy : EBok y f) (he : smallE e) (hf : smallE f) (hc : Ge.crE e f ≠ 0) :
    ∃ n : Ge.Nd, Ge.Can n ∧ Ge.ndQ n = Ge.meetP e f ∧ NodeIn n.1 n.2.1 n.2.2 ∧ ∀ w, Calls Tryz.prog 180 #[.agg #[.complex .f64 x.wa x.wb, .float .f64 x.sh], .agg #[.complex .f64 y.wa y.wb, .float .f64 y.sh]] w fun r w' => r = .returned (ndV n) ∧ Below w.heap.size w w' := by
  have we := way_small he
  have wf := way_small hf
  have cin := crE_in he hf
  obtain ⟨im, f1, hl⟩ := left_any hx.wa hx.wb hy.wa hy.wb (by unfold sm; omega) (by unfold sm; omega) (by unfold sm; omega) (by unfold sm; omega)
  have hcr : (e.2.1 - e.1.1) * (f.2.2 - f.1.2) - (e.2.2 - e.1.2) * (f.2.1 - f.1.1) = Ge.crE e f := rfl
  rw [hcr] at f1
  have c1 := f1.int (by omega) (by omega)
  obtain ⟨p1, p2, o1, g1, g2⟩ := cMul_real hy.wa hy.wb hx.sh fl_zero (by unfold sm; omega) (by unfold sm; omega) (shift_sm he)
  obtain ⟨r1, r2, o2, k1, k2⟩ := cMul_real hx.wa hx.wb hy.sh fl_zero (by unfold sm; omega) (by unfold sm; omega) (shift_sm hf)
  have cx := cross_x e f
  have cy := cross_y e f
  obtain ⟨s1, s2, e3, j1, j2⟩ := cSum_sub g1 g2 k1 k2 (by rw [cx]; omega) (by rw [cy]; omega)
  have o3 := fun t w => run_complex_sum (P := Tryz.prog) w .sub (Or.inr rfl) t .f64 p1 p2 r1 r2 s1 s2 e3
  rw [cx] at j1
  rw [cy] at j2
  obtain ⟨n, n1, n2, n3, hN⟩ := nodeAt_all (Ge.crE e f) j1 j2 (by omega) (by omega) (by omega)
  refine ⟨n, n1, n2, n3, fun w => ?_⟩
  have HL : Hid (∀ w, Calls Tryz.prog 101 #[.complex .f64 x.wa x.wb, .complex .f64 y.wa y.wb] w fun e w' => e = .returned (.float .f64 im) ∧ w' = w) := hl
  generalize Ge.crE e f = C at *
  have hc1 : ∀ w, (convert 120 3 (.float .f64 im)).run Tryz.prog w = .ok (.int .i64 C) w := fun w => run_convert_float_int w 120 3 .f64 .i64 im C (by rw [Tryz.underlying120]; rfl) Tryz.underlying3 c1
  unfold ndV at *
  generalize floatOfInt .f64 n.1 = N1 at *
  generalize floatOfInt .f64 n.2.1 = N2 at *
  have HN : Hid (∀ w, Calls Tryz.prog 37 #[.complex .f64 s1 s2, .int .i64 C] w fun e w' => e = .returned (.agg #[.complex .f64 N1 N2, .int .i64 n.2.2]) ∧ Below w.heap.size w w') := hN
  clear hl hN c1 cx cy j1 j2 e3 g1 g2 k1 k2 n1 n2 n3 f1 hcr cin we wf hx hy he hf hc
  obtain ⟨wa, wb, sh, fa, fb, ta, tb⟩ := x
  obtain ⟨wa', wb', sh', fa', fb', ta', tb'⟩ := y
  simp only at *
  have hb1 : Below w.heap.size w ((w.alloc (.cells #[.complex .f64 wa wb, .float .f64 sh] 122)).alloc (.cells #[.complex .f64 wa' wb', .float .f64 sh'] 122)) := ((Below.refl _ _).alloc (Nat.le_refl _) _).alloc (by simp) _
  go_enter Tryz.func180, Tryz.ntmps180
  go_wp2_with (first | (simp only [o1]) | (simp only [o2]) | (simp only [o3]))
  have hs1 : w.heap.size + 2 = ((w.alloc (.cells #[.complex .f64 wa wb, .float .f64 sh] 122)).alloc (.cells #[.complex .f64 wa' wb', .float .f64 sh'] 122)).heap.size := by simp
  generalize (w.alloc (.cells #[.complex .f64 wa wb, .float .f64 sh] 122)).alloc (.cells #[.complex .f64 wa' wb', .float .f64 sh'] 122) = W1 at *
  have hE := heap_alloc_new W1 (.cells #[.complex .f64 0 0, .int .i64 0] 83)
  have hb0 := hb1.alloc (by omega) (.cells #[.complex .f64 0 0, .int .i64 0] 83)
  have hz : W1.heap.size < (W1.alloc (.cells #[.complex .f64 0 0, .int .i64 0] 83)).heap.size := by simp
  generalize W1.alloc (.cells #[.complex .f64 0 0, .int .i64 0] 83) = W at *
  generalize hB : w.heap.size = B at *
  generalize W1.heap.size = B1 at *
  have hB1 : B1 = B + 1 + 1 := by omega
  have hBB : B ≤ B + 1 + 1 := by omega
  subst hB1
  clear hs1
  refine (HL.out _).mono ?_
  rintro e w1 ⟨rfl, rfl⟩
  go_wp2_with (simp only)
  refine (HN.out _).mono ?_
  rintro e w2 ⟨rfl, hb2⟩
  have hE2 := (hb2.block _ hz).trans hE
  have hbel := hb0.trans (hb2.mono (by omega))
  have e0 : w2.cell? ⟨B + 1 + 1, 0, none⟩ = some (.complex .f64 0 0) := cell_of hE2 0
  have e1 : w2.cell? ⟨B + 1 + 1, 1, none⟩ = some (.int .i64 0) := cell_of hE2 1
  have z0 : w2.frozen? ⟨B + 1 + 1, 0, none⟩ = false := frozen_of hE2 0
  have z1 : w2.frozen? ⟨B + 1 + 1, 1, none⟩ = false := frozen_of hE2 1
  clear hE hE2 hb2 hb0 hb1
  go_wp2_with (simp only [st_complex]; go_simp)
  refine bodyPost_ret (v := .agg #[.complex .f64 N1 N2, .int .i64 n.2.2]) (by simp [results, Tryz.results180, go_sem, e0, e1]) rfl ⟨rfl, ?_⟩
  rw [hB]
  exact (hbel.setCell hBB _).setCell hBB _

end Go.Proofs.YtkjhhooecopolaaGreatDoor

namespace Go.Proofs.YtkjhhooecopolaaGreatDoor
open Go.RowKit

set_option maxRecDepth 100000 in
set_option maxHeartbeats 2000000 in
theorem meeting_par (x y : EB) (w : World)
    (HP : Hid (∀ w, Calls Tryz.prog 179 #[.agg #[.complex .f64 x.wa x.wb, .float .f64 x.sh], .agg #[.complex .f64 y.wa y.wb, .float .f64 y.sh]] w fun r w' => r = .returned (.bool true) ∧ Below w.heap.size w w')) :
    Calls Tryz.prog 123 #[.agg x.cells, .agg y.cells] w fun r w' => r = .returned (.tuple #[.agg #[.complex .f64 0 0, .int .i64 0], .bool false]) ∧ Below w.heap.size w w' := by
  obtain ⟨wa, wb, sh, fa, fb, ta, tb⟩ := x
  obtain ⟨wa', wb', sh', fa', fb', ta', tb'⟩ := y
  simp only [EB.cells] at *
  go_enter Tryz.func123, Tryz.ntmps123
  go_wp2_with fail
  have hs1 : w.heap.size + 1 + 1 = ((w.alloc (.cells #[.complex .f64 wa wb, .float .f64 sh, .complex .f64 fa fb, .complex .f64 ta tb] 124)).alloc (.cells #[.complex .f64 wa' wb', .float .f64 sh', .complex .f64 fa' fb', .complex .f64 ta' tb'] 124)).heap.size := by simp
  have hb0 : Below w.heap.size w ((w.alloc (.cells #[.complex .f64 wa wb, .float .f64 sh, .complex .f64 fa fb, .complex .f64 ta tb] 124)).alloc (.cells #[.complex .f64 wa' wb', .float .f64 sh', .complex .f64 fa' fb', .complex .f64 ta' tb'] 124)) := ((Below.refl _ _).alloc (Nat.le_refl _) _).alloc (by simp) _
  generalize (w.alloc (.cells #[.complex .f64 wa wb, .float .f64 sh, .complex .f64 fa fb, .complex .f64 ta tb] 124)).alloc (.cells #[.complex .f64 wa' wb', .float .f64 sh', .complex .f64 fa' fb', .complex .f64 ta' tb'] 124) = W1 at *
  have hE := heap_alloc_new W1 (.cells #[.complex .f64 0 0, .int .i64 0] 83)
  have hb2 := hb0.alloc (by omega) (.cells #[.complex .f64 0 0, .int .i64 0] 83)
  have hz : W1.heap.size < (W1.alloc (.cells #[.complex .f64 0 0, .int .i64 0] 83)).heap.size := by simp
  generalize W1.alloc (.cells #[.complex .f64 0 0, .int .i64 0] 83) = W at *
  generalize hB : w.heap.size = B at *
  rw [← hs1] at hE hz
  refine (HP.out _).mono ?_
  rintro e w1 ⟨rfl, hb1⟩
  have hE2 := (hb1.block _ hz).trans hE
  have hbel := hb2.trans (hb1.mono (by omega))
  have e0 : w1.cell? ⟨B + 1 + 1, 0, none⟩ = some (.complex .f64 0 0) := cell_of hE2 0
  have e1 : w1.cell? ⟨B + 1 + 1, 1, none⟩ = some (.int .i64 0) := cell_of hE2 1
  have z0 : w1.frozen? ⟨B + 1 + 1, 0, none⟩ = false := frozen_of hE2 0
  have z1 : w1.frozen? ⟨B + 1 + 1, 1, none⟩ = false := frozen_of hE2 1
  have hBB : B ≤ B + 1 + 1 := by omega
  clear hE hE2 hb2 hb0 hb1 hs1
  go_wp2_with (simp only [st_complex]; go_simp)
  refine bodyPost_ret (v := .tuple #[.agg #[.complex .f64 0 0, .int .i64 0], .bool false]) (by simp [results, Tryz.results123, go_sem, e0, e1]) rfl ⟨rfl, ?_⟩
  rw [hB]
  exact (hbel.setCell hBB _).setCell hBB _

set_option maxRecDepth 100000 in
set_option maxHeartbeats 2000000 in
theorem meeting_at (x y : EB) (N1 N2 : Nat) (P : Int) (u1 u2 : Bool) (w : World)
    (HP : Hid (∀ w, Calls Tryz.prog 179 #[.agg #[.complex .f64 x.wa x.wb, .float .f64 x.sh], .agg #[.complex .f64 y.wa y.wb, .float .f64 y.sh]] w fun r w' => r = .returned (.bool false) ∧ Below w.heap.size w w'))
    (HC : Hid (∀ w, Calls Tryz.prog 180 #[.agg #[.complex .f64 x.wa x.wb, .float .f64 x.sh], .agg #[.complex .f64 y.wa y.wb, .float .f64 y.sh]] w fun r w' => r = .returned (.agg #[.complex .f64 N1 N2, .int .i64 P]) ∧ Below w.heap.size w w'))
    (HX : Hid (∀ w, Calls Tryz.prog 62 #[.agg x.cells, .agg #[.complex .f64 N1 N2, .int .i64 P]] w fun r w' => r = .returned (.bool u1) ∧ Below w.heap.size w w'))
    (HY : Hid (∀ w, Calls Tryz.prog 62 #[.agg y.cells, .agg #[.complex .f64 N1 N2, .int .i64 P]] w fun r w' => r = .returned (.bool u2) ∧ Below w.heap.size w w')) :
    Calls Tryz.prog 123 #[.agg x.cells, .agg y.cells] w fun r w' => r = .returned (.tuple #[.agg #[.complex .f64 N1 N2, .int .i64 P], .bool (u1 && u2)]) ∧ Below w.heap.size w w' := by
  obtain ⟨wa, wb, sh, fa, fb, ta, tb⟩ := x
  obtain ⟨wa', wb', sh', fa', fb', ta', tb'⟩ := y
  simp only [EB.cells] at *
  go_enter Tryz.func123, Tryz.ntmps123
  go_wp2_with fail
  have hs1 : w.heap.size + 1 + 1 = ((w.alloc (.cells #[.complex .f64 wa wb, .float .f64 sh, .complex .f64 fa fb, .complex .f64 ta tb] 124)).alloc (.cells #[.complex .f64 wa' wb', .float .f64 sh', .complex .f64 fa' fb', .complex .f64 ta' tb'] 124)).heap.size := by simp
  have hb0 : Below w.heap.size w ((w.alloc (.cells #[.complex .f64 wa wb, .float .f64 sh, .complex .f64 fa fb, .complex .f64 ta tb] 124)).alloc (.cells #[.complex .f64 wa' wb', .float .f64 sh', .complex .f64 fa' fb', .complex .f64 ta' tb'] 124)) := ((Below.refl _ _).alloc (Nat.le_refl _) _).alloc (by simp) _
  have hX : ((w.alloc (.cells #[.complex .f64 wa wb, .float .f64 sh, .complex .f64 fa fb, .complex .f64 ta tb] 124)).alloc (.cells #[.complex .f64 wa' wb', .float .f64 sh', .complex .f64 fa' fb', .complex .f64 ta' tb'] 124)).heap[w.heap.size]? = some (.cells #[.complex .f64 wa wb, .float .f64 sh, .complex .f64 fa fb, .complex .f64 ta tb] 124 (0, 0)) := by
    rw [Below.heap_alloc _ _ _ (by simp)]; exact heap_alloc_new _ _
  have hY : ((w.alloc (.cells #[.complex .f64 wa wb, .float .f64 sh, .complex .f64 fa fb, .complex .f64 ta tb] 124)).alloc (.cells #[.complex .f64 wa' wb', .float .f64 sh', .complex .f64 fa' fb', .complex .f64 ta' tb'] 124)).heap[w.heap.size + 1]? = some (.cells #[.complex .f64 wa' wb', .float .f64 sh', .complex .f64 fa' fb', .complex .f64 ta' tb'] 124 (0, 0)) := by
    have := heap_alloc_new (w.alloc (.cells #[.complex .f64 wa wb, .float .f64 sh, .complex .f64 fa fb, .complex .f64 ta tb] 124)) (.cells #[.complex .f64 wa' wb', .float .f64 sh', .complex .f64 fa' fb', .complex .f64 ta' tb'] 124)
    simpa using this
  generalize (w.alloc (.cells #[.complex .f64 wa wb, .float .f64 sh, .complex .f64 fa fb, .complex .f64 ta tb] 124)).alloc (.cells #[.complex .f64 wa' wb', .float .f64 sh', .complex .f64 fa' fb', .complex .f64 ta' tb'] 124) = W1 at *
  have hE := heap_alloc_new W1 (.cells #[.complex .f64 0 0, .int .i64 0] 83)
  have hX2 := (Below.heap_alloc W1 (.cells #[.complex .f64 0 0, .int .i64 0] 83) w.heap.size (by omega)).trans hX
  have hY2 := (Below.heap_alloc W1 (.cells #[.complex .f64 0 0, .int .i64 0] 83) (w.heap.size + 1) (by omega)).trans hY
  have hb2 := hb0.alloc (by omega) (.cells #[.complex .f64 0 0, .int .i64 0] 83)
  have hz : W1.heap.size < (W1.alloc (.cells #[.complex .f64 0 0, .int .i64 0] 83)).heap.size := by simp
  generalize W1.alloc (.cells #[.complex .f64 0 0, .int .i64 0] 83) = W at *
  generalize hB : w.heap.size = B at *
  rw [← hs1] at hE hz
  clear hX hY hb0 hs1
  refine (HP.out _).mono ?_
  rintro e w1 ⟨rfl, hb1⟩
  have hz1 : B + 1 + 1 < w1.heap.size := Nat.lt_of_lt_of_le hz hb1.size
  have hE2 := (hb1.block _ hz).trans hE
  have hX3 := (hb1.block B (by omega)).trans hX2
  have hY3 := (hb1.block (B + 1) (by omega)).trans hY2
  have hbel1 := hb2.trans (hb1.mono (by omega))
  clear hE hX2 hY2 hb2 hb1
  have x0 : w1.cell? ⟨B, 0, none⟩ = some (.complex .f64 wa wb) := cell_of hX3 0
  have x1 : w1.cell? ⟨B, 1, none⟩ = some (.float .f64 sh) := cell_of hX3 1
  have y0 : w1.cell? ⟨B + 1, 0, none⟩ = some (.complex .f64 wa' wb') := cell_of hY3 0
  have y1 : w1.cell? ⟨B + 1, 1, none⟩ = some (.float .f64 sh') := cell_of hY3 1
  go_wp2_with fail
  refine (HC.out _).mono ?_
  rintro e w2 ⟨rfl, hb3⟩
  have hz2 : B + 1 + 1 < w2.heap.size := Nat.lt_of_lt_of_le hz1 hb3.size
  have hE4 := (hb3.block _ hz1).trans hE2
  have hX4 := (hb3.block B (by omega)).trans hX3
  have hY4 := (hb3.block (B + 1) (by omega)).trans hY3
  have hbel2 := hbel1.trans (hb3.mono (by omega))
  clear hE2 hX3 hY3 hbel1 hb3 x0 x1 y0 y1
  go_wp2_with fail
  have hN := heap_alloc_new w2 (.cells #[.complex .f64 0 0, .int .i64 0] 83)
  have hE5 := (Below.heap_alloc w2 (.cells #[.complex .f64 0 0, .int .i64 0] 83) _ hz2).trans hE4
  have hX5 := (Below.heap_alloc w2 (.cells #[.complex .f64 0 0, .int .i64 0] 83) B (by omega)).trans hX4
  have hY5 := (Below.heap_alloc w2 (.cells #[.complex .f64 0 0, .int .i64 0] 83) (B + 1) (by omega)).trans hY4
  have hbel3 := hbel2.alloc (by omega) (.cells #[.complex .f64 0 0, .int .i64 0] 83)
  have hz3 : w2.heap.size < (w2.alloc (.cells #[.complex .f64 0 0, .int .i64 0] 83)).heap.size := by simp
  generalize w2.alloc (.cells #[.complex .f64 0 0, .int .i64 0] 83) = W3 at *
  generalize w2.heap.size = M at *
  clear hE4 hX4 hY4 hbel2
  have n0 : W3.cell? ⟨M, 0, none⟩ = some (.complex .f64 0 0) := cell_of hN 0
  have n1 : W3.cell? ⟨M, 1, none⟩ = some (.int .i64 0) := cell_of hN 1
  have f0 : W3.frozen? ⟨M, 0, none⟩ = false := frozen_of hN 0
  have f1 : W3.frozen? ⟨M, 1, none⟩ = false := frozen_of hN 1
  go_wp2_with (simp only [st_complex]; go_simp)
  have hMn : M ≠ B ∧ M ≠ B + 1 ∧ M ≠ B + 1 + 1 := by omega
  have hX6 := (heap_set_ne (o := 1) hMn.1.symm (.int .i64 P)).trans ((heap_set_ne (o := 0) hMn.1.symm (.complex .f64 N1 N2)).trans hX5)
  have hY6 := (heap_set_ne (o := 1) hMn.2.1.symm (.int .i64 P)).trans ((heap_set_ne (o := 0) hMn.2.1.symm (.complex .f64 N1 N2)).trans hY5)
  have hae := (heap_set_ne (o := 1) hMn.2.2.symm (.int .i64 P)).trans ((heap_set_ne (o := 0) hMn.2.2.symm (.complex .f64 N1 N2)).trans hE5)
  have a8 : ((W3.setCell ⟨M, 0, none⟩ (.complex .f64 N1 N2)).setCell ⟨M, 1, none⟩ (.int .i64 P)).cell? ⟨M, 0, none⟩ = some (.complex .f64 N1 N2) := by simp [go_sem, n0]
  have a9 : ((W3.setCell ⟨M, 0, none⟩ (.complex .f64 N1 N2)).setCell ⟨M, 1, none⟩ (.int .i64 P)).cell? ⟨M, 1, none⟩ = some (.int .i64 P) := by simp [go_sem, n1]
  have hbel4 := (hbel3.setCell (p := ⟨M, 0, none⟩) (by show B ≤ M; omega) (.complex .f64 N1 N2)).setCell (p := ⟨M, 1, none⟩) (by show B ≤ M; omega) (.int .i64 P)
  have ham : M < ((W3.setCell ⟨M, 0, none⟩ (.complex .f64 N1 N2)).setCell ⟨M, 1, none⟩ (.int .i64 P)).heap.size := by simpa using hz3
  generalize (W3.setCell ⟨M, 0, none⟩ (.complex .f64 N1 N2)).setCell ⟨M, 1, none⟩ (.int .i64 P) = W4 at *
  have haz : B + 1 + 1 < W4.heap.size := Nat.lt_trans hz2 ham
  have hBW : B ≤ W4.heap.size := by omega
  clear hX5 hY5 hE5 hbel3 n0 n1 f0 f1 hN hz3
  have a0 := cell_of hX6 0
  have a1 := cell_of hX6 1
  have a2 := cell_of hX6 2
  have a3 := cell_of hX6 3
  have a4 := cell_of hY6 0
  have a5 := cell_of hY6 1
  have a6 := cell_of hY6 2
  have a7 := cell_of hY6 3
  simp at a0 a1 a2 a3 a4 a5 a6 a7
  have aq0 : W4.cell? ⟨B + 1 + 1, 0, none⟩ = some (.complex .f64 0 0) := cell_of hae 0
  have aq1 : W4.cell? ⟨B + 1 + 1, 1, none⟩ = some (.int .i64 0) := cell_of hae 1
  have ay0 : W4.frozen? ⟨B + 1 + 1, 0, none⟩ = false := frozen_of hae 0
  have ay1 : W4.frozen? ⟨B + 1 + 1, 1, none⟩ = false := frozen_of hae 1
  clear hX6 hY6
  obtain ⟨m1, m2, m3⟩ := hMn
  have m4 := Ne.symm m3
  have hn1 : ¬ (B = B + 1 + 1) := by omega
  have hn2 : ¬ (B + 1 + 1 = B) := by omega
  have hn3 : ¬ (B + 1 = B + 1 + 1) := by omega
  have hn4 : ¬ (B + 1 + 1 = B + 1) := by omega
  have hn5 : ¬ (B = B + 2) := by omega
  have hn6 : ¬ (B + 2 = B) := by omega
  cases u1
  · refine wp_region_held_drew (S := (fun w' => w'.cell? ⟨B, 0, none⟩ = some (.complex .f64 wa wb) ∧ w'.cell? ⟨B, 1, none⟩ = some (.float .f64 sh) ∧ w'.cell? ⟨B, 2, none⟩ = some (.complex .f64 fa fb) ∧ w'.cell? ⟨B, 3, none⟩ = some (.complex .f64 ta tb) ∧ w'.cell? ⟨B + 1, 0, none⟩ = some (.complex .f64 wa' wb') ∧ w'.cell? ⟨B + 1, 1, none⟩ = some (.float .f64 sh') ∧ w'.cell? ⟨B + 1, 2, none⟩ = some (.complex .f64 fa' fb') ∧ w'.cell? ⟨B + 1, 3, none⟩ = some (.complex .f64 ta' tb') ∧ w'.cell? ⟨M, 0, none⟩ = some (.complex .f64 N1 N2) ∧ w'.cell? ⟨M, 1, none⟩ = some (.int .i64 P) ∧ w'.frozen? ⟨B + 1 + 1, 0, none⟩ = false ∧ w'.frozen? ⟨B + 1 + 1, 1, none⟩ = false)) (by kernel_rfl) ⟨a0, a1, a2, a3, a4, a5, a6, a7, a8, a9, ay0, ay1⟩ (fun hHeld => ?_)
    refine wpAnyH_take (i := 0) (oi := { dst := some 18, op := _, type := _, pos := _, after := _, guard := _ }) (v := ?_) rfl (by kernel_rfl) (by kernel_rfl) (by kernel_rfl) (fun _ _ _ h => h) (Or.inl ⟨by rfl, ?_⟩) hHeld ?_
    rotate_left
    · intro w' hS'
      obtain ⟨s0, s1, s2, s3, s4, s5, s6, s7, s8, s9, s10, s11⟩ := hS'
      go_simp
      try with_reducible rfl
    simp only [Act.put, List.setIfInBounds_toArray, List.set_cons_zero, List.set_cons_succ]
    refine wpAnyH_take (i := 1) (oi := { dst := some 19, op := _, type := _, pos := _, after := _, guard := _ }) (v := ?_) rfl (by kernel_rfl) (by kernel_rfl) (by kernel_rfl) (fun _ _ _ h => h) (Or.inl ⟨by rfl, ?_⟩) hHeld ?_
    rotate_left
    · intro w' hS'
      obtain ⟨s0, s1, s2, s3, s4, s5, s6, s7, s8, s9, s10, s11⟩ := hS'
      go_simp
      try with_reducible rfl
    simp only [Act.put, List.setIfInBounds_toArray, List.set_cons_zero, List.set_cons_succ]
    refine wpAnyH_take (i := 2) (oi := { dst := some 20, op := _, type := _, pos := _, after := _, guard := _ }) (v := ?_) rfl (by kernel_rfl) (by kernel_rfl) (by kernel_rfl) (fun _ _ _ h => h) (Or.inl ⟨by rfl, ?_⟩) hHeld ?_
    rotate_left
    · intro w' hS'
      obtain ⟨s0, s1, s2, s3, s4, s5, s6, s7, s8, s9, s10, s11⟩ := hS'
      go_simp
      try with_reducible rfl
    simp only [Act.put, List.setIfInBounds_toArray, List.set_cons_zero, List.set_cons_succ]
    refine wpAnyH_ready (rs := [3]) (by kernel_rfl) (by simp) ?_
    refine AllReadyH.cons rfl (fun K hK => ?_) AllReadyH.nil
    go_simp
    refine (HX.out _).mono ?_
    rintro e w6 ⟨rfl, hb6⟩
    have hbz : B + 1 + 1 < w6.heap.size := Nat.lt_of_lt_of_le haz hb6.size
    have hbm : M < w6.heap.size := Nat.lt_of_lt_of_le ham hb6.size
    have b0 := (hb6.cell (p := ⟨B, 0, none⟩) (Nat.lt_of_succ_lt (Nat.lt_of_succ_lt haz))).trans a0
    have b1 := (hb6.cell (p := ⟨B, 1, none⟩) (Nat.lt_of_succ_lt (Nat.lt_of_succ_lt haz))).trans a1
    have b2 := (hb6.cell (p := ⟨B, 2, none⟩) (Nat.lt_of_succ_lt (Nat.lt_of_succ_lt haz))).trans a2
    have b3 := (hb6.cell (p := ⟨B, 3, none⟩) (Nat.lt_of_succ_lt (Nat.lt_of_succ_lt haz))).trans a3
    have b4 := (hb6.cell (p := ⟨B + 1, 0, none⟩) (Nat.lt_of_succ_lt haz)).trans a4
    have b5 := (hb6.cell (p := ⟨B + 1, 1, none⟩) (Nat.lt_of_succ_lt haz)).trans a5
    have b6 := (hb6.cell (p := ⟨B + 1, 2, none⟩) (Nat.lt_of_succ_lt haz)).trans a6
    have b7 := (hb6.cell (p := ⟨B + 1, 3, none⟩) (Nat.lt_of_succ_lt haz)).trans a7
    have b8 := (hb6.cell (p := ⟨M, 0, none⟩) ham).trans a8
    have b9 := (hb6.cell (p := ⟨M, 1, none⟩) ham).trans a9
    have hbe := (hb6.block (B + 1 + 1) haz).trans hae
    have bq0 : w6.cell? ⟨B + 1 + 1, 0, none⟩ = some (.complex .f64 0 0) := cell_of hbe 0
    have bq1 : w6.cell? ⟨B + 1 + 1, 1, none⟩ = some (.int .i64 0) := cell_of hbe 1
    have by0 : w6.frozen? ⟨B + 1 + 1, 0, none⟩ = false := frozen_of hbe 0
    have by1 : w6.frozen? ⟨B + 1 + 1, 1, none⟩ = false := frozen_of hbe 1
    go_wp2_with fail
    refine hK.out _ _ ⟨b0, b1, b2, b3, b4, b5, b6, b7, b8, b9, by0, by1⟩ (fun hHeld => ?_)
    clear hK K
    try simp only [Act.put, List.setIfInBounds_toArray, List.set_cons_zero, List.set_cons_succ]
    refine wpAnyH_take (i := 4) (oi := { dst := some 22, op := _, type := _, pos := _, after := _, guard := _ }) (v := ?_) rfl (by kernel_rfl) (by kernel_rfl) (by kernel_rfl) (fun _ _ _ h => h) (Or.inl ⟨by rfl, ?_⟩) hHeld ?_
    rotate_left
    · intro w' hS'
      obtain ⟨s0, s1, s2, s3, s4, s5, s6, s7, s8, s9, s10, s11⟩ := hS'
      go_simp
      try with_reducible rfl
    simp only [Act.put, List.setIfInBounds_toArray, List.set_cons_zero, List.set_cons_succ]
    refine wpAnyH_take (i := 5) (oi := { dst := some 23, op := _, type := _, pos := _, after := _, guard := _ }) (v := undef) rfl (by kernel_rfl) (by kernel_rfl) (by kernel_rfl) (fun _ _ _ h => h) (Or.inr ⟨by kernel_rfl, rfl⟩) hHeld ?_
    simp only [Act.put, List.setIfInBounds_toArray, List.set_cons_zero, List.set_cons_succ]
    refine wpAnyH_take (i := 6) (oi := { dst := some 24, op := _, type := _, pos := _, after := _, guard := _ }) (v := undef) rfl (by kernel_rfl) (by kernel_rfl) (by kernel_rfl) (fun _ _ _ h => h) (Or.inr ⟨by kernel_rfl, rfl⟩) hHeld ?_
    simp only [Act.put, List.setIfInBounds_toArray, List.set_cons_zero, List.set_cons_succ]
    refine wpAnyH_take (i := 7) (oi := { dst := some 25, op := _, type := _, pos := _, after := _, guard := _ }) (v := undef) rfl (by kernel_rfl) (by kernel_rfl) (by kernel_rfl) (fun _ _ _ h => h) (Or.inr ⟨by kernel_rfl, rfl⟩) hHeld ?_
    simp only [Act.put, List.setIfInBounds_toArray, List.set_cons_zero, List.set_cons_succ]
    refine wpAnyH_take (i := 8) (oi := { dst := some 26, op := _, type := _, pos := _, after := _, guard := _ }) (v := ?_) rfl (by kernel_rfl) (by kernel_rfl) (by kernel_rfl) (fun _ _ _ h => h) (Or.inl ⟨by rfl, ?_⟩) hHeld ?_
    rotate_left
    · intro w' hS'
      obtain ⟨s0, s1, s2, s3, s4, s5, s6, s7, s8, s9, s10, s11⟩ := hS'
      go_simp
      try with_reducible rfl
    simp only [Act.put, List.setIfInBounds_toArray, List.set_cons_zero, List.set_cons_succ]
    refine wpAnyH_ready (rs := [9]) (by kernel_rfl) (by simp) ?_
    refine AllReadyH.cons rfl (fun K hK => ?_) AllReadyH.nil
    go_simp
    simp only [st_complex]
    go_simp
    refine hK.out _ _ ?_ (fun hHeld => ?_)
    · refine ⟨?_, ?_, ?_, ?_, ?_, ?_, ?_, ?_, ?_, ?_, ?_, ?_⟩ <;> simp [World.frozen?_setCell, go_sem, b0, b1, b2, b3, b4, b5, b6, b7, b8, b9, by0, by1]
    clear hK K
    try simp only [Act.put, List.setIfInBounds_toArray, List.set_cons_zero, List.set_cons_succ]
    refine wpAnyH_take (i := 10) (oi := { dst := some 5, op := _, type := _, pos := _, after := _, guard := _ }) (v := ?_) rfl (by kernel_rfl) (by kernel_rfl) (by kernel_rfl) (fun _ _ _ h => h) (Or.inl ⟨by rfl, ?_⟩) hHeld ?_
    rotate_left
    · intro w' hS'
      obtain ⟨s0, s1, s2, s3, s4, s5, s6, s7, s8, s9, s10, s11⟩ := hS'
      go_simp
      try with_reducible rfl
    simp only [Act.put, List.setIfInBounds_toArray, List.set_cons_zero, List.set_cons_succ]
    refine wpAnyH_done (by kernel_rfl) ?_ _
    go_wp2_with fail
    refine bodyPost_ret (v := .tuple #[.agg #[.complex .f64 N1 N2, .int .i64 P], .bool false]) (by simp [results, Tryz.results123, go_sem, bq0, bq1]) rfl ⟨rfl, ?_⟩
    rw [hB]
    exact ((hbel4.drew.trans (hb6.mono hBW)).setCell (by show B ≤ B + 1 + 1; omega) _).setCell (by show B ≤ B + 1 + 1; omega) _
  · go_region_held3 (fun w' => w'.cell? ⟨B, 0, none⟩ = some (.complex .f64 wa wb) ∧ w'.cell? ⟨B, 1, none⟩ = some (.float .f64 sh) ∧ w'.cell? ⟨B, 2, none⟩ = some (.complex .f64 fa fb) ∧ w'.cell? ⟨B, 3, none⟩ = some (.complex .f64 ta tb) ∧ w'.cell? ⟨B + 1, 0, none⟩ = some (.complex .f64 wa' wb') ∧ w'.cell? ⟨B + 1, 1, none⟩ = some (.float .f64 sh') ∧ w'.cell? ⟨B + 1, 2, none⟩ = some (.complex .f64 fa' fb') ∧ w'.cell? ⟨B + 1, 3, none⟩ = some (.complex .f64 ta' tb') ∧ w'.cell? ⟨M, 0, none⟩ = some (.complex .f64 N1 N2) ∧ w'.cell? ⟨M, 1, none⟩ = some (.int .i64 P) ∧ w'.frozen? ⟨B + 1 + 1, 0, none⟩ = false ∧ w'.frozen? ⟨B + 1 + 1, 1, none⟩ = false) (first | go_keep | (go_split_ands; refine ⟨?_, ?_, ?_, ?_, ?_, ?_, ?_, ?_, ?_, ?_, ?_, ?_⟩ <;> first | (simp [World.frozen?_setCell, *]; done) | (simp [*]; done))) (first
      | (go_at_call_of 62 (Value.agg #[Value.complex FloatKind.f64 wa wb, Value.float FloatKind.f64 sh, Value.complex FloatKind.f64 fa fb, Value.complex FloatKind.f64 ta tb]); refine (HX.out _).mono ?_; rintro e w6 ⟨rfl, hb6⟩; have hbz : B + 1 + 1 < w6.heap.size := Nat.lt_of_lt_of_le haz hb6.size; have hbm : M < w6.heap.size := Nat.lt_of_lt_of_le ham hb6.size; have b0 := (hb6.cell (p := ⟨B, 0, none⟩) (Nat.lt_of_succ_lt (Nat.lt_of_succ_lt haz))).trans a0; have b1 := (hb6.cell (p := ⟨B, 1, none⟩) (Nat.lt_of_succ_lt (Nat.lt_of_succ_lt haz))).trans a1; have b2 := (hb6.cell (p := ⟨B, 2, none⟩) (Nat.lt_of_succ_lt (Nat.lt_of_succ_lt haz))).trans a2; have b3 := (hb6.cell (p := ⟨B, 3, none⟩) (Nat.lt_of_succ_lt (Nat.lt_of_succ_lt haz))).trans a3; have b4 := (hb6.cell (p := ⟨B + 1, 0, none⟩) (Nat.lt_of_succ_lt haz)).trans a4; have b5 := (hb6.cell (p := ⟨B + 1, 1, none⟩) (Nat.lt_of_succ_lt haz)).trans a5; have b6 := (hb6.cell (p := ⟨B + 1, 2, none⟩) (Nat.lt_of_succ_lt haz)).trans a6; have b7 := (hb6.cell (p := ⟨B + 1, 3, none⟩) (Nat.lt_of_succ_lt haz)).trans a7; have b8 := (hb6.cell (p := ⟨M, 0, none⟩) ham).trans a8; have b9 := (hb6.cell (p := ⟨M, 1, none⟩) ham).trans a9; have hbe := (hb6.block (B + 1 + 1) haz).trans hae; have bq0 : w6.cell? ⟨B + 1 + 1, 0, none⟩ = some (.complex .f64 0 0) := cell_of hbe 0; have bq1 : w6.cell? ⟨B + 1 + 1, 1, none⟩ = some (.int .i64 0) := cell_of hbe 1; have by0 : w6.frozen? ⟨B + 1 + 1, 0, none⟩ = false := frozen_of hbe 0; have by1 : w6.frozen? ⟨B + 1 + 1, 1, none⟩ = false := frozen_of hbe 1)
      | (go_at_call_of 62 (Value.agg #[Value.complex FloatKind.f64 wa' wb', Value.float FloatKind.f64 sh', Value.complex FloatKind.f64 fa' fb', Value.complex FloatKind.f64 ta' tb']); refine (HY.out _).mono ?_; rintro e w7 ⟨rfl, hb7⟩; have hcz : B + 1 + 1 < w7.heap.size := Nat.lt_of_lt_of_le hbz hb7.size; have hcm : M < w7.heap.size := Nat.lt_of_lt_of_le hbm hb7.size; have c0 := (hb7.cell (p := ⟨B, 0, none⟩) (Nat.lt_of_succ_lt (Nat.lt_of_succ_lt hbz))).trans b0; have c1 := (hb7.cell (p := ⟨B, 1, none⟩) (Nat.lt_of_succ_lt (Nat.lt_of_succ_lt hbz))).trans b1; have c2 := (hb7.cell (p := ⟨B, 2, none⟩) (Nat.lt_of_succ_lt (Nat.lt_of_succ_lt hbz))).trans b2; have c3 := (hb7.cell (p := ⟨B, 3, none⟩) (Nat.lt_of_succ_lt (Nat.lt_of_succ_lt hbz))).trans b3; have c4 := (hb7.cell (p := ⟨B + 1, 0, none⟩) (Nat.lt_of_succ_lt hbz)).trans b4; have c5 := (hb7.cell (p := ⟨B + 1, 1, none⟩) (Nat.lt_of_succ_lt hbz)).trans b5; have c6 := (hb7.cell (p := ⟨B + 1, 2, none⟩) (Nat.lt_of_succ_lt hbz)).trans b6; have c7 := (hb7.cell (p := ⟨B + 1, 3, none⟩) (Nat.lt_of_succ_lt hbz)).trans b7; have c8 := (hb7.cell (p := ⟨M, 0, none⟩) hbm).trans b8; have c9 := (hb7.cell (p := ⟨M, 1, none⟩) hbm).trans b9; have hce := (hb7.block (B + 1 + 1) hbz).trans hbe; have cq0 : w7.cell? ⟨B + 1 + 1, 0, none⟩ = some (.complex .f64 0 0) := cell_of hce 0; have cq1 : w7.cell? ⟨B + 1 + 1, 1, none⟩ = some (.int .i64 0) := cell_of hce 1; have cy0 : w7.frozen? ⟨B + 1 + 1, 0, none⟩ = false := frozen_of hce 0; have cy1 : w7.frozen? ⟨B + 1 + 1, 1, none⟩ = false := frozen_of hce 1)
      | (simp only [st_complex]; go_simp))
    go_wp2_with fail
    refine bodyPost_ret (v := .tuple #[.agg #[.complex .f64 N1 N2, .int .i64 P], .bool u2]) (by simp [results, Tryz.results123, go_sem, cq0, cq1]) rfl ⟨rfl, ?_⟩
    rw [hB]
    exact (((hbel4.drew.trans (hb6.mono hBW)).trans (hb7.mono (Nat.le_of_lt (Nat.lt_of_succ_lt (Nat.lt_of_succ_lt hbz))))).setCell (by show B ≤ B + 1 + 1; omega) _).setCell (by show B ≤ B + 1 + 1; omega) _

end Go.Proofs.YtkjhhooecopolaaGreatDoor
