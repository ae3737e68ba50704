import Derived.Test.YtkjhhooecopolaaGreatDoorKj43
namespace Go.Proofs.YtkjhhooecopolaaGreatDoor.Ge

/-- A node that is left no common divisor: numbers X, Y over the part P above 0. -/
abbrev Nd := Int × Int × Int
structure Can (n : Nd) : Prop where
  pos : 0 < n.2.2
  co : Int.gcd (Int.gcd n.1 n.2.1) n.2.2 = 1
/-- The point of a node. -/
def ndQ (n : Nd) : Qt := (fr2 n.1 n.2.2, fr2 n.2.1 n.2.2)

theorem can_dvd {n m : Nd} (hn : Can n) (h1 : n.1 * m.2.2 = m.1 * n.2.2) (h2 : n.2.1 * m.2.2 = m.2.1 * n.2.2) : n.2.2 ∣ m.2.2 := by
  have d1 : n.2.2 ∣ n.1 * m.2.2 := ⟨m.1, by rw [h1, Int.mul_comm]⟩
  have d2 : n.2.2 ∣ n.2.1 * m.2.2 := ⟨m.2.1, by rw [h2, Int.mul_comm]⟩
  have d3 : n.2.2 ∣ (Int.gcd (n.1 * m.2.2) (n.2.1 * m.2.2) : Int) := Int.dvd_coe_gcd d1 d2
  rw [Int.gcd_mul_right] at d3
  have d4 : n.2.2 ∣ (Int.gcd n.1 n.2.1 : Int) * m.2.2 := by
    rw [Int.natCast_mul] at d3
    rcases Int.natAbs_eq m.2.2 with h | h
    · rw [h]; exact d3
    · rw [h, Int.mul_neg]; exact Int.dvd_neg.2 d3
  exact dvd_co (by rw [Int.gcd_comm]; exact hn.co) d4
theorem can_eq {n m : Nd} (hn : Can n) (hm : Can m) (h1 : n.1 * m.2.2 = m.1 * n.2.2) (h2 : n.2.1 * m.2.2 = m.2.1 * n.2.2) : n = m := by
  have a := can_dvd hn h1 h2
  have b := can_dvd hm h1.symm h2.symm
  have p1 := Int.le_of_dvd hm.pos a
  have p2 := Int.le_of_dvd hn.pos b
  have e : n.2.2 = m.2.2 := by omega
  have hz : m.2.2 ≠ 0 := by have := hm.pos; omega
  rw [e] at h1 h2
  have e1 := Int.eq_of_mul_eq_mul_right hz h1
  have e2 := Int.eq_of_mul_eq_mul_right hz h2
  exact Prod.ext e1 (Prod.ext e2 e)
theorem sgn_scale {g z : Int} (hg : 0 < g) : (g * z).sign = z.sign := by
  rw [Int.sign_mul, Int.sign_eq_one_of_pos hg, Int.one_mul]
theorem fc_fr2 {a b c d : Int} (hb : 0 < b) (hd : 0 < d) : fc (fr2 a b) (fr2 c d) = (a * d - c * b).sign := by
  obtain ⟨g, g0, e1, e2, gp⟩ := fr2_eq (n := a) (d := b) (by omega)
  obtain ⟨k, k0, e3, e4, kp⟩ := fr2_eq (n := c) (d := d) (by omega)
  have hg := gp.2 hb
  have hk := kp.2 hd
  unfold fc
  have : a * d - c * b = (g * k) * ((fr2 a b).1 * (fr2 c d).2 - (fr2 c d).1 * (fr2 a b).2) := by
    generalize fr2 a b = A at *
    generalize fr2 c d = B at *
    rw [e1, e2, e3, e4]; grind
  rw [this, sgn_scale (Int.mul_pos hg hk)]
theorem ndQ_red {n : Nd} (h : Can n) : RedP (ndQ n) := ⟨fr2_red (by have := h.pos; omega), fr2_red (by have := h.pos; omega)⟩
theorem pc_ndQ {n m : Nd} (hn : Can n) (hm : Can m) : pc (ndQ n) (ndQ m) = if (n.1 * m.2.2 - m.1 * n.2.2).sign = 0 then (n.2.1 * m.2.2 - m.2.1 * n.2.2).sign else (n.1 * m.2.2 - m.1 * n.2.2).sign := by
  unfold pc ndQ
  rw [fc_fr2 hn.pos hm.pos, fc_fr2 hn.pos hm.pos]
theorem pc_nd_zero {n m : Nd} (hn : Can n) (hm : Can m) (h : pc (ndQ n) (ndQ m) = 0) : n = m := by
  rw [pc_ndQ hn hm] at h
  split at h
  · rename_i h1
    have a := Int.sign_eq_zero_iff_zero.1 h1
    have b := Int.sign_eq_zero_iff_zero.1 h
    exact can_eq hn hm (by omega) (by omega)
  · contradiction
theorem ndQ_inj {n m : Nd} (hn : Can n) (hm : Can m) (h : ndQ n = ndQ m) : n = m := pc_nd_zero hn hm (by rw [h]; exact pc_self _)

theorem can_of {x y d k X Y P : Int} (hd : d ≠ 0) (h1 : x = k * X) (h2 : y = k * Y) (h3 : d = k * P) (hP : 0 < P) (hk : k.natAbs = Int.gcd (Int.gcd x y : Nat) d) : Can (X, Y, P) ∧ ndQ (X, Y, P) = (fr2 x d, fr2 y d) := by
  have k0 : k ≠ 0 := by rintro rfl; rw [Int.zero_mul] at h3; exact hd h3
  refine ⟨⟨hP, ?_⟩, ?_⟩
  · show Int.gcd (Int.gcd X Y : Nat) P = 1
    have e1 : Int.gcd x y = k.natAbs * Int.gcd X Y := by rw [h1, h2, Int.gcd_mul_left]
    have e2 : Int.gcd (Int.gcd x y : Nat) d = k.natAbs * Int.gcd (Int.gcd X Y : Nat) P := by
      have : Int.gcd (k * ((Int.gcd X Y : Nat) : Int)) (k * P) = k.natAbs * Int.gcd (Int.gcd X Y : Nat) P := Int.gcd_mul_left ..
      rw [← this, e1, h3]
      unfold Int.gcd
      congr 1
      rw [Int.natAbs_mul]
      simp [Int.natAbs_mul]
    rw [e2] at hk
    have kp : 0 < k.natAbs := by omega
    exact Nat.eq_of_mul_eq_mul_left kp (by omega)
  · unfold ndQ
    show (fr2 X P, fr2 Y P) = _
    rw [fr2_same (n := X) (d := P) (m := x) (e := d) (by omega) hd (by rw [h1, h3]; grind), fr2_same (n := Y) (d := P) (m := y) (e := d) (by omega) hd (by rw [h2, h3]; grind)]

theorem tdiv_of_dvd {x g : Int} (h : g ∣ x) : x = g * x.tdiv g := (Int.mul_tdiv_cancel' h).symm
end Go.Proofs.YtkjhhooecopolaaGreatDoor.Ge

namespace Go.Proofs.YtkjhhooecopolaaGreatDoor
open Go.RowKit

def ndV (n : Ge.Nd) : Value := .agg #[.complex .f64 (floatOfInt .f64 n.1) (floatOfInt .f64 n.2.1), .int .i64 n.2.2]

theorem nodeAt_all {a b : Nat} {x y : Int} (D : Int) (h1 : Fl a x) (h2 : Fl b y) (hx : -16000000 ≤ x ∧ x ≤ 16000000) (hy : -16000000 ≤ y ∧ y ≤ 16000000) (hD : D ≠ 0 ∧ -300000 ≤ D ∧ D ≤ 300000) :
    ∃ n : Ge.Nd, Ge.Can n ∧ Ge.ndQ n = (Ge.fr2 x D, Ge.fr2 y D) ∧ NodeIn n.1 n.2.1 n.2.2 ∧ ∀ w, Calls Tryz.prog 37 #[.complex .f64 a b, .int .i64 D] w fun e w' => e = .returned (ndV n) ∧ Below w.heap.size w w' := by
  obtain ⟨G, hG⟩ : ∃ G, Int.gcd (Int.gcd x y : Nat) D = G := ⟨_, rfl⟩
  have hGp : 0 < G := by rw [← hG]; exact Int.gcd_pos_of_ne_zero_right _ hD.1
  have dg : (G : Int) ∣ (Int.gcd x y : Nat) := by rw [← hG]; exact Int.gcd_dvd_left ..
  have dd : (G : Int) ∣ D := by rw [← hG]; exact Int.gcd_dvd_right ..
  have dx : (G : Int) ∣ x := Int.dvd_trans dg (Int.gcd_dvd_left ..)
  have dy : (G : Int) ∣ y := Int.dvd_trans dg (Int.gcd_dvd_right ..)
  have ex := Ge.tdiv_of_dvd dx
  have ey := Ge.tdiv_of_dvd dy
  have ed := Ge.tdiv_of_dvd dd
  have bx := tdiv_in x G
  have by' := tdiv_in y G
  have bd := tdiv_in D G
  rcases Int.lt_trichotomy D 0 with h | h | h
  · have call := nodeAt_neg D h1 h2 hx hy ⟨h, hD.2.1⟩ G hG
    rw [Int.tdiv_neg, Int.tdiv_neg, Int.tdiv_neg] at call
    have hP : 0 < -(D.tdiv G) := by
      rcases Int.lt_or_le (D.tdiv G) 0 with q | q
      · omega
      · have := Int.mul_nonneg (Int.natCast_nonneg G) q; omega
    obtain ⟨c1, c2⟩ := Ge.can_of (x := x) (y := y) (d := D) (k := -(G : Int)) (X := -(x.tdiv G)) (Y := -(y.tdiv G)) (P := -(D.tdiv G)) hD.1 (ex.trans (Int.neg_mul_neg ..).symm) (ey.trans (Int.neg_mul_neg ..).symm) (ed.trans (Int.neg_mul_neg ..).symm) hP (by rw [hG]; omega)
    exact ⟨(-(x.tdiv G), -(y.tdiv G), -(D.tdiv G)), c1, c2, ⟨by show (-(x.tdiv G)).natAbs ≤ _; omega, by show (-(y.tdiv G)).natAbs ≤ _; omega, hP, by show -(D.tdiv G) ≤ _; omega⟩, call⟩
  · exact absurd h hD.1
  · have call := nodeAt_any D h1 h2 hx hy ⟨h, hD.2.2⟩ G hG
    have hP : 0 < D.tdiv G := by
      rcases Int.lt_or_le 0 (D.tdiv G) with q | q
      · exact q
      · have := Int.mul_nonneg (Int.natCast_nonneg G) (Int.neg_nonneg_of_nonpos q)
        rw [Int.mul_neg] at this
        omega
    obtain ⟨c1, c2⟩ := Ge.can_of (x := x) (y := y) (d := D) (k := (G : Int)) (X := x.tdiv G) (Y := y.tdiv G) (P := D.tdiv G) hD.1 ex ey ed hP (by rw [hG]; omega)
    exact ⟨(x.tdiv G, y.tdiv G, D.tdiv G), c1, c2, ⟨by show (x.tdiv G).natAbs ≤ _; omega, by show (y.tdiv G).natAbs ≤ _; omega, hP, by show D.tdiv G ≤ _; omega⟩, call⟩

end Go.Proofs.YtkjhhooecopolaaGreatDoor

namespace Go.Proofs.YtkjhhooecopolaaGreatDoor
open Go.RowKit

theorem way_small {e : Ed} (h : smallE e) : (-100 ≤ e.2.1 - e.1.1 ∧ e.2.1 - e.1.1 ≤ 100) ∧ (-100 ≤ e.2.2 - e.1.2 ∧ e.2.2 - e.1.2 ≤ 100) := by
  obtain ⟨a, b, c, d⟩ := h
  unfold small at a b c d
  omega

set_option maxRecDepth 100000 in
set_option maxHeartbeats 1000000 in
theorem parallelTo_any (x y : EB) (e f : Ed) (hx : EBok x e) (hy : EBok y f) (he : smallE e) (hf : smallE f) (w : World) :
    Calls Tryz.prog 179 #[.agg #[.complex .f64 x.wa x.wb, .float .f64 x.sh], .agg #[.complex .f64 y.wa y.wb, .float .f64 y.sh]] w fun r w' => r = .returned (.bool (decide (Ge.crE e f = 0))) ∧ Below w.heap.size w w' := by
  have we := way_small he
  have wf := way_small hf
  obtain ⟨im, f1, hl⟩ := left_any hx.wa hx.wb hy.wa hy.wb (by unfold sm; omega) (by unfold sm; omega) (by unfold sm; omega) (by unfold sm; omega)
  have HL : Hid (∀ w, Calls Tryz.prog 101 #[.complex .f64 x.wa x.wb, .complex .f64 y.wa y.wb] w fun e w' => e = .returned (.float .f64 im) ∧ w' = w) := hl
  have q := eq_bits f1 fl_zero
  have hc : decide (Ge.crE e f = 0) = (FloatKind.f64.format.order im 0 == some .eq) := by rw [q]; rfl
  rw [hc]
  clear hl q hc f1 hx hy he hf we wf
  obtain ⟨wa, wb, sh, fa, fb, ta, tb⟩ := x
  obtain ⟨wa', wb', sh', fa', fb', ta', tb'⟩ := y
  simp only at *
  have hb0 : Below w.heap.size w ((w.alloc (.cells #[.complex .f64 wa wb, .float .f64 sh] 122)).alloc (.cells #[.complex .f64 wa' wb', .float .f64 sh'] 122)) := ((Below.refl _ _).alloc (Nat.le_refl _) _).alloc (by simp) _
  go_enter Tryz.func179, Tryz.ntmps179
  go_wp2_with fail
  refine (HL.out _).mono ?_
  rintro e w1 ⟨rfl, rfl⟩
  go_wp2_with fail
  go_ret
  exact ⟨rfl, hb0⟩

theorem cross_x (e f : Ed) : (f.2.1 - f.1.1) * ((e.2.1 - e.1.1) * e.1.2 - (e.2.2 - e.1.2) * e.1.1) - (e.2.1 - e.1.1) * ((f.2.1 - f.1.1) * f.1.2 - (f.2.2 - f.1.2) * f.1.1) = Ge.mX e f := by
  unfold Ge.mX Ge.mT Ge.crE; grind
theorem cross_y (e f : Ed) : (f.2.2 - f.1.2) * ((e.2.1 - e.1.1) * e.1.2 - (e.2.2 - e.1.2) * e.1.1) - (e.2.2 - e.1.2) * ((f.2.1 - f.1.1) * f.1.2 - (f.2.2 - f.1.2) * f.1.1) = Ge.mY e f := by
  unfold Ge.mY Ge.mT Ge.crE; grind

/-- A complex number times a whole one. -/
theorem cMul_real {a b s z : Nat} {x y t : Int} (h1 : Fl a x) (h2 : Fl b y) (h3 : Fl s t) (hz : Fl z 0) (b1 : sm x) (b2 : sm y) (b3 : sm t) :
    ∃ re im, (∀ ty w, (binOp .mul ty (.complex .f64 a b) (.complex .f64 s z)).run Tryz.prog w = .ok (.complex .f64 re im) w) ∧ Fl re (x * t) ∧ Fl im (y * t) := by
  have m1 := mul_sm b1 b3
  have m2 := mul_sm b2 b3
  obtain ⟨re, im, e, f1, f2⟩ := cMul_of h1 h2 h3 hz (by omega) (by omega) (by omega) (by omega) (by omega) (by omega)
  refine ⟨re, im, fun ty w => run_complex_mul (P := Tryz.prog) w ty a b s z re im e, ?_, ?_⟩
  · have : x * t = x * t - y * 0 := by omega
    rw [this]; exact f1
  · have : y * t = x * 0 + y * t := by omega
    rw [this]; exact f2

set_option maxRecDepth 100000 in
set_option maxHeartbeats 1000000 in
theorem crossing_any (x y : EB) (e f : Ed) (hx : EBok x e) (hy : EBok y f) (he : smallE e) (hf : smallE f) (hc : Ge.crE e f ≠ 0) :
    ∃ n : Ge.Nd, Ge.Can n ∧ Ge.ndQ n = Ge.meetP e f ∧ NodeIn n.1 n.2.1 n.2.2 ∧ ∀ w, Calls Tryz.prog 180 #[.agg #[.complex .f64 x.wa x.wb, .float .f64 x.sh], .agg #[.complex .f64 y.wa y.wb, .float .f64 y.sh]] w fun r w' => r = .returned (ndV n) ∧ Below w.heap.size w w' := by
  have we := way_small he
  have wf := way_small hf
  have cin := crE_in he hf
  obtain ⟨im, f1, hl⟩ := left_any hx.wa hx.wb hy.wa hy.wb (by unfold sm; omega) (by unfold sm; omega) (by unfold sm; omega) (by unfold sm; omega)
  have hcr : (e.2.1 - e.1.1) * (f.2.2 - f.1.2) - (e.2.2 - e.1.2) * (f.2.1 - f.1.1) = Ge.crE e f := rfl
  rw [hcr] at f1
  have c1 := f1.int (by omega) (by omega)
  obtain ⟨p1, p2, o1, g1, g2⟩ := cMul_real hy.wa hy.wb hx.sh fl_zero (by unfold sm; omega) (by unfold sm; omega) (shift_sm he)
  obtain ⟨r1, r2, o2, k1, k2⟩ := cMul_real hx.wa hx.wb hy.sh fl_zero (by unfold sm; omega) (by unfold sm; omega) (shift_sm hf)
  have cx := cross_x e f
  have cy := cross_y e f
  obtain ⟨s1, s2, e3, j1, j2⟩ := cSum_sub g1 g2 k1 k2 (by rw [cx]; omega) (by rw [cy]; omega)
  have o3 := fun t w => run_complex_sum (P := Tryz.prog) w .sub (Or.inr rfl) t .f64 p1 p2 r1 r2 s1 s2 e3
  rw [cx] at j1
  rw [cy] at j2
  obtain ⟨n, n1, n2, n3, hN⟩ := nodeAt_all (Ge.crE e f) j1 j2 (by omega) (by omega) (by omega)
  refine ⟨n, n1, n2, n3, fun w => ?_⟩
  have HL : Hid (∀ w, Calls Tryz.prog 101 #[.complex .f64 x.wa x.wb, .complex .f64 y.wa y.wb] w fun e w' => e = .returned (.float .f64 im) ∧ w' = w) := hl
  generalize Ge.crE e f = C at *
  have hc1 : ∀ w, (convert 120 3 (.float .f64 im)).run Tryz.prog w = .ok (.int .i64 C) w := fun w => run_convert_float_int w 120 3 .f64 .i64 im C (by rw [Tryz.underlying120]; rfl) Tryz.underlying3 c1
  unfold ndV at *
  generalize floatOfInt .f64 n.1 = N1 at *
  generalize floatOfInt .f64 n.2.1 = N2 at *
  have HN : Hid (∀ w, Calls Tryz.prog 37 #[.complex .f64 s1 s2, .int .i64 C] w fun e w' => e = .returned (.agg #[.complex .f64 N1 N2, .int .i64 n.2.2]) ∧ Below w.heap.size w w') := hN
  clear hl hN c1 cx cy j1 j2 e3 g1 g2 k1 k2 n1 n2 n3 f1 hcr cin we wf hx hy he hf hc
  obtain ⟨wa, wb, sh, fa, fb, ta, tb⟩ := x
  obtain ⟨wa', wb', sh', fa', fb', ta', tb'⟩ := y
  simp only at *
  have hb1 : Below w.heap.size w ((w.alloc (.cells #[.complex .f64 wa wb, .float .f64 sh] 122)).alloc (.cells #[.complex .f64 wa' wb', .float .f64 sh'] 122)) := ((Below.refl _ _).alloc (Nat.le_refl _) _).alloc (by simp) _
  go_enter Tryz.func180, Tryz.ntmps180
  go_wp2_with (first | (simp only [o1]) | (simp only [o2]) | (simp only [o3]))
  have hs1 : w.heap.size + 2 = ((w.alloc (.cells #[.complex .f64 wa wb, .float .f64 sh] 122)).alloc (.cells #[.complex .f64 wa' wb', .float .f64 sh'] 122)).heap.size := by simp
  generalize (w.alloc (.cells #[.complex .f64 wa wb, .float .f64 sh] 122)).alloc (.cells #[.complex .f64 wa' wb', .float .f64 sh'] 122) = W1 at *
  have hE := heap_alloc_new W1 (.cells #[.complex .f64 0 0, .int .i64 0] 83)
  have hb0 := hb1.alloc (by omega) (.cells #[.complex .f64 0 0, .int .i64 0] 83)
  have hz : W1.heap.size < (W1.alloc (.cells #[.complex .f64 0 0, .int .i64 0] 83)).heap.size := by simp
  generalize W1.alloc (.cells #[.complex .f64 0 0, .int .i64 0] 83) = W at *
  generalize hB : w.heap.size = B at *
  generalize W1.heap.size = B1 at *
  have hB1 : B1 = B + 1 + 1 := by omega
  have hBB : B ≤ B + 1 + 1 := by omega
  subst hB1
  clear hs1
  refine (HL.out _).mono ?_
  rintro e w1 ⟨rfl, rfl⟩
  go_wp2_with (simp only)
  refine (HN.out _).mono ?_
  rintro e w2 ⟨rfl, hb2⟩
  have hE2 := (hb2.block _ hz).trans hE
  have hbel := hb0.trans (hb2.mono (by omega))
  have e0 : w2.cell? ⟨B + 1 + 1, 0, none⟩ = some (.complex .f64 0 0) := cell_of hE2 0
  have e1 : w2.cell? ⟨B + 1 + 1, 1, none⟩ = some (.int .i64 0) := cell_of hE2 1
  have z0 : w2.frozen? ⟨B + 1 + 1, 0, none⟩ = false := frozen_of hE2 0
  have z1 : w2.frozen? ⟨B + 1 + 1, 1, none⟩ = false := frozen_of hE2 1
  clear hE hE2 hb2 hb0 hb1
  go_wp2_with (simp only [st_complex]; go_simp)
  refine bodyPost_ret (v := .agg #[.complex .f64 N1 N2, .int .i64 n.2.2]) (by simp [results, Tryz.results180, go_sem, e0, e1]) rfl ⟨rfl, ?_⟩
  rw [hB]
  exact (hbel.setCell hBB _).setCell hBB _

end Go.Proofs.YtkjhhooecopolaaGreatDoor
