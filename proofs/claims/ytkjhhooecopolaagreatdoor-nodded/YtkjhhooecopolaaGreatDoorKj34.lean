import Derived.Test.YtkjhhooecopolaaGreatDoorKj33
import Derived.Test.YtkjhhooecopolaaGreatDoorKj29
import Derived.Test.YtkjhhooecopolaaGreatDoorKj26
namespace Go.Proofs.YtkjhhooecopolaaGreatDoor
open Go.RowKit

theorem gcd_tmod (a b : Int) : Int.gcd b (a.tmod b) = Int.gcd a b := by
  unfold Int.gcd
  rw [Int.natAbs_tmod]
  exact gcd_step _ _

set_option maxRecDepth 100000 in
set_option maxHeartbeats 1000000 in
theorem divisor_any (x y : Int) (w : World) (hx : -1000000000000 ≤ x ∧ x ≤ 1000000000000) (hy : -1000000000000 ≤ y ∧ y ≤ 1000000000000) :
    Calls Tryz.prog 65 #[.int .i64 x, .int .i64 y] w fun e w' => e = .returned (.int .i64 (Int.gcd x y : Int)) ∧ Below w.heap.size w w' := by
  generalize hG : Int.gcd x y = G
  have HG : Hid (Int.gcd x y = G) := hG
  clear hG
  go_enter Tryz.func65, Tryz.ntmps65
  go_wp2_with fail
  go_loopg [0, 1] y.natAbs (fun m av bv wr => ∃ a b : Int, av = .int .i64 a ∧ bv = .int .i64 b ∧ m = b.natAbs ∧ Int.gcd a b = G ∧ (-1000000000000 ≤ a ∧ a ≤ 1000000000000) ∧ (-1000000000000 ≤ b ∧ b ≤ 1000000000000) ∧ Hid (Below w.heap.size w wr))
  case atStart => exact ⟨x, y, rfl, rfl, rfl, HG.out, hx, hy, Below.refl _ _⟩
  case round =>
    obtain ⟨a, b, rfl, rfl, rfl, hg, ha, hb, HB⟩ := hrel
    clear HG
    by_cases hz : b = 0
    · subst hz
      have hv : (G : Int) = max a (-a) := by
        rw [← hg, Int.gcd_zero_right]; omega
      have HV : Hid ((G : Int) = max a (-a)) := hv
      clear hg hv
      have hw : IntKind.i64.wrap (-a) = -a := by rw [IntKind.wrap_i64]; omega
      go_wp2_with fail
      go_ret
      exact ⟨by rw [HV.out]; rfl, HB.out⟩
    · have hgt := gcd_tmod a b
      have hlt : (a.tmod b).natAbs < b.natAbs := by rw [Int.natAbs_tmod]; exact Nat.mod_lt _ (by omega)
      have HNX : Hid (Int.gcd b (a.tmod b) = G ∧ (-1000000000000 ≤ a.tmod b ∧ a.tmod b ≤ 1000000000000)) := ⟨hgt.trans hg, by omega⟩
      have hbz : ¬ b = 0 := hz
      clear hg hgt
      generalize hR : a.tmod b = R at *
      go_wp2_with fail
      go_region_held3 (fun _ => True) (trivial) (fail)
      go_wp2_with fail
      go_roundg R.natAbs
      case measure => omega
      case rel => exact ⟨b, R, rfl, rfl, rfl, HNX.out.1, hb, HNX.out.2, HB.out.drew⟩

set_option maxRecDepth 100000 in
set_option maxHeartbeats 1000000 in
theorem nodeAt_any {a b : Nat} {x y : Int} (D : Int) (h1 : Fl a x) (h2 : Fl b y) (hx : -16000000 ≤ x ∧ x ≤ 16000000) (hy : -16000000 ≤ y ∧ y ≤ 16000000) (hD : 0 < D ∧ D ≤ 300000) (G : Nat) (hG : Int.gcd (Int.gcd x y : Nat) D = G) (w : World) :
    Calls Tryz.prog 37 #[.complex .f64 a b, .int .i64 D] w fun e w' => e = .returned (.agg #[.complex .f64 (floatOfInt .f64 (x.tdiv G)) (floatOfInt .f64 (y.tdiv G)), .int .i64 (D.tdiv G)]) ∧ Below w.heap.size w w' := by
  have hGp : 0 < G := by rw [← hG]; exact gcd_pos (by omega)
  have hgxy : Int.gcd x y ≤ 16000000 := by
    by_cases hz : x = 0
    · rw [hz, Int.gcd_zero_left]; omega
    · have := Int.gcd_le_natAbs_left (b := y) hz; omega
  have hGD : G ≤ 300000 := by
    have := Int.gcd_le_natAbs_right (a := (Int.gcd x y : Nat)) (b := D) (by omega)
    omega
  have c1 := h1.int (by omega) (by omega)
  have c2 := h2.int (by omega) (by omega)
  have hc1 : ∀ w, (convert 120 3 (.float .f64 a)).run Tryz.prog w = .ok (.int .i64 x) w := fun w => run_convert_float_int w 120 3 .f64 .i64 a x (by rw [Tryz.underlying120]; rfl) Tryz.underlying3 c1
  have hc2 : ∀ w, (convert 120 3 (.float .f64 b)).run Tryz.prog w = .ok (.int .i64 y) w := fun w => run_convert_float_int w 120 3 .f64 .i64 b y (by rw [Tryz.underlying120]; rfl) Tryz.underlying3 c2
  have HD1 : Hid (∀ w1, Calls Tryz.prog 65 #[.int .i64 x, .int .i64 y] w1 fun e w' => e = .returned (.int .i64 (Int.gcd x y : Nat)) ∧ Below w1.heap.size w1 w') := fun w1 => divisor_any x y w1 (by omega) (by omega)
  have HD2 : Hid (∀ w1, Calls Tryz.prog 65 #[.int .i64 (Int.gcd x y : Nat), .int .i64 D] w1 fun e w' => e = .returned (.int .i64 (G : Int)) ∧ Below w1.heap.size w1 w') := fun w1 => by rw [← hG]; exact divisor_any _ D w1 (by omega) (by omega)
  obtain ⟨XQ, hXQ⟩ : ∃ q, q = x.tdiv (G : Int) := ⟨_, rfl⟩
  obtain ⟨YQ, hYQ⟩ : ∃ q, q = y.tdiv (G : Int) := ⟨_, rfl⟩
  obtain ⟨DQ, hDQ⟩ : ∃ q, q = D.tdiv (G : Int) := ⟨_, rfl⟩
  rw [← hXQ, ← hYQ, ← hDQ]
  have HP : Hid (∀ w1, Calls Tryz.prog 38 #[.int .i64 XQ, .int .i64 YQ] w1 fun e w' => e = .returned (.complex .f64 (floatOfInt .f64 XQ) (floatOfInt .f64 YQ)) ∧ w' = w1) := fun w1 => pointAt_any _ _ w1
  have hw1 : IntKind.i64.wrap (x.tdiv (G : Int)) = XQ := by rw [hXQ]; exact IntWalk.i64_quo' _ _ ⟨by omega, by omega, by omega⟩
  have hw2 : IntKind.i64.wrap (y.tdiv (G : Int)) = YQ := by rw [hYQ]; exact IntWalk.i64_quo' _ _ ⟨by omega, by omega, by omega⟩
  have hw3 : IntKind.i64.wrap (D.tdiv (G : Int)) = DQ := by rw [hDQ]; exact IntWalk.i64_quo' _ _ ⟨by omega, by omega, by omega⟩
  have hw4 : IntKind.i64.wrap (D / (G : Int)) = DQ := by rw [← hw3, Int.tdiv_eq_ediv_of_nonneg (by omega)]
  clear hXQ hYQ hDQ
  have hGz : ¬ G = 0 := by omega
  have hGi : (0 : Int) < G := by omega
  generalize Int.gcd x y = GXY at *
  clear c1 c2 h1 h2 hG
  have hE := heap_alloc_new w (.cells #[.complex .f64 0 0, .int .i64 0] 83)
  have hb0 : Below w.heap.size w (w.alloc (.cells #[.complex .f64 0 0, .int .i64 0] 83)) := (Below.refl _ _).alloc (Nat.le_refl _) _
  have hz : w.heap.size < (w.alloc (.cells #[.complex .f64 0 0, .int .i64 0] 83)).heap.size := by simp
  go_enter Tryz.func37, Tryz.ntmps37
  go_wp2_with (first | (simp only [hc1]) | (simp only [hc2]))
  generalize w.alloc (.cells #[.complex .f64 0 0, .int .i64 0] 83) = W at *
  generalize hB : w.heap.size = B at *
  refine (HD1.out _).mono ?_
  rintro e w1 ⟨rfl, hb1⟩
  go_wp2_with fail
  refine (HD2.out _).mono ?_
  rintro e w2 ⟨rfl, hb2⟩
  have hs1 := hb1.size
  have hE2 := (hb2.block _ (show B < w1.heap.size by omega)).trans ((hb1.block _ hz).trans hE)
  have hbel := (hb0.trans (hb1.mono (Nat.le_of_lt hz))).trans (hb2.mono (by omega))
  have e0 : w2.cell? ⟨B, 0, none⟩ = some (.complex .f64 0 0) := cell_of hE2 0
  have e1 : w2.cell? ⟨B, 1, none⟩ = some (.int .i64 0) := cell_of hE2 1
  have z0 : w2.frozen? ⟨B, 0, none⟩ = false := frozen_of hE2 0
  have z1 : w2.frozen? ⟨B, 1, none⟩ = false := frozen_of hE2 1
  clear hE hE2 hb1 hb2 hb0
  go_wp2_with fail
  go_region_held3 (fun w' => w'.frozen? ⟨B, 0, none⟩ = false ∧ w'.frozen? ⟨B, 1, none⟩ = false) (go_keep) (first
    | (go_at_call 38; refine (HP.out _).mono ?_; rintro e w5 ⟨rfl, hw5⟩; subst hw5)
    | (simp only [st_complex]; go_simp))
  go_wp2_with fail
  refine bodyPost_ret (v := .agg #[.complex .f64 (floatOfInt .f64 XQ) (floatOfInt .f64 YQ), .int .i64 DQ]) (by simp [results, Tryz.results37, go_sem, e0, e1]) rfl ⟨rfl, ?_⟩
  rw [hB]
  exact ((hbel.setCell (Nat.le_refl _) _).setCell (Nat.le_refl _) _).drew

end Go.Proofs.YtkjhhooecopolaaGreatDoor

namespace Go.Proofs.YtkjhhooecopolaaGreatDoor
open Go.RowKit

/-! Points with fractions, as the reference lays them: ((N, D), (N, D)). -/
namespace Ge
abbrev Fr := Int × Int
abbrev Qt := Fr × Fr
/-- How two fractions stand to each other. -/
def fc (a b : Fr) : Int := (a.1 * b.2 - b.1 * a.2).sign
def pc (p q : Qt) : Int := if fc p.1 q.1 = 0 then fc p.2 q.2 else fc p.1 q.1
/-- A fraction without a common divisor, its part above nought. -/
structure Red (a : Fr) : Prop where
  pos : 0 < a.2
  co : Int.gcd a.1 a.2 = 1
structure RedP (p : Qt) : Prop where
  x : Red p.1
  y : Red p.2

theorem fc_swap (a b : Fr) : fc b a = - fc a b := by
  unfold fc
  rw [← Int.sign_neg]
  congr 1
  omega
theorem dvd_co {k m n : Int} (h : Int.gcd k m = 1) (hd : k ∣ m * n) : k ∣ n := by
  have h1 := Int.natAbs_dvd_natAbs.2 hd
  rw [Int.natAbs_mul] at h1
  exact Int.natAbs_dvd_natAbs.1 (Nat.Coprime.dvd_of_dvd_mul_left h h1)
theorem fc_zero {a b : Fr} (ha : Red a) (hb : Red b) (h : fc a b = 0) : a = b := by
  unfold fc at h
  have h' : a.1 * b.2 = b.1 * a.2 := by have := Int.sign_eq_zero_iff_zero.1 h; omega
  have d1 : a.2 ∣ b.2 := by
    have : a.2 ∣ a.1 * b.2 := by rw [h']; exact Int.dvd_mul_left _ _
    exact dvd_co (by rw [Int.gcd_comm]; exact ha.co) this
  have d2 : b.2 ∣ a.2 := by
    have : b.2 ∣ b.1 * a.2 := by rw [← h']; exact Int.dvd_mul_left _ _
    exact dvd_co (by rw [Int.gcd_comm]; exact hb.co) this
  have e2 : a.2 = b.2 := Int.dvd_antisymm (Int.le_of_lt ha.pos) (Int.le_of_lt hb.pos) d1 d2
  have e1 : a.1 = b.1 := by
    rw [e2] at h'
    exact Int.eq_of_mul_eq_mul_right (Int.ne_of_gt hb.pos) h'
  exact Prod.ext e1 e2
theorem fc_self (a : Fr) : fc a a = 0 := by
  unfold fc
  rw [show a.1 * a.2 - a.1 * a.2 = 0 by omega]
  rfl
theorem sgn_cases (z : Int) : (z.sign = -1 ∧ z < 0) ∨ (z.sign = 0 ∧ z = 0) ∨ (z.sign = 1 ∧ 0 < z) := by
  rcases Int.lt_trichotomy z 0 with h | h | h
  · exact Or.inl ⟨Int.sign_eq_neg_one_of_neg h, h⟩
  · exact Or.inr (Or.inl ⟨by rw [h]; rfl, h⟩)
  · exact Or.inr (Or.inr ⟨Int.sign_eq_one_of_pos h, h⟩)
theorem fc_lt {a b : Fr} : fc a b < 0 ↔ a.1 * b.2 < b.1 * a.2 := by
  unfold fc
  have := sgn_cases (a.1 * b.2 - b.1 * a.2)
  omega
theorem fc_eq {a b : Fr} : fc a b = 0 ↔ a.1 * b.2 = b.1 * a.2 := by
  unfold fc
  have := sgn_cases (a.1 * b.2 - b.1 * a.2)
  omega
theorem mul3 {a b c d e f : Int} (hb : 0 < b) (hd : 0 < d) (hf : 0 < f) (h1 : a * d < c * b) (h2 : c * f ≤ e * d) : a * f < e * b := by
  have k1 : a * d * f < c * b * f := Int.mul_lt_mul_of_pos_right h1 hf
  have k2 : c * f * b ≤ e * d * b := Int.mul_le_mul_of_nonneg_right h2 (Int.le_of_lt hb)
  have k3 : d * (a * f) < d * (e * b) := by
    have e1 : d * (a * f) = a * d * f := by ac_rfl
    have e2 : d * (e * b) = e * d * b := by ac_rfl
    have e3 : c * b * f = c * f * b := by ac_rfl
    rw [e1, e2]; omega
  exact Int.lt_of_mul_lt_mul_left k3 (Int.le_of_lt hd)
theorem mul3' {a b c d e f : Int} (hb : 0 < b) (hd : 0 < d) (hf : 0 < f) (h1 : a * d ≤ c * b) (h2 : c * f < e * d) : a * f < e * b := by
  have k1 : a * d * f ≤ c * b * f := Int.mul_le_mul_of_nonneg_right h1 (Int.le_of_lt hf)
  have k2 : c * f * b < e * d * b := Int.mul_lt_mul_of_pos_right h2 hb
  have k3 : d * (a * f) < d * (e * b) := by
    have e1 : d * (a * f) = a * d * f := by ac_rfl
    have e2 : d * (e * b) = e * d * b := by ac_rfl
    have e3 : c * b * f = c * f * b := by ac_rfl
    rw [e1, e2]; omega
  exact Int.lt_of_mul_lt_mul_left k3 (Int.le_of_lt hd)
theorem mul3e {a b c d e f : Int} (hd : 0 < d) (h1 : a * d = c * b) (h2 : c * f = e * d) : a * f = e * b := by
  have k3 : d * (a * f) = d * (e * b) := by
    have e1 : d * (a * f) = a * d * f := by ac_rfl
    have e2 : d * (e * b) = e * d * b := by ac_rfl
    have e3 : c * b * f = c * f * b := by ac_rfl
    rw [e1, e2, h1, e3, h2]
  exact Int.eq_of_mul_eq_mul_left (Int.ne_of_gt hd) k3

/-- p is ahead of q. -/
def lt (p q : Qt) : Prop := pc p q < 0
theorem pc_lt {p q : Qt} : pc p q < 0 ↔ fc p.1 q.1 < 0 ∨ (fc p.1 q.1 = 0 ∧ fc p.2 q.2 < 0) := by
  unfold pc
  split <;> omega
theorem pc_swap (p q : Qt) : pc q p = - pc p q := by
  unfold pc
  rw [fc_swap p.1 q.1, fc_swap p.2 q.2]
  split <;> split <;> omega
theorem pc_zero {p q : Qt} (hp : RedP p) (hq : RedP q) (h : pc p q = 0) : p = q := by
  unfold pc at h
  split at h
  · rename_i h1
    exact Prod.ext (fc_zero hp.x hq.x h1) (fc_zero hp.y hq.y h)
  · rename_i h1; exact absurd h h1
theorem pc_self (p : Qt) : pc p p = 0 := by
  unfold pc
  rw [fc_self, if_pos rfl, fc_self]
theorem lt_trans {p q r : Qt} (hp : RedP p) (hq : RedP q) (hr : RedP r) (h1 : lt p q) (h2 : lt q r) : lt p r := by
  unfold lt at *
  rw [pc_lt] at *
  rw [fc_lt, fc_eq, fc_lt] at *
  rcases h1 with h1 | ⟨h1, h1'⟩
  · rcases h2 with h2 | ⟨h2, _⟩
    · exact Or.inl (mul3 hp.x.pos hq.x.pos hr.x.pos h1 (Int.le_of_lt h2))
    · exact Or.inl (mul3 hp.x.pos hq.x.pos hr.x.pos h1 (Int.le_of_eq h2))
  · rcases h2 with h2 | ⟨h2, h2'⟩
    · exact Or.inl (mul3' hp.x.pos hq.x.pos hr.x.pos (Int.le_of_eq h1) h2)
    · exact Or.inr ⟨mul3e hq.x.pos h1 h2, mul3 hp.y.pos hq.y.pos hr.y.pos h1' (Int.le_of_lt h2')⟩
theorem lt_irrefl (p : Qt) : ¬ lt p p := by unfold lt; rw [pc_self]; decide

/-- A list in its one order. -/
def Asc (l : List Qt) : Prop := l.Pairwise lt
/-- What 'with' makes of a list. -/
def ins (p : Qt) : List Qt → List Qt
  | [] => [p]
  | q :: l => if pc q p = 0 then q :: l else if pc q p < 0 then q :: ins p l else p :: q :: l

theorem ins_mem {p : Qt} (hp : RedP p) : ∀ {l : List Qt}, (∀ q ∈ l, RedP q) → ∀ r, r ∈ ins p l ↔ r = p ∨ r ∈ l
  | [], _, r => by simp [ins]
  | q :: l, hl, r => by
    unfold ins
    split
    · rename_i h
      have e := pc_zero (hl q (by simp)) hp h
      subst e
      simp
    · split
      · have ih := ins_mem hp (l := l) (fun x hx => hl x (by simp [hx])) r
        simp only [List.mem_cons, ih]
        constructor
        · rintro (h | h | h)
          · exact Or.inr (Or.inl h)
          · exact Or.inl h
          · exact Or.inr (Or.inr h)
        · rintro (h | h | h)
          · exact Or.inr (Or.inl h)
          · exact Or.inl h
          · exact Or.inr (Or.inr h)
      · simp
theorem ins_red {p : Qt} (hp : RedP p) {l : List Qt} (hl : ∀ q ∈ l, RedP q) : ∀ q ∈ ins p l, RedP q := fun q hq => by
  rcases (ins_mem hp hl q).1 hq with h | h
  · rw [h]; exact hp
  · exact hl q h
theorem ins_asc {p : Qt} (hp : RedP p) : ∀ {l : List Qt}, (∀ q ∈ l, RedP q) → Asc l → Asc (ins p l)
  | [], _, _ => by simp [ins, Asc]
  | q :: l, hl, ha => by
    have ha' := List.pairwise_cons.1 ha
    unfold ins
    split
    · exact ha
    · split
      · rename_i _ h
        refine List.pairwise_cons.2 ⟨fun r hr => ?_, ins_asc hp (fun x hx => hl x (by simp [hx])) ha'.2⟩
        rcases (ins_mem hp (fun x hx => hl x (by simp [hx])) r).1 hr with e | e
        · rw [e]; exact h
        · exact ha'.1 r e
      · rename_i h0 h1
        have hpq : lt p q := by unfold lt; have := pc_swap q p; omega
        refine List.pairwise_cons.2 ⟨fun r hr => ?_, ha⟩
        rcases List.mem_cons.1 hr with e | e
        · rw [e]; exact hpq
        · exact lt_trans hp (hl q (by simp)) (hl r (by simp [e])) hpq (ha'.1 r e)

/-- ONE SET, ONE ASCENDING LIST. -/
theorem asc_unique : ∀ {a b : List Qt}, (∀ q ∈ a, RedP q) → (∀ q ∈ b, RedP q) → Asc a → Asc b → (∀ q, q ∈ a ↔ q ∈ b) → a = b
  | [], [], _, _, _, _, _ => rfl
  | [], q :: l, _, _, _, _, h => by have := (h q).2 (by simp); simp at this
  | q :: l, [], _, _, _, _, h => by have := (h q).1 (by simp); simp at this
  | p :: a, q :: b, ra, rb, ha, hb, h => by
    have ha' := List.pairwise_cons.1 ha
    have hb' := List.pairwise_cons.1 hb
    have e : p = q := by
      rcases List.mem_cons.1 ((h p).1 (by simp)) with e | e
      · exact e
      · rcases List.mem_cons.1 ((h q).2 (by simp)) with e' | e'
        · exact e'.symm
        · have h1 := hb'.1 p e
          have h2 := ha'.1 q e'
          exact absurd (lt_trans (ra p (by simp)) (rb q (by simp)) (ra p (by simp)) h2 h1) (lt_irrefl p)
    subst e
    congr 1
    refine asc_unique (fun x hx => ra x (by simp [hx])) (fun x hx => rb x (by simp [hx])) ha'.2 hb'.2 fun r => ?_
    constructor
    · intro hr
      rcases List.mem_cons.1 ((h r).1 (by simp [hr])) with e | e
      · exact absurd (ha'.1 r hr) (by rw [e]; exact lt_irrefl p)
      · exact e
    · intro hr
      rcases List.mem_cons.1 ((h r).2 (by simp [hr])) with e | e
      · exact absurd (hb'.1 r hr) (by rw [e]; exact lt_irrefl p)
      · exact e
end Ge

end Go.Proofs.YtkjhhooecopolaaGreatDoor
