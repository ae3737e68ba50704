import Derived.Test.YtkjhhooecopolaaGreatDoorKj19
import Derived.Test.YtkjhhooecopolaaGreatDoorKj18
import Derived.Test.YtkjhhooecopolaaGreatDoorKj20
namespace Go.Proofs.YtkjhhooecopolaaGreatDoor
open Go.RowKit

/-! Points with fractions, as the reference lays them: ((N, D), (N, D)). -/
namespace Ge
abbrev Fr := Int × Int
abbrev Qt := Fr × Fr
/-- How two fractions stand to each other. -/
def fc (a b : Fr) : Int := (a.1 * b.2 - b.1 * a.2).sign
def pc (p q : Qt) : Int := if fc p.1 q.1 = 0 then fc p.2 q.2 else fc p.1 q.1
/-- A fraction without a common divisor, its part above nought. -/
structure Red (a : Fr) : Prop where
  pos : 0 < a.2
  co : Int.gcd a.1 a.2 = 1
structure RedP (p : Qt) : Prop where
  x : Red p.1
  y : Red p.2

theorem fc_swap (a b : Fr) : fc b a = - fc a b := by
  unfold fc
  rw [← Int.sign_neg]
  congr 1
  omega
theorem dvd_co {k m n : Int} (h : Int.gcd k m = 1) (hd : k ∣ m * n) : k ∣ n := by
  have h1 := Int.natAbs_dvd_natAbs.2 hd
  rw [Int.natAbs_mul] at h1
  exact Int.natAbs_dvd_natAbs.1 (Nat.Coprime.dvd_of_dvd_mul_left h h1)
theorem fc_zero {a b : Fr} (ha : Red a) (hb : Red b) (h : fc a b = 0) : a = b := by
  unfold fc at h
  have h' : a.1 * b.2 = b.1 * a.2 := by have := Int.sign_eq_zero_iff_zero.1 h; omega
  have d1 : a.2 ∣ b.2 := by
    have : a.2 ∣ a.1 * b.2 := by rw [h']; exact Int.dvd_mul_left _ _
    exact dvd_co (by rw [Int.gcd_comm]; exact ha.co) this
  have d2 : b.2 ∣ a.2 := by
    have : b.2 ∣ b.1 * a.2 := by rw [← h']; exact Int.dvd_mul_left _ _
    exact dvd_co (by rw [Int.gcd_comm]; exact hb.co) this
  have e2 : a.2 = b.2 := Int.dvd_antisymm (Int.le_of_lt ha.pos) (Int.le_of_lt hb.pos) d1 d2
  have e1 : a.1 = b.1 := by
    rw [e2] at h'
    exact Int.eq_of_mul_eq_mul_right (Int.ne_of_gt hb.pos) h'
  exact Prod.ext e1 e2
theorem fc_self (a : Fr) : fc a a = 0 := by
  unfold fc
  rw [show a.1 * a.2 - a.1 * a.2 = 0 by omega]
  rfl
theorem sgn_cases (z : Int) : (z.sign = -1 ∧ z < 0) ∨ (z.sign = 0 ∧ z = 0) ∨ (z.sign = 1 ∧ 0 < z) := by
  rcases Int.lt_trichotomy z 0 with h | h | h
  · exact Or.inl ⟨Int.sign_eq_neg_one_of_neg h, h⟩
  · exact Or.inr (Or.inl ⟨by rw [h]; rfl, h⟩)
  · exact Or.inr (Or.inr ⟨Int.sign_eq_one_of_pos h, h⟩)
theorem fc_lt {a b : Fr} : fc a b < 0 ↔ a.1 * b.2 < b.1 * a.2 := by
  unfold fc
  have := sgn_cases (a.1 * b.2 - b.1 * a.2)
  omega
theorem fc_eq {a b : Fr} : fc a b = 0 ↔ a.1 * b.2 = b.1 * a.2 := by
  unfold fc
  have := sgn_cases (a.1 * b.2 - b.1 * a.2)
  omega
theorem mul3 {a b c d e f : Int} (hb : 0 < b) (hd : 0 < d) (hf : 0 < f) (h1 : a * d < c * b) (h2 : c * f ≤ e * d) : a * f < e * b := by
  have k1 : a * d * f < c * b * f := Int.mul_lt_mul_of_pos_right h1 hf
  have k2 : c * f * b ≤ e * d * b := Int.mul_le_mul_of_nonneg_right h2 (Int.le_of_lt hb)
  have k3 : d * (a * f) < d * (e * b) := by
    have e1 : d * (a * f) = a * d * f := by ac_rfl
    have e2 : d * (e * b) = e * d * b := by ac_rfl
    have e3 : c * b * f = c * f * b := by ac_rfl
    rw [e1, e2]; omega
  exact Int.lt_of_mul_lt_mul_left k3 (Int.le_of_lt hd)
theorem mul3' {a b c d e f : Int} (hb : 0 < b) (hd : 0 < d) (hf : 0 < f) (h1 : a * d ≤ c * b) (h2 : c * f < e * d) : a * f < e * b := by
  have k1 : a * d * f ≤ c * b * f := Int.mul_le_mul_of_nonneg_right h1 (Int.le_of_lt hf)
  have k2 : c * f * b < e * d * b := Int.mul_lt_mul_of_pos_right h2 hb
  have k3 : d * (a * f) < d * (e * b) := by
    have e1 : d * (a * f) = a * d * f := by ac_rfl
    have e2 : d * (e * b) = e * d * b := by ac_rfl
    have e3 : c * b * f = c * f * b := by ac_rfl
    rw [e1, e2]; omega
  exact Int.lt_of_mul_lt_mul_left k3 (Int.le_of_lt hd)
theorem mul3e {a b c d e f : Int} (hd : 0 < d) (h1 : a * d = c * b) (h2 : c * f = e * d) : a * f = e * b := by
  have k3 : d * (a * f) = d * (e * b) := by
    have e1 : d * (a * f) = a * d * f := by ac_rfl
    have e2 : d * (e * b) = e * d * b := by ac_rfl
    have e3 : c * b * f = c * f * b := by ac_rfl
    rw [e1, e2, h1, e3, h2]
  exact Int.eq_of_mul_eq_mul_left (Int.ne_of_gt hd) k3

/-- p is ahead of q. -/
def lt (p q : Qt) : Prop := pc p q < 0
theorem pc_lt {p q : Qt} : pc p q < 0 ↔ fc p.1 q.1 < 0 ∨ (fc p.1 q.1 = 0 ∧ fc p.2 q.2 < 0) := by
  unfold pc
  split <;> omega
theorem pc_swap (p q : Qt) : pc q p = - pc p q := by
  unfold pc
  rw [fc_swap p.1 q.1, fc_swap p.2 q.2]
  split <;> split <;> omega
theorem pc_zero {p q : Qt} (hp : RedP p) (hq : RedP q) (h : pc p q = 0) : p = q := by
  unfold pc at h
  split at h
  · rename_i h1
    exact Prod.ext (fc_zero hp.x hq.x h1) (fc_zero hp.y hq.y h)
  · rename_i h1; exact absurd h h1
theorem pc_self (p : Qt) : pc p p = 0 := by
  unfold pc
  rw [fc_self, if_pos rfl, fc_self]
theorem lt_trans {p q r : Qt} (hp : RedP p) (hq : RedP q) (hr : RedP r) (h1 : lt p q) (h2 : lt q r) : lt p r := by
  unfold lt at *
  rw [pc_lt] at *
  rw [fc_lt, fc_eq, fc_lt] at *
  rcases h1 with h1 | ⟨h1, h1'⟩
  · rcases h2 with h2 | ⟨h2, _⟩
    · exact Or.inl (mul3 hp.x.pos hq.x.pos hr.x.pos h1 (Int.le_of_lt h2))
    · exact Or.inl (mul3 hp.x.pos hq.x.pos hr.x.pos h1 (Int.le_of_eq h2))
  · rcases h2 with h2 | ⟨h2, h2'⟩
    · exact Or.inl (mul3' hp.x.pos hq.x.pos hr.x.pos (Int.le_of_eq h1) h2)
    · exact Or.inr ⟨mul3e hq.x.pos h1 h2, mul3 hp.y.pos hq.y.pos hr.y.pos h1' (Int.le_of_lt h2')⟩
theorem lt_irrefl (p : Qt) : ¬ lt p p := by unfold lt; rw [pc_self]; decide

/-- A list in its one order. -/
def Asc (l : List Qt) : Prop := l.Pairwise lt
/-- What 'with' makes of a list. -/
def ins (p : Qt) : List Qt → List Qt
  | [] => [p]
  | q :: l => if pc q p = 0 then q :: l else if pc q p < 0 then q :: ins p l else p :: q :: l

theorem ins_mem {p : Qt} (hp : RedP p) : ∀ {l : List Qt}, (∀ q ∈ l, RedP q) → ∀ r, r ∈ ins p l ↔ r = p ∨ r ∈ l
  | [], _, r => by simp [ins]
  | q :: l, hl, r => by
    unfold ins
    split
    · rename_i h
      have e := pc_zero (hl q (by simp)) hp h
      subst e
      simp
    · split
      · have ih := ins_mem hp (l := l) (fun x hx => hl x (by simp [hx])) r
        simp only [List.mem_cons, ih]
        constructor
        · rintro (h | h | h)
          · exact Or.inr (Or.inl h)
          · exact Or.inl h
          · exact Or.inr (Or.inr h)
        · rintro (h | h | h)
          · exact Or.inr (Or.inl h)
          · exact Or.inl h
          · exact Or.inr (Or.inr h)
      · simp
theorem ins_red {p : Qt} (hp : RedP p) {l : List Qt} (hl : ∀ q ∈ l, RedP q) : ∀ q ∈ ins p l, RedP q := fun q hq => by
  rcases (ins_mem hp hl q).1 hq with h | h
  · rw [h]; exact hp
  · exact hl q h
theorem ins_asc {p : Qt} (hp : RedP p) : ∀ {l : List Qt}, (∀ q ∈ l, RedP q) → Asc l → Asc (ins p l)
  | [], _, _ => by simp [ins, Asc]
  | q :: l, hl, ha => by
    have ha' := List.pairwise_cons.1 ha
    unfold ins
    split
    · exact ha
    · split
      · rename_i _ h
        refine List.pairwise_cons.2 ⟨fun r hr => ?_, ins_asc hp (fun x hx => hl x (by simp [hx])) ha'.2⟩
        rcases (ins_mem hp (fun x hx => hl x (by simp [hx])) r).1 hr with e | e
        · rw [e]; exact h
        · exact ha'.1 r e
      · rename_i h0 h1
        have hpq : lt p q := by unfold lt; have := pc_swap q p; omega
        refine List.pairwise_cons.2 ⟨fun r hr => ?_, ha⟩
        rcases List.mem_cons.1 hr with e | e
        · rw [e]; exact hpq
        · exact lt_trans hp (hl q (by simp)) (hl r (by simp [e])) hpq (ha'.1 r e)

/-- ONE SET, ONE ASCENDING LIST. -/
theorem asc_unique : ∀ {a b : List Qt}, (∀ q ∈ a, RedP q) → (∀ q ∈ b, RedP q) → Asc a → Asc b → (∀ q, q ∈ a ↔ q ∈ b) → a = b
  | [], [], _, _, _, _, _ => rfl
  | [], q :: l, _, _, _, _, h => by have := (h q).2 (by simp); simp at this
  | q :: l, [], _, _, _, _, h => by have := (h q).1 (by simp); simp at this
  | p :: a, q :: b, ra, rb, ha, hb, h => by
    have ha' := List.pairwise_cons.1 ha
    have hb' := List.pairwise_cons.1 hb
    have e : p = q := by
      rcases List.mem_cons.1 ((h p).1 (by simp)) with e | e
      · exact e
      · rcases List.mem_cons.1 ((h q).2 (by simp)) with e' | e'
        · exact e'.symm
        · have h1 := hb'.1 p e
          have h2 := ha'.1 q e'
          exact absurd (lt_trans (ra p (by simp)) (rb q (by simp)) (ra p (by simp)) h2 h1) (lt_irrefl p)
    subst e
    congr 1
    refine asc_unique (fun x hx => ra x (by simp [hx])) (fun x hx => rb x (by simp [hx])) ha'.2 hb'.2 fun r => ?_
    constructor
    · intro hr
      rcases List.mem_cons.1 ((h r).1 (by simp [hr])) with e | e
      · exact absurd (ha'.1 r hr) (by rw [e]; exact lt_irrefl p)
      · exact e
    · intro hr
      rcases List.mem_cons.1 ((h r).2 (by simp [hr])) with e | e
      · exact absurd (hb'.1 r hr) (by rw [e]; exact lt_irrefl p)
      · exact e
end Ge

end Go.Proofs.YtkjhhooecopolaaGreatDoor

namespace Go.Proofs.YtkjhhooecopolaaGreatDoor
open Go.RowKit

namespace Ge
/-- n by d, without a common divisor, its part above nought. -/
def fr2 (n d : Int) : Fr := if d < 0 then (frN (-n) (-d), frD (-n) (-d)) else (frN n d, frD n d)

theorem co_of {n d g : Int} {a b : Int} (hg : (Int.gcd n d : Int) = g) (hp : 0 < g) (h1 : n = g * a) (h2 : d = g * b) : Int.gcd a b = 1 := by
  have e : Int.gcd (g * a) (g * b) = g.natAbs * Int.gcd a b := Int.gcd_mul_left ..
  rw [← h1, ← h2] at e
  have e2 : (Int.gcd n d) = g.natAbs := by omega
  rw [e2] at e
  have hpos : 0 < g.natAbs := by omega
  have e3 : g.natAbs * 1 = g.natAbs * Int.gcd a b := by rw [Nat.mul_one]; exact e
  exact (Nat.eq_of_mul_eq_mul_left hpos e3).symm
theorem fr2_red {n d : Int} (hd : d ≠ 0) : Red (fr2 n d) := by
  unfold fr2
  split
  · rename_i h
    exact ⟨frD_pos (by omega), co_of rfl (by have := gcd_pos (n := -n) (d := -d) (by omega); omega) (frN_eq (-n) (-d)) (frD_eq (-n) (-d))⟩
  · exact ⟨frD_pos (by omega), co_of rfl (by have := gcd_pos (n := n) hd; omega) (frN_eq n d) (frD_eq n d)⟩
/-- By which number n and d are greater: its sign is that of d. -/
theorem fr2_eq {n d : Int} (hd : d ≠ 0) : ∃ g, g ≠ 0 ∧ n = g * (fr2 n d).1 ∧ d = g * (fr2 n d).2 ∧ (0 < g ↔ 0 < d) := by
  unfold fr2
  split
  · rename_i h
    have hg := gcd_pos (n := -n) (d := -d) (by omega)
    have e1 := frN_eq (-n) (-d)
    have e2 := frD_eq (-n) (-d)
    refine ⟨-(Int.gcd (-n) (-d) : Int), by omega, ?_, ?_, by omega⟩
    · simp only; rw [Int.neg_mul, ← e1]; omega
    · simp only; rw [Int.neg_mul, ← e2]; omega
  · have hg := gcd_pos (n := n) hd
    exact ⟨_, by omega, frN_eq n d, frD_eq n d, by omega⟩
theorem fr2_one (n : Int) : fr2 n 1 = (n, 1) := by
  unfold fr2
  rw [if_neg (by decide)]
  unfold frN frD
  rw [Int.gcd_one]
  simp
/-- Equal quotients, equal fractions. -/
theorem fr2_same {n d m e : Int} (hd : d ≠ 0) (he : e ≠ 0) (h : n * e = m * d) : fr2 n d = fr2 m e := by
  obtain ⟨g, g0, h1, h2, _⟩ := fr2_eq (n := n) hd
  obtain ⟨k, k0, h3, h4, _⟩ := fr2_eq (n := m) he
  refine fc_zero (fr2_red hd) (fr2_red he) (fc_eq.2 ?_)
  have e1 : g * (fr2 n d).1 * (k * (fr2 m e).2) = k * (fr2 m e).1 * (g * (fr2 n d).2) := by rw [← h1, ← h2, ← h3, ← h4]; exact h
  have e2 : (g * k) * ((fr2 n d).1 * (fr2 m e).2) = (g * k) * ((fr2 m e).1 * (fr2 n d).2) := by
    calc (g * k) * ((fr2 n d).1 * (fr2 m e).2) = g * (fr2 n d).1 * (k * (fr2 m e).2) := by ac_rfl
      _ = k * (fr2 m e).1 * (g * (fr2 n d).2) := e1
      _ = (g * k) * ((fr2 m e).1 * (fr2 n d).2) := by ac_rfl
  exact Int.eq_of_mul_eq_mul_left (Int.mul_ne_zero g0 k0) e2
theorem fr2_of {a : Fr} (h : Red a) : fr2 a.1 a.2 = a := by
  unfold fr2
  have hp := h.pos
  rw [if_neg (by omega)]
  unfold frN frD
  rw [h.co]
  simp
end Ge

set_option maxRecDepth 100000 in
set_option maxHeartbeats 1000000 in
theorem frac_core (n d n0 : Int) (D A : Nat) (w : World) (hD : 0 < D) (hD2 : D ≤ 1000000000000) (hA : A ≤ 1000000000000) (hG : Nat.gcd A D = Int.gcd n0 D)
    (h1 : (d < 0 ∧ IntKind.i64.wrap (-n) = n0 ∧ IntKind.i64.wrap (-d) = (D : Int)) ∨ (¬ d < 0 ∧ n0 = n ∧ (D : Int) = d)) (h2 : (n0 < 0 ∧ IntKind.i64.wrap (-n0) = (A : Int)) ∨ (¬ n0 < 0 ∧ n0 = (A : Int))) (h3 : -1000000000000 ≤ n0 ∧ n0 ≤ 1000000000000) :
    Calls Tryz.prog 46 #[.int .i64 n, .int .i64 d] w fun e w' => e = .returned (.agg #[.int .i64 (frN n0 D), .int .i64 (frD n0 D)]) ∧ Below w.heap.size w w' := by
  have hG0 : 0 < Int.gcd n0 D := gcd_pos (by omega)
  have HN : Hid (frN n0 D = n0.tdiv (Int.gcd n0 D)) := rfl
  have HD : Hid (frD n0 D = (D : Int).tdiv (Int.gcd n0 D)) := rfl
  generalize Int.gcd n0 D = G at *
  generalize frN n0 D = RN at *
  generalize frD n0 D = RD at *
  have hb0 : Below w.heap.size w (w.alloc (.cells #[.int .i64 0, .int .i64 0] 97)) := (Below.refl _ _).alloc (Nat.le_refl _) _
  have hE := heap_alloc_new w (.cells #[.int .i64 0, .int .i64 0] 97)
  rcases h1 with ⟨k1, k2, k3⟩ | ⟨k1, e2, e3⟩ <;> rcases h2 with ⟨k4, k5⟩ | ⟨k4, k5⟩
  all_goals
    try subst e2
    try subst e3
    go_enter Tryz.func46, Tryz.ntmps46
    go_wp2_with fail
    generalize w.alloc (.cells #[.int .i64 0, .int .i64 0] 97) = W at *
    generalize hB : w.heap.size = B at *
    go_loopg [5, 6] D (fun m av bv wr => ∃ a b : Nat, av = .int .i64 a ∧ bv = .int .i64 b ∧ m = b ∧ Nat.gcd a b = G ∧ a ≤ 1000000000000 ∧ b ≤ 1000000000000 ∧ wr = W)
    case atStart => exact ⟨A, D, by first | rfl | rw [k5], rfl, rfl, hG, hA, hD2, rfl⟩
    case round =>
      obtain ⟨a, b, rfl, rfl, rfl, hg, ha, hb, rfl⟩ := hrel
      by_cases hz : gk = 0
      · subst hz
        rw [Nat.gcd_zero_right] at hg
        subst hg
        have e0 : wr.cell? ⟨B, 0, none⟩ = some (.int .i64 0) := cell_of' hE 0
        have e1 : wr.cell? ⟨B, 1, none⟩ = some (.int .i64 0) := cell_of' hE 1
        have z0 : wr.frozen? ⟨B, 0, none⟩ = false := frozen_of' hE 0
        have z1 : wr.frozen? ⟨B, 1, none⟩ = false := frozen_of' hE 1
        have hx : ¬ (a = 0) := by omega
        have hx1 : (0 : Int) < a := by omega
        have hw1 : IntKind.i64.wrap (n0.tdiv (a : Int)) = RN := by rw [HN.out]; exact IntWalk.i64_quo' _ _ ⟨by omega, by omega, by omega⟩
        have hw3 : IntKind.i64.wrap ((D : Int) / (a : Int)) = RD := by rw [HD.out, Int.tdiv_eq_ediv_of_nonneg (by omega), IntKind.wrap_i64]; have := IntWalk.tdiv_le (D : Int) a (by omega) (by omega); omega
        have hw2 : IntKind.i64.wrap ((D : Int).tdiv (a : Int)) = RD := by rw [HD.out]; exact IntWalk.i64_quo' _ _ ⟨by omega, by omega, by omega⟩
        have hw4 : ¬ n0 < 0 → IntKind.i64.wrap (n0 / (a : Int)) = RN := fun h => by rw [← hw1, Int.tdiv_eq_ediv_of_nonneg (by omega)]
        try (have hw5 : IntKind.i64.wrap ((A : Int) / (a : Int)) = RN := by rw [← k5]; exact hw4 (by omega))
        clear hw4
        go_wp2_with fail
        go_region_held3 (fun w' => w'.frozen? ⟨B, 0, none⟩ = false ∧ w'.frozen? ⟨B, 1, none⟩ = false) (go_keep) (fail)
        go_wp2_with fail
        refine bodyPost_ret (v := .agg #[.int .i64 RN, .int .i64 RD]) (by first | (simp [results, Tryz.results46, go_sem, e0, e1]; done) | (simp [results, Tryz.results46, go_sem, e0, e1]; exact hw5)) rfl ⟨rfl, ?_⟩
        rw [hB]
        exact ((hb0.setCell (Nat.le_refl _) _).setCell (Nat.le_refl _) _).drew
      · have hlt := Nat.mod_lt a (Nat.pos_of_ne_zero hz)
        have hgs := gcd_step a gk
        go_wp2_with fail
        go_roundg (a % gk)
        case measure => omega
        case rel => exact ⟨gk, a % gk, rfl, by go_num, rfl, by rw [hgs, hg], hb, by omega, rfl⟩

theorem frac_any (n d : Int) (w : World) (hd : d ≠ 0) (hn : -1000000000000 ≤ n ∧ n ≤ 1000000000000) (hd2 : -1000000000000 ≤ d ∧ d ≤ 1000000000000) :
    Calls Tryz.prog 46 #[.int .i64 n, .int .i64 d] w fun e w' => e = .returned (.agg #[.int .i64 (Ge.fr2 n d).1, .int .i64 (Ge.fr2 n d).2]) ∧ Below w.heap.size w w' := by
  unfold Ge.fr2
  by_cases hneg : d < 0
  · rw [if_pos hneg]
    have h := frac_core n d (-n) (-d).toNat (-n).natAbs w (by omega) (by omega) (by omega) (by unfold Int.gcd; rfl) (Or.inl ⟨hneg, by rw [IntKind.wrap_i64]; omega, by rw [IntKind.wrap_i64]; omega⟩) (by
      by_cases hx : -n < 0
      · exact Or.inl ⟨hx, by rw [IntKind.wrap_i64]; omega⟩
      · exact Or.inr ⟨hx, by omega⟩) (by omega)
    have e : ((-d).toNat : Int) = -d := by omega
    rw [e] at h
    exact h
  · rw [if_neg hneg]
    have h := frac_core n d n d.toNat n.natAbs w (by omega) (by omega) (by omega) (by unfold Int.gcd; rfl) (Or.inr ⟨hneg, rfl, by omega⟩) (by
      by_cases hx : n < 0
      · exact Or.inl ⟨hx, by rw [IntKind.wrap_i64]; omega⟩
      · exact Or.inr ⟨hx, by omega⟩) (by omega)
    have e : (d.toNat : Int) = d := by omega
    rw [e] at h
    exact h

end Go.Proofs.YtkjhhooecopolaaGreatDoor

namespace Go.Proofs.YtkjhhooecopolaaGreatDoor
open Go.RowKit

def qA (p : Ge.Qt) : Array Value := #[.int .i64 p.1.1, .int .i64 p.1.2, .int .i64 p.2.1, .int .i64 p.2.2]
def QIn (p : Ge.Qt) : Prop := PtIn p.1.1 p.1.2 p.2.1 p.2.2

theorem fmul_in {n d : Int} (hn : -10000000 ≤ n ∧ n ≤ 10000000) (hd : 0 < d ∧ d ≤ 1000000) : -10000000000000 ≤ n * d ∧ n * d ≤ 10000000000000 :=
  mul_in (a := 10000000) (b := 1000000) hn ⟨by omega, hd.2⟩

theorem pc_val (p q : Ge.Qt) (S1 S2 : Int) (h1 : Ge.fc p.1 q.1 = S1) (h2 : Ge.fc p.2 q.2 = S2) : Ge.pc p q = if S1 = 0 then S2 else S1 := by
  subst h1 h2; rfl

set_option maxRecDepth 100000 in
set_option maxHeartbeats 400000 in
theorem pcmp_any (p q : Ge.Qt) (w : World) (hp : QIn p) (hq : QIn q) :
    Calls Tryz.prog 47 #[.agg (qA p), .agg (qA q)] w fun e w' => e = .returned (.int .i64 (Ge.pc p q)) ∧ Below w.heap.size w w' := by
  obtain ⟨⟨a, b⟩, c, d⟩ := p
  obtain ⟨⟨a', b'⟩, c', d'⟩ := q
  have m1 := fmul_in hp.xn hq.xd
  have m2 := fmul_in hq.xn hp.xd
  have m3 := fmul_in hp.yn hq.yd
  have m4 := fmul_in hq.yn hp.yd
  simp only at m1 m2 m3 m4
  have H1 : Hid (∀ w1, Calls Tryz.prog 49 #[.agg #[.int .i64 a, .int .i64 b], .agg #[.int .i64 a', .int .i64 b']] w1 fun e w' => e = .returned (.int .i64 (a * b' - a' * b).sign) ∧ Below w1.heap.size w1 w') := fun w1 => fcmp_any a b a' b' _ _ w1 rfl rfl (by omega) (by omega)
  have H2 : Hid (∀ w1, Calls Tryz.prog 49 #[.agg #[.int .i64 c, .int .i64 d], .agg #[.int .i64 c', .int .i64 d']] w1 fun e w' => e = .returned (.int .i64 (c * d' - c' * d).sign) ∧ Below w1.heap.size w1 w') := fun w1 => fcmp_any c d c' d' _ _ w1 rfl rfl (by omega) (by omega)
  obtain ⟨S1, hS1⟩ : ∃ S1, (a * b' - a' * b).sign = S1 := ⟨_, rfl⟩
  obtain ⟨S2, hS2⟩ : ∃ S2, (c * d' - c' * d).sign = S2 := ⟨_, rfl⟩
  rw [pc_val ((a, b), (c, d)) ((a', b'), (c', d')) S1 S2 hS1 hS2]
  rw [hS1] at H1
  rw [hS2] at H2
  simp only [qA]
  clear hS1 hS2
  clear m1 m2 m3 m4 hp hq
  have hE : ((w.alloc (.cells #[.int .i64 a, .int .i64 b, .int .i64 c, .int .i64 d] 100)).alloc (.cells #[.int .i64 a', .int .i64 b', .int .i64 c', .int .i64 d'] 100)).heap[w.heap.size]? = some (.cells #[.int .i64 a, .int .i64 b, .int .i64 c, .int .i64 d] 100 (0, 0)) := by
    rw [Below.heap_alloc _ _ _ (by simp)]; exact heap_alloc_new _ _
  have hP : ((w.alloc (.cells #[.int .i64 a, .int .i64 b, .int .i64 c, .int .i64 d] 100)).alloc (.cells #[.int .i64 a', .int .i64 b', .int .i64 c', .int .i64 d'] 100)).heap[w.heap.size + 1]? = some (.cells #[.int .i64 a', .int .i64 b', .int .i64 c', .int .i64 d'] 100 (0, 0)) := by
    have := heap_alloc_new (w.alloc (.cells #[.int .i64 a, .int .i64 b, .int .i64 c, .int .i64 d] 100)) (.cells #[.int .i64 a', .int .i64 b', .int .i64 c', .int .i64 d'] 100)
    simpa using this
  have hb0 : Below w.heap.size w ((w.alloc (.cells #[.int .i64 a, .int .i64 b, .int .i64 c, .int .i64 d] 100)).alloc (.cells #[.int .i64 a', .int .i64 b', .int .i64 c', .int .i64 d'] 100)) := ((Below.refl _ _).alloc (Nat.le_refl _) _).alloc (by simp) _
  have hsz : w.heap.size + 2 = ((w.alloc (.cells #[.int .i64 a, .int .i64 b, .int .i64 c, .int .i64 d] 100)).alloc (.cells #[.int .i64 a', .int .i64 b', .int .i64 c', .int .i64 d'] 100)).heap.size := by simp
  go_enter Tryz.func47, Tryz.ntmps47
  go_wp2_with fail
  generalize (w.alloc (.cells #[.int .i64 a, .int .i64 b, .int .i64 c, .int .i64 d] 100)).alloc (.cells #[.int .i64 a', .int .i64 b', .int .i64 c', .int .i64 d'] 100) = W at *
  refine (H1.out _).mono ?_
  rintro e w1 ⟨rfl, hb1⟩
  have hE1 := (hb1.block _ (show w.heap.size < W.heap.size by omega)).trans hE
  have hP1 := (hb1.block _ (show w.heap.size + 1 < W.heap.size by omega)).trans hP
  have x2 : w1.cell? ⟨w.heap.size, 2, none⟩ = some (.int .i64 c) := cell_of' hE1 2
  have x3 : w1.cell? ⟨w.heap.size, 3, none⟩ = some (.int .i64 d) := cell_of' hE1 3
  have p2 : w1.cell? ⟨w.heap.size + 1, 2, none⟩ = some (.int .i64 c') := cell_of' hP1 2
  have p3 : w1.cell? ⟨w.heap.size + 1, 3, none⟩ = some (.int .i64 d') := cell_of' hP1 3
  have hbel1 := hb0.trans (hb1.mono (by omega))
  clear hE hP hE1 hP1 hb0 hb1
  by_cases hs : S1 = 0
  · subst hs
    go_wp2_with fail
    refine (H2.out _).mono ?_
    rintro e w2 ⟨rfl, hb2⟩
    go_wp2_with fail
    go_ret
    exact ⟨rfl, hbel1.trans (hb2.mono hbel1.size)⟩
  · go_wp2_with fail
    go_ret
    refine ⟨?_, hbel1⟩
    first
      | rfl
      | (rw [if_neg hs]; rfl)

set_option maxRecDepth 100000 in
set_option maxHeartbeats 400000 in
theorem point_any (a b : Int) (w : World) :
    Calls Tryz.prog 136 #[.agg #[.int .i64 a, .int .i64 b]] w fun e w' => e = .returned (.agg (qA ((a, 1), (b, 1)))) ∧ Below w.heap.size w w' := by
  simp only [qA]
  go_enter Tryz.func136, Tryz.ntmps136
  go_wp2_with fail
  have hF : ((w.alloc (.cells #[.int .i64 a, .int .i64 b] 65)).alloc (.cells #[.int .i64 a, .int .i64 1, .int .i64 b, .int .i64 1] 100)).heap[w.heap.size + 1]? = some (.cells #[.int .i64 a, .int .i64 1, .int .i64 b, .int .i64 1] 100 (0, 0)) := by
    have := heap_alloc_new (w.alloc (.cells #[.int .i64 a, .int .i64 b] 65)) (.cells #[.int .i64 a, .int .i64 1, .int .i64 b, .int .i64 1] 100)
    simpa using this
  have hb0 : Below w.heap.size w ((w.alloc (.cells #[.int .i64 a, .int .i64 b] 65)).alloc (.cells #[.int .i64 a, .int .i64 1, .int .i64 b, .int .i64 1] 100)) := ((Below.refl _ _).alloc (Nat.le_refl _) _).alloc (by simp) _
  generalize (w.alloc (.cells #[.int .i64 a, .int .i64 b] 65)).alloc (.cells #[.int .i64 a, .int .i64 1, .int .i64 b, .int .i64 1] 100) = W at *
  have e0 : W.cell? ⟨w.heap.size + 1, 0, none⟩ = some (.int .i64 a) := cell_of' hF 0
  have e1 : W.cell? ⟨w.heap.size + 1, 1, none⟩ = some (.int .i64 1) := cell_of' hF 1
  have e2 : W.cell? ⟨w.heap.size + 1, 2, none⟩ = some (.int .i64 b) := cell_of' hF 2
  have e3 : W.cell? ⟨w.heap.size + 1, 3, none⟩ = some (.int .i64 1) := cell_of' hF 3
  exact bodyPost_ret (v := .agg #[.int .i64 a, .int .i64 1, .int .i64 b, .int .i64 1]) (by simp [results, Tryz.results136, go_sem, e0, e1, e2, e3]) rfl ⟨rfl, hb0⟩

end Go.Proofs.YtkjhhooecopolaaGreatDoor
