import Derived.Laws.ComplexArith
namespace Go.Proofs.YtkjhhooecopolaaGreatDoor
open Ieee

/-- A datum that stands for the whole number n: place at least -2148. -/
def Dn (d : Datum) (n : Int) : Prop := ∃ s m i, d = .number s m i ∧ -2148 ≤ i ∧ signed s m (i + 2148).toNat = n * 2 ^ 2148

/-- The same, no finer than a word of a float64 can be. -/
def D1 (d : Datum) (n : Int) : Prop := ∃ s m i, d = .number s m i ∧ -1074 ≤ i ∧ signed s m (i + 1074).toNat = n * 2 ^ 1074

/-- A word of a float64 that stands for the whole number n. -/
def Fl (b : Nat) (n : Int) : Prop := D1 (double.read b) n

theorem signed_eq (s : Bool) (m k : Nat) : signed s m k = (if s then -1 else 1) * ((m * 2 ^ k : Nat) : Int) := by
  unfold signed
  rw [Nat.shiftLeft_eq]
  cases s <;> simp

theorem signed_up (s : Bool) (m k j : Nat) : signed s m (k + j) = signed s m k * 2 ^ j := by
  rw [signed_eq, signed_eq, Nat.pow_add, ← Nat.mul_assoc]
  generalize (if s = true then (-1 : Int) else 1) = c
  rw [Int.natCast_mul (m * 2 ^ k), Int.mul_assoc]
  push_cast
  rfl

theorem log2_mul_pow {m : Nat} (k : Nat) (hm : m ≠ 0) : (m * 2 ^ k).log2 = m.log2 + k := by
  have hp := Nat.two_pow_pos k
  have hne : m * 2 ^ k ≠ 0 := Nat.ne_of_gt (Nat.mul_pos (Nat.pos_of_ne_zero hm) hp)
  rw [Nat.log2_eq_iff hne]
  have ⟨h1, h2⟩ := (Nat.log2_eq_iff hm (k := m.log2)).1 rfl
  refine ⟨?_, ?_⟩
  · rw [Nat.pow_add]; exact Nat.mul_le_mul_right _ h1
  · have : m.log2 + k + 1 = (m.log2 + 1) + k := by omega
    rw [this, Nat.pow_add]; exact Nat.mul_lt_mul_of_pos_right h2 hp

theorem signed_natAbs (s : Bool) (m k : Nat) : (signed s m k).natAbs = m * 2 ^ k := by
  rw [signed_eq]; cases s <;> simp [Int.natAbs_mul, Int.natAbs_pow]

theorem pow_pos_int (k : Nat) : (0 : Int) < 2 ^ k := by
  have := Nat.two_pow_pos k
  have h : ((2 ^ k : Nat) : Int) = (2 : Int) ^ k := by push_cast; rfl
  omega

theorem signed_one {s : Bool} {m : Nat} {i n : Int} (P Z : Nat) (hi : -(P : Int) ≤ i) (hPZ : P ≤ Z) (h : signed s m (i + P).toNat = n * 2 ^ P) :
    signed s m (i + Z).toNat = n * 2 ^ Z := by
  have e : (i + Z).toNat = (i + P).toNat + (Z - P) := by omega
  have e' : Z = P + (Z - P) := by omega
  rw [e, signed_up, h, Int.mul_assoc, ← Int.pow_add, ← e']

theorem D1.dn {d : Datum} {n : Int} (h : D1 d n) : Dn d n := by
  obtain ⟨s, m, i, h1, h2, h3⟩ := h
  exact ⟨s, m, i, h1, by omega, signed_one 1074 2148 h2 (by decide) h3⟩

theorem signed_opp (s : Bool) (m k : Nat) : signed (!s) m k = - signed s m k := by
  cases s <;> simp [signed]

theorem D1.opp {d : Datum} {n : Int} (h : D1 d n) : D1 d.opposite (-n) := by
  obtain ⟨s, m, i, rfl, h2, h3⟩ := h
  refine ⟨!s, m, i, rfl, h2, ?_⟩
  rw [signed_opp, h3, Int.neg_mul]

theorem signed_sgn (t : Int) (c : Bool) (k : Nat) : signed (if t = 0 then c else decide (t < 0)) t.natAbs k = t * 2 ^ k := by
  rw [signed_eq, Int.natCast_mul, Int.natCast_pow]
  have e3 : ((2 : Nat) : Int) = 2 := rfl
  rw [e3, ← Int.mul_assoc]
  congr 1
  by_cases h : t = 0
  · simp [h]
  · rw [if_neg h]
    by_cases h2 : t < 0
    · simp only [h2, decide_true, if_true]; omega
    · simp only [h2, decide_false, Bool.false_eq_true, if_false]; omega

theorem sum_gen {s t c : Bool} {m k : Nat} {i j x y : Int} (P Z : Nat) (hi : -(P : Int) ≤ i) (hj : -(P : Int) ≤ j) (hPZ : P ≤ Z)
    (hx : signed s m (i + P).toNat = x * 2 ^ P) (hy : signed t k (j + P).toNat = y * 2 ^ P) :
    signed (if signed s m (i - min i j).toNat + signed t k (j - min i j).toNat = 0 then c else decide (signed s m (i - min i j).toNat + signed t k (j - min i j).toNat < 0))
      (signed s m (i - min i j).toNat + signed t k (j - min i j).toNat).natAbs (min i j + Z).toNat = (x + y) * 2 ^ Z := by
  rw [signed_sgn, Int.add_mul, ← signed_up, ← signed_up]
  have e1 : (i - min i j).toNat + (min i j + Z).toNat = (i + Z).toNat := by omega
  have e2 : (j - min i j).toNat + (min i j + Z).toNat = (j + Z).toNat := by omega
  rw [e1, e2, signed_one P Z hi hPZ hx, signed_one P Z hj hPZ hy, Int.add_mul]

theorem D1.sum {d e : Datum} {x y : Int} (hd : D1 d x) (he : D1 e y) : ∃ r, d.sum e = some r ∧ Dn r (x + y) := by
  obtain ⟨s, m, i, rfl, hi, hx⟩ := hd
  obtain ⟨t, k, j, rfl, hj, hy⟩ := he
  refine ⟨_, rfl, _, _, _, rfl, by omega, ?_⟩
  exact sum_gen 1074 2148 hi hj (by decide) hx hy

theorem signed_mul (s t : Bool) (m k a b : Nat) : signed (s ^^ t) (m * k) (a + b) = signed s m a * signed t k b := by
  rw [signed_eq, signed_eq, signed_eq, Nat.pow_add]
  have e : m * k * (2 ^ a * 2 ^ b) = (m * 2 ^ a) * (k * 2 ^ b) := by ac_rfl
  rw [e, Int.natCast_mul (m * 2 ^ a)]
  cases s <;> cases t <;> simp [Int.neg_mul, Int.mul_neg]

theorem prod_gen {s t : Bool} {m k : Nat} {i j x y : Int} (P : Nat) (hi : -(P : Int) ≤ i) (hj : -(P : Int) ≤ j)
    (hx : signed s m (i + P).toNat = x * 2 ^ P) (hy : signed t k (j + P).toNat = y * 2 ^ P) : signed (s ^^ t) (m * k) (i + j + (P + P : Nat)).toNat = x * y * 2 ^ (P + P) := by
  have e : (i + j + (P + P : Nat)).toNat = (i + P).toNat + (j + P).toNat := by omega
  rw [e, signed_mul, hx, hy, Int.pow_add]
  ac_rfl

theorem D1.product {d e : Datum} {x y : Int} (hd : D1 d x) (he : D1 e y) : ∃ r, d.product e = some r ∧ Dn r (x * y) := by
  obtain ⟨s, m, i, rfl, hi, hx⟩ := hd
  obtain ⟨t, k, j, rfl, hj, hy⟩ := he
  refine ⟨_, rfl, _, _, _, rfl, by omega, ?_⟩
  exact prod_gen 1074 hi hj hx hy

theorem cmp_scale (a b p : Int) (hp : 0 < p) : compare (a * p) (b * p) = compare a b := by
  rcases Int.lt_trichotomy a b with h | h | h
  · rw [Int.compare_eq_lt.2 h, Int.compare_eq_lt.2 (Int.mul_lt_mul_of_pos_right h hp)]
  · subst h; rw [Int.compare_eq_eq.2 rfl, Int.compare_eq_eq.2 rfl]
  · rw [Int.compare_eq_gt.2 h, Int.compare_eq_gt.2 (Int.mul_lt_mul_of_pos_right h hp)]

theorem order_gen {s t : Bool} {m k : Nat} {i j x y : Int} (P : Nat) (hi : -(P : Int) ≤ i) (hj : -(P : Int) ≤ j)
    (hx : signed s m (i + P).toNat = x * 2 ^ P) (hy : signed t k (j + P).toNat = y * 2 ^ P) :
    compare (signed s m (i - min i j).toNat) (signed t k (j - min i j).toNat) = compare x y := by
  rw [← cmp_scale _ _ (2 ^ (min i j + P).toNat) (pow_pos_int _), ← signed_up, ← signed_up]
  have e1 : (i - min i j).toNat + (min i j + P).toNat = (i + P).toNat := by omega
  have e2 : (j - min i j).toNat + (min i j + P).toNat = (j + P).toNat := by omega
  rw [e1, e2, hx, hy, cmp_scale _ _ _ (pow_pos_int _)]

theorem Fl.order {a b : Nat} {x y : Int} (ha : Fl a x) (hb : Fl b y) : double.order a b = some (compare x y) := by
  unfold Format.order
  obtain ⟨s, m, i, e1, hi, hx⟩ := ha
  obtain ⟨t, k, j, e2, hj, hy⟩ := hb
  rw [e1, e2]
  exact congrArg some (order_gen 1074 hi hj hx hy)

theorem cut_none (neg : Bool) (n : Nat) : Toward.even.cut neg n 0 = n := by
  simp [Toward.cut, Nat.mod_one]

theorem cut_exact (way : Toward) (neg : Bool) (q drop : Nat) (hq : 0 < q) : way.cut neg (q * 2 ^ drop) drop = q := by
  have hl : drop ≤ (q * 2 ^ drop).log2 := by
    have hne : q * 2 ^ drop ≠ 0 := Nat.ne_of_gt (Nat.mul_pos hq (Nat.two_pow_pos _))
    rw [Nat.le_log2 hne]
    exact Nat.le_mul_of_pos_left _ hq
  have hm : min drop ((q * 2 ^ drop).log2 + 2) = drop := by omega
  have hp := Nat.two_pow_pos drop
  cases way <;> simp [Toward.cut, hm, Nat.shiftLeft_eq, Nat.mul_div_cancel _ hp]
  all_goals omega

theorem kept_eq {m N L : Nat} {i : Int} (Z : Nat) (s : Bool) (hL : L ≤ 52) (hi : -(Z : Int) ≤ i) (h52 : 52 ≤ Z) (hN : N ≠ 0)
    (habs : m * 2 ^ (i + Z).toNat = N * 2 ^ Z) :
    Toward.even.cut s (m <<< (i - ((L : Int) - 52)).toNat) (((L : Int) - 52) - i).toNat = N * 2 ^ (52 - L) := by
  rcases (show i < (L : Int) - 52 ∨ (L : Int) - 52 ≤ i by omega) with hc | hc
  · have e0 : (i - ((L : Int) - 52)).toNat = 0 := by omega
    rw [e0, Nat.shiftLeft_zero]
    have e2 : Z = (52 - L) + ((((L : Int) - 52) - i).toNat + (i + Z).toNat) := by omega
    have e3 : N * 2 ^ Z = N * 2 ^ (52 - L) * 2 ^ (((L : Int) - 52) - i).toNat * 2 ^ (i + Z).toNat := by
      rw [Nat.mul_assoc, Nat.mul_assoc, ← Nat.pow_add, ← Nat.pow_add, ← e2]
    rw [e3] at habs
    have e4 := Nat.eq_of_mul_eq_mul_right (Nat.two_pow_pos _) habs
    rw [e4]
    exact cut_exact _ _ _ _ (Nat.mul_pos (Nat.pos_of_ne_zero hN) (Nat.two_pow_pos _))
  · have e0 : (((L : Int) - 52) - i).toNat = 0 := by omega
    rw [e0, cut_none, Nat.shiftLeft_eq]
    have e1 : (i + Z).toNat = (i - ((L : Int) - 52)).toNat + (Z - (52 - L)) := by omega
    have e2 : (52 - L) + (Z - (52 - L)) = Z := by omega
    rw [e1, Nat.pow_add, ← Nat.mul_assoc] at habs
    have e3 : N * 2 ^ Z = N * 2 ^ (52 - L) * 2 ^ (Z - (52 - L)) := by rw [Nat.mul_assoc, ← Nat.pow_add, e2]
    rw [e3] at habs
    exact Nat.eq_of_mul_eq_mul_right (Nat.two_pow_pos _) habs

theorem nearest_eq {m N L : Nat} {i : Int} (s : Bool) (hL : L ≤ 52) (hm : m ≠ 0) (hl : i + m.log2 = L) (hK2 : N * 2 ^ (52 - L) < 2 ^ 53)
    (hk : Toward.even.cut s (m <<< (i - ((L : Int) - 52)).toNat) (((L : Int) - 52) - i).toNat = N * 2 ^ (52 - L)) :
    double.nearest s m i = double.word s ((L + 1022) * 2 ^ 52 + N * 2 ^ (52 - L)) := by
  have hlast : max (i + m.log2 - 52) (-1074) = (L : Int) - 52 := by omega
  unfold Format.nearest
  rw [if_neg hm]
  have e1 : double.leastPlace = -1074 := by decide
  have e2 : ((double.fractionBits : Nat) : Int) = 52 := rfl
  have e3 : double.binade = 2 ^ 52 := rfl
  have e4 : double.infRung = 2047 * 2 ^ 52 := rfl
  simp only [e1, e2, e3, e4, hlast, hk]
  have e5 : ((L : Int) - 52 - -1074).toNat = L + 1022 := by omega
  rw [e5]
  generalize N * 2 ^ (52 - L) = K at *
  have e6 : (L + 1022) * 2 ^ 52 + K ≤ 2047 * 2 ^ 52 := by omega
  rw [Nat.min_eq_left e6]

theorem read_word (s : Bool) (L K : Nat) (hL : L ≤ 52) (hK1 : 2 ^ 52 ≤ K) (hK2 : K < 2 ^ 53) :
    double.read (double.word s ((L + 1022) * 2 ^ 52 + K)) = .number s K ((L : Int) - 52) := by
  unfold Format.read
  have e1 : double.leastPlace = -1074 := by decide
  have e3 : double.binade = 2 ^ 52 := rfl
  have e4 : double.infRung = 2047 * 2 ^ 52 := rfl
  have e5 : double.signWeight = 2 ^ 63 := rfl
  have r1 : double.word s ((L + 1022) * 2 ^ 52 + K) % 2 ^ 63 = (L + 1022) * 2 ^ 52 + K := by
    unfold Format.word; rw [e5]; split <;> omega
  have r2 : (double.word s ((L + 1022) * 2 ^ 52 + K) / 2 ^ 63 % 2 == 1) = s := by
    unfold Format.word; rw [e5]
    cases s
    · simp only [Bool.false_eq_true, if_false, beq_eq_false_iff_ne]; omega
    · simp only [if_true, beq_iff_eq]; omega
  simp only [e1, e3, e4, e5, r1, r2]
  rw [if_neg (by omega), if_pos (by omega)]
  have q1 : 2 ^ 52 + ((L + 1022) * 2 ^ 52 + K) % 2 ^ 52 = K := by omega
  have q2 : ((L + 1022) * 2 ^ 52 + K) / 2 ^ 52 - 1 = L + 1022 := by omega
  rw [q1, q2]
  have q3 : (-1074 : Int) + ((L + 1022 : Nat) : Int) = (L : Int) - 52 := by omega
  rw [q3]

theorem sign_of {s : Bool} {q : Nat} {n p : Int} (hp : 0 < p) (hq : 0 < q) (hv : (if s then -1 else 1) * (q : Int) = n * p) : (s = true ∧ n < 0) ∨ (s = false ∧ 0 < n) := by
  cases s
  · right
    refine ⟨rfl, ?_⟩
    simp only [Bool.false_eq_true, if_false, Int.one_mul] at hv
    rcases Int.lt_trichotomy n 0 with h | h | h
    · have := Int.mul_neg_of_neg_of_pos h hp; omega
    · subst h; rw [Int.zero_mul] at hv; omega
    · exact h
  · left
    refine ⟨rfl, ?_⟩
    simp only [if_true] at hv
    rcases Int.lt_trichotomy n 0 with h | h | h
    · exact h
    · subst h; rw [Int.zero_mul] at hv; omega
    · have := Int.mul_pos h hp; omega

theorem value_of {s : Bool} {N L : Nat} {n : Int} (P : Nat) (hP : P = 1074) (hL : L ≤ 52) (hN : n.natAbs = N) (hs : (s = true ∧ n < 0) ∨ (s = false ∧ 0 < n)) :
    signed s (N * 2 ^ (52 - L)) ((L : Int) - 52 + 1074).toNat = n * 2 ^ P := by
  rw [signed_eq]
  have e1 : ((L : Int) - 52 + 1074).toNat = L + 1022 := by omega
  rw [e1, Nat.mul_assoc, ← Nat.pow_add]
  have e2 : 52 - L + (L + 1022) = P := by omega
  rw [e2, Int.natCast_mul, Int.natCast_pow]
  have e3 : ((2 : Nat) : Int) = 2 := rfl
  rw [e3]
  rcases hs with ⟨rfl, hs⟩ | ⟨rfl, hs⟩
  · have : (N : Int) = - n := by omega
    rw [this]
    simp only [if_true]
    rw [Int.neg_mul, Int.one_mul, Int.neg_mul, Int.neg_neg]
  · have : (N : Int) = n := by omega
    rw [this]
    simp only [Bool.false_eq_true, if_false, Int.one_mul]

theorem write_zero (s : Bool) (i : Int) : double.read (double.nearest s 0 i) = .number s 0 (-1074) := by
  have e : double.nearest s 0 i = double.word s 0 := by simp [Format.nearest]
  rw [e]
  cases s <;> decide

/-- WHAT IS A WHOLE NUMBER BELOW 2^53 IS WRITTEN WITHOUT LOSS. -/
theorem write_gen {n : Int} (Z P : Nat) (hZ : Z = 2148) (hP : P = 1074) {s : Bool} {m : Nat} {i : Int} (hi : -(Z : Int) ≤ i)
    (hv : signed s m (i + Z).toNat = n * 2 ^ Z) (hn : n.natAbs < 2 ^ 53) :
    ∃ s' m' i', double.read (double.nearest s m i) = .number s' m' i' ∧ -1074 ≤ i' ∧ signed s' m' (i' + 1074).toNat = n * 2 ^ P := by
  have habs : m * 2 ^ (i + Z).toNat = n.natAbs * 2 ^ Z := by
    have := congrArg Int.natAbs hv
    rw [signed_natAbs, Int.natAbs_mul, Int.natAbs_pow] at this
    exact this
  by_cases hm : m = 0
  · subst hm
    have hn0 : n = 0 := by
      rw [Nat.zero_mul] at habs
      rcases Nat.mul_eq_zero.1 habs.symm with h | h
      · exact Int.natAbs_eq_zero.1 h
      · exact absurd h (Nat.ne_of_gt (Nat.two_pow_pos _))
    subst hn0
    refine ⟨s, 0, -1074, write_zero s i, Int.le_refl _, ?_⟩
    rw [signed_eq, Nat.zero_mul, Int.zero_mul]
    simp
  · have hN : n.natAbs ≠ 0 := by
      intro h
      rw [h, Nat.zero_mul] at habs
      rcases Nat.mul_eq_zero.1 habs with h | h
      · exact absurd h hm
      · exact absurd h (Nat.ne_of_gt (Nat.two_pow_pos _))
    have hl : m.log2 + (i + Z).toNat = n.natAbs.log2 + Z := by
      rw [← log2_mul_pow (i + Z).toNat hm, ← log2_mul_pow Z hN, habs]
    have hL : n.natAbs.log2 ≤ 52 := Nat.le_of_lt_succ ((Nat.log2_lt hN (k := 53)).2 hn)
    have ⟨hlo, hhi⟩ := (Nat.log2_eq_iff hN (k := n.natAbs.log2)).1 rfl
    have hs : (s = true ∧ n < 0) ∨ (s = false ∧ 0 < n) := by
      rw [signed_eq] at hv
      exact sign_of (pow_pos_int Z) (Nat.mul_pos (Nat.pos_of_ne_zero hm) (Nat.two_pow_pos _)) hv
    have hk := kept_eq Z s hL hi (by omega) hN habs
    clear hv habs
    generalize hLe : n.natAbs.log2 = L at *
    have hK1 : 2 ^ 52 ≤ n.natAbs * 2 ^ (52 - L) := by
      have : 2 ^ 52 = 2 ^ L * 2 ^ (52 - L) := by rw [← Nat.pow_add]; congr 1; omega
      rw [this]; exact Nat.mul_le_mul_right _ hlo
    have hK2 : n.natAbs * 2 ^ (52 - L) < 2 ^ 53 := by
      have : 2 ^ 53 = 2 ^ (L + 1) * 2 ^ (52 - L) := by rw [← Nat.pow_add]; congr 1; omega
      rw [this]; exact Nat.mul_lt_mul_of_pos_right hhi (Nat.two_pow_pos _)
    rw [nearest_eq s hL hm (by omega) hK2 hk]
    exact ⟨_, _, _, read_word s L _ hL hK1 hK2, by omega, value_of P hP hL rfl hs⟩

theorem write_exact {d : Datum} {n : Int} (h : Dn d n) (hn : n.natAbs < 2 ^ 53) : Fl (double.write d) n := by
  obtain ⟨s, m, i, rfl, hi, hv⟩ := h
  exact write_gen 2148 1074 rfl rfl hi hv hn

theorem cut_zero_place (way : Toward) (neg : Bool) (n : Nat) : way.cut neg n 0 = n := by
  cases way <;> simp [Toward.cut, Nat.mod_one]

theorem toInt_gen {s : Bool} {m : Nat} {i n : Int} (P : Nat) (hi : -(P : Int) ≤ i) (h : signed s m (i + P).toNat = n * 2 ^ P) :
    signed s (Toward.zero.cut s (m <<< i.toNat) (-i).toNat) 0 = n := by
  rcases (show 0 ≤ i ∨ i < 0 by omega) with hc | hc
  · have e0 : (-i).toNat = 0 := by omega
    rw [e0, cut_zero_place]
    have e1 : (i + P).toNat = i.toNat + P := by omega
    rw [e1, signed_up] at h
    have h2 := Int.eq_of_mul_eq_mul_right (Int.ne_of_gt (pow_pos_int P)) h
    rw [← h2]
    unfold signed
    rw [Nat.shiftLeft_zero]
  · have e0 : i.toNat = 0 := by omega
    rw [e0, Nat.shiftLeft_zero]
    have habs : m * 2 ^ (i + P).toNat = n.natAbs * 2 ^ P := by
      have := congrArg Int.natAbs h
      rw [signed_natAbs, Int.natAbs_mul, Int.natAbs_pow] at this
      exact this
    have e2 : P = (-i).toNat + (i + P).toNat := by omega
    have e3 : n.natAbs * 2 ^ P = n.natAbs * 2 ^ (-i).toNat * 2 ^ (i + P).toNat := by rw [Nat.mul_assoc, ← Nat.pow_add, ← e2]
    rw [e3] at habs
    have hm := Nat.eq_of_mul_eq_mul_right (Nat.two_pow_pos _) habs
    by_cases hn : n = 0
    · subst hn
      have : m = 0 := by rw [hm]; simp
      subst this
      have : Toward.zero.cut s 0 (-i).toNat = 0 := by simp [Toward.cut]
      rw [this]
      cases s <;> rfl
    · have hN : 0 < n.natAbs := Int.natAbs_pos.2 hn
      rw [hm, cut_exact _ _ _ _ hN]
      have hmp : 0 < m := by rw [hm]; exact Nat.mul_pos hN (Nat.two_pow_pos _)
      rw [signed_eq] at h
      rcases sign_of (pow_pos_int P) (Nat.mul_pos hmp (Nat.two_pow_pos _)) h with ⟨rfl, hs⟩ | ⟨rfl, hs⟩
      · rw [signed_eq]; simp only [if_true]; omega
      · rw [signed_eq]; simp only [Bool.false_eq_true, if_false]; omega

theorem Fl.toInt {b : Nat} {n : Int} (h : Fl b n) : (double.read b).toInt .zero = some n := by
  obtain ⟨s, m, i, e, hi, hx⟩ := h
  rw [e]
  exact congrArg some (toInt_gen 1074 hi hx)

theorem Fl.add {a b : Nat} {x y : Int} (ha : Fl a x) (hb : Fl b y) (hn : (x + y).natAbs < 2 ^ 53) : ∃ r, floatBits .add .f64 a b = some r ∧ Fl r (x + y) := by
  obtain ⟨r, h1, h2⟩ := D1.sum ha hb
  refine ⟨double.write r, ?_, write_exact h2 hn⟩
  show (Datum.sum (double.read a) (double.read b)).map double.write = _
  rw [h1]; rfl

theorem Fl.sub {a b : Nat} {x y : Int} (ha : Fl a x) (hb : Fl b y) (hn : (x - y).natAbs < 2 ^ 53) : ∃ r, floatBits .sub .f64 a b = some r ∧ Fl r (x - y) := by
  obtain ⟨r, h1, h2⟩ := D1.sum ha (D1.opp hb)
  refine ⟨double.write r, ?_, write_exact (n := x - y) (by rw [Int.sub_eq_add_neg]; exact h2) hn⟩
  show (Datum.sum (double.read a) (double.read b).opposite).map double.write = _
  rw [h1]; rfl

theorem Fl.mul {a b : Nat} {x y : Int} (ha : Fl a x) (hb : Fl b y) (hn : (x * y).natAbs < 2 ^ 53) : ∃ r, floatBits .mul .f64 a b = some r ∧ Fl r (x * y) := by
  obtain ⟨r, h1, h2⟩ := D1.product ha hb
  refine ⟨double.write r, ?_, write_exact h2 hn⟩
  show (Datum.product (double.read a) (double.read b)).map double.write = _
  rw [h1]; rfl

theorem fl_ofInt {n : Int} (hn : n.natAbs < 2 ^ 53) : Fl (floatOfInt .f64 n) n := by
  refine write_exact (d := .number (n < 0) n.natAbs 0) ⟨_, _, _, rfl, by decide, ?_⟩ hn
  have h := signed_sgn n false ((0 : Int) + 2148).toNat
  have e : (if n = 0 then false else decide (n < 0)) = decide (n < 0) := by
    split
    · rename_i h; subst h; rfl
    · rfl
  rw [e] at h
  exact h

theorem Fl.int {b : Nat} {n : Int} (h : Fl b n) (h1 : -9223372036854775808 ≤ n) (h2 : n ≤ 9223372036854775807) : floatToIntVal .f64 b .i64 = some n := by
  unfold floatToIntVal
  have e : (FloatKind.decode .f64 b).toInt .zero = some n := h.toInt
  rw [e]
  have e1 : IntKind.min .i64 = -9223372036854775808 := by decide
  have e2 : IntKind.max .i64 = 9223372036854775807 := by decide
  simp only [e1, e2, h1, h2, and_self, if_true]

theorem read_neg (b : Nat) : double.read (Op.negFloat .f64 b) = (double.read b).opposite := by
  have e : Op.negFloat .f64 b = b ^^^ 2 ^ 63 := rfl
  have e1 : double.signWeight = 2 ^ 63 := rfl
  have h1 : (b ^^^ 2 ^ 63) % 2 ^ 63 = b % 2 ^ 63 := by rw [Nat.xor_mod_two_pow]; simp
  have h2 : ((b ^^^ 2 ^ 63) / 2 ^ 63 % 2 == 1) = !(b / 2 ^ 63 % 2 == 1) := by
    rw [Nat.xor_div_two_pow]
    have : (2 : Nat) ^ 63 / 2 ^ 63 = 1 := by decide
    rw [this]
    have h3 : (b / 2 ^ 63 ^^^ 1) % 2 = (b / 2 ^ 63 % 2) ^^^ 1 := by
      have := Nat.xor_mod_two_pow (a := b / 2 ^ 63) (b := 1) (n := 1)
      simpa using this
    rw [h3]
    rcases Nat.mod_two_eq_zero_or_one (b / 2 ^ 63) with h | h <;> rw [h] <;> decide
  unfold Format.read
  rw [e, e1]
  simp only [h1, h2]
  split
  · rfl
  · split
    · rfl
    · split <;> rfl

theorem Fl.neg {b : Nat} {n : Int} (h : Fl b n) : Fl (Op.negFloat .f64 b) (-n) := by
  unfold Fl
  rw [read_neg]
  exact D1.opp h

theorem cSum_add {a b c d : Nat} {x y u v : Int} (h1 : Fl a x) (h2 : Fl b y) (h3 : Fl c u) (h4 : Fl d v) (n1 : (x + u).natAbs < 2 ^ 53) (n2 : (y + v).natAbs < 2 ^ 53) :
    ∃ re im, cSumBits .add .f64 a b c d = some (re, im) ∧ Fl re (x + u) ∧ Fl im (y + v) := by
  obtain ⟨r, e1, f1⟩ := h1.add h3 n1
  obtain ⟨i, e2, f2⟩ := h2.add h4 n2
  exact ⟨r, i, by simp [cSumBits, e1, e2], f1, f2⟩

theorem cSum_sub {a b c d : Nat} {x y u v : Int} (h1 : Fl a x) (h2 : Fl b y) (h3 : Fl c u) (h4 : Fl d v) (n1 : (x - u).natAbs < 2 ^ 53) (n2 : (y - v).natAbs < 2 ^ 53) :
    ∃ re im, cSumBits .sub .f64 a b c d = some (re, im) ∧ Fl re (x - u) ∧ Fl im (y - v) := by
  obtain ⟨r, e1, f1⟩ := h1.sub h3 n1
  obtain ⟨i, e2, f2⟩ := h2.sub h4 n2
  exact ⟨r, i, by simp [cSumBits, e1, e2], f1, f2⟩

theorem cMul_of {a b c d : Nat} {x y u v : Int} (h1 : Fl a x) (h2 : Fl b y) (h3 : Fl c u) (h4 : Fl d v)
    (n1 : (x * u).natAbs < 2 ^ 53) (n2 : (y * v).natAbs < 2 ^ 53) (n3 : (x * u - y * v).natAbs < 2 ^ 53)
    (n4 : (x * v).natAbs < 2 ^ 53) (n5 : (y * u).natAbs < 2 ^ 53) (n6 : (x * v + y * u).natAbs < 2 ^ 53) :
    ∃ re im, cMulBits a b c d = some (re, im) ∧ Fl re (x * u - y * v) ∧ Fl im (x * v + y * u) := by
  obtain ⟨ac, e1, f1⟩ := h1.mul h3 n1
  obtain ⟨bd, e2, f2⟩ := h2.mul h4 n2
  obtain ⟨re, e3, f3⟩ := f1.sub f2 n3
  obtain ⟨ad, e4, f4⟩ := h1.mul h4 n4
  obtain ⟨bc, e5, f5⟩ := h2.mul h3 n5
  obtain ⟨im, e6, f6⟩ := f4.add f5 n6
  exact ⟨re, im, by simp [cMulBits, e1, e2, e3, e4, e5, e6], f3, f6⟩

theorem natAbs_mul_lt {x y : Int} {a b c : Nat} (hx : x.natAbs ≤ a) (hy : y.natAbs ≤ b) (h : a * b < c) : (x * y).natAbs < c := by
  rw [Int.natAbs_mul]
  exact Nat.lt_of_le_of_lt (Nat.mul_le_mul hx hy) h

end Go.Proofs.YtkjhhooecopolaaGreatDoor

namespace Go.Proofs.YtkjhhooecopolaaGreatDoor.Ge

/-! Plain geometry over whole numbers: how often edges go around a point, by a ray straight down and by a ray upward. -/
abbrev Pt := Int × Int

/-- A point seen from n by d, made greater by d. -/
def rel (n : Pt) (d : Int) (a : Pt) : Pt := (d * a.1 - n.1, d * a.2 - n.2)
def cr (u v : Pt) : Int := u.1 * v.2 - u.2 * v.1
def dt (u v : Pt) : Int := u.1 * v.1 + u.2 * v.2
/-- The origin lies on the way from u to v. -/
def on (u v : Pt) : Bool := decide (cr u v = 0) && decide (dt u v ≤ 0)
/-- By the ray straight down. -/
def right (u v : Pt) : Int := if u.1 ≤ 0 ∧ 0 < v.1 ∧ 0 < cr u v then 1 else if 0 < u.1 ∧ v.1 ≤ 0 ∧ cr u v < 0 then -1 else 0
/-- By the ray upward. -/
def up (u v : Pt) : Int := if u.1 ≤ 0 ∧ 0 < v.1 ∧ cr u v < 0 then -1 else if v.1 ≤ 0 ∧ 0 < u.1 ∧ 0 < cr u v then 1 else 0
def q (u : Pt) : Int := if 0 < u.1 then 1 else 0

theorem mul_pp {a b : Int} (ha : 0 < a) (hb : 0 < b) : 0 < a * b := Int.mul_pos ha hb
theorem mul_np {a b : Int} (ha : a ≤ 0) (hb : 0 < b) : a * b ≤ 0 := Int.mul_nonpos_of_nonpos_of_nonneg ha (Int.le_of_lt hb)
theorem mul_pn {a b : Int} (ha : 0 < a) (hb : b ≤ 0) : a * b ≤ 0 := Int.mul_nonpos_of_nonneg_of_nonpos (Int.le_of_lt ha) hb
theorem mul_nn {a b : Int} (ha : a ≤ 0) (hb : b ≤ 0) : 0 ≤ a * b := Int.mul_nonneg_of_nonpos_of_nonpos ha hb

theorem dt_np {a b c d : Int} (h : a * d - b * c = 0) (ha : a ≤ 0) (hc : 0 < c) : a * c + b * d ≤ 0 := by
  have e : c * (a * c + b * d) = a * (c * c + d * d) := by
    have e1 : b * c = a * d := by omega
    calc c * (a * c + b * d) = a * (c * c) + d * (b * c) := by grind
      _ = a * (c * c + d * d) := by rw [e1]; grind
  have hq : 0 < c * c + d * d := by
    have h1 := Int.mul_pos hc hc
    have h2 : 0 ≤ d * d := by
      rcases Int.le_total 0 d with h | h
      · exact Int.mul_nonneg h h
      · exact Int.mul_nonneg_of_nonpos_of_nonpos h h
    omega
  have h3 := mul_np ha hq
  rw [← e] at h3
  rcases (show a * c + b * d ≤ 0 ∨ 0 < a * c + b * d by omega) with h4 | h4
  · exact h4
  · have := mul_pp hc h4
    omega

theorem step (u v : Pt) (h : on u v = false) : right u v - up u v = q v - q u := by
  obtain ⟨a, b⟩ := u
  obtain ⟨c, d⟩ := v
  have hon : ¬ (a * d - b * c = 0 ∧ a * c + b * d ≤ 0) := by
    rintro ⟨h1, h2⟩
    have : on (a, b) (c, d) = true := by simp only [on, cr, dt, h1, h2, decide_true, Bool.and_self]
    rw [this] at h
    cases h
  have k1 : ∀ (_ : a ≤ 0) (_ : 0 < c), a * d - b * c ≠ 0 := fun ha hc e => hon ⟨e, dt_np e ha hc⟩
  have k2 : ∀ (_ : 0 < a) (_ : c ≤ 0), a * d - b * c ≠ 0 := fun ha hc e => hon ⟨e, by
    have := dt_np (a := c) (b := d) (c := a) (d := b) (by grind) hc ha
    rw [Int.mul_comm c a, Int.mul_comm d b] at this
    exact this⟩
  simp only [right, up, q, cr]
  clear hon
  rcases (show a ≤ 0 ∨ 0 < a by omega) with ha | ha <;> rcases (show c ≤ 0 ∨ 0 < c by omega) with hc | hc
  · repeat' split
    all_goals omega
  · have := k1 ha hc
    repeat' split
    all_goals omega
  · have := k2 ha hc
    repeat' split
    all_goals omega
  · repeat' split
    all_goals omega

/-- The reference's way of asking: on the line, and each coordinate among those of the ends. -/
theorem on_iff (u v : Pt) : (on u v = true) ↔ cr u v = 0 ∧ u.1 * v.1 ≤ 0 ∧ u.2 * v.2 ≤ 0 := by
  obtain ⟨a, b⟩ := u
  obtain ⟨c, d⟩ := v
  simp only [on, cr, dt, Bool.and_eq_true]
  constructor
  · rintro ⟨h1', h2'⟩
    have h1 : a * d - b * c = 0 := of_decide_eq_true h1'
    have h2 : a * c + b * d ≤ 0 := of_decide_eq_true h2'
    clear h1' h2'
    refine ⟨h1, ?_⟩
    have hsq : (a * c) * (b * d) = (a * d) * (a * d) := by
      have e : b * c = a * d := by omega
      calc (a * c) * (b * d) = (a * d) * (b * c) := by ac_rfl
        _ = (a * d) * (a * d) := by rw [e]
    have hnn : 0 ≤ (a * c) * (b * d) := by
      rw [hsq]
      rcases Int.le_total 0 (a * d) with h | h
      · exact Int.mul_nonneg h h
      · exact Int.mul_nonneg_of_nonpos_of_nonpos h h
    generalize a * c = x at *
    generalize b * d = y at *
    rcases Int.lt_trichotomy x 0 with hx | hx | hx
    · refine ⟨by omega, ?_⟩
      rcases (show y ≤ 0 ∨ 0 < y by omega) with hy | hy
      · exact hy
      · have := Int.mul_neg_of_neg_of_pos hx hy; omega
    · subst hx; omega
    · exfalso
      have hy : y < 0 := by omega
      have := Int.mul_neg_of_neg_of_pos hy hx
      rw [Int.mul_comm] at this
      omega
  · rintro ⟨h1, h2, h3⟩
    have h4 : a * c + b * d ≤ 0 := Int.add_nonpos h2 h3
    exact ⟨decide_eq_true h1, decide_eq_true h4⟩

/-- The ways of a ring, the one from its last point to its first too. -/
def closing : List Pt → List (Pt × Pt)
  | [] => []
  | a :: r => (a :: r).zip (r ++ [a])
def edges (g : List Pt) : List (Pt × Pt) := (closing g).filter fun e => decide (e.1 ≠ e.2)
def allEdges (rg : List (List Pt)) : List (Pt × Pt) := rg.flatMap edges
def total (f : Pt → Pt → Int) (l : List (Pt × Pt)) : Int := (l.map fun e => f e.1 e.2).sum

theorem total_nil (f : Pt → Pt → Int) : total f [] = 0 := rfl
theorem total_cons (f : Pt → Pt → Int) (e : Pt × Pt) (l : List (Pt × Pt)) : total f (e :: l) = f e.1 e.2 + total f l := by simp [total]
theorem total_append (f : Pt → Pt → Int) (l k : List (Pt × Pt)) : total f (l ++ k) = total f l + total f k := by
  induction l with
  | nil => simp [total]
  | cons e l ih => rw [List.cons_append, total_cons, total_cons, ih]; omega

theorem total_diff (f g : Pt → Pt → Int) (k : Pt → Int) : ∀ (r : List Pt) (a z : Pt), (∀ p, p ∈ (a :: r).zip (r ++ [z]) → f p.1 p.2 - g p.1 p.2 = k p.2 - k p.1) →
    total f ((a :: r).zip (r ++ [z])) - total g ((a :: r).zip (r ++ [z])) = k z - k a
  | [], a, z, h => by
    have h1 := h (a, z) (by simp)
    simp only [List.nil_append, List.zip_cons_cons, List.zip_nil_left, total_cons, total_nil]
    simp only at h1
    omega
  | b :: r, a, z, h => by
    have h1 := h (a, b) (by simp)
    have h2 := total_diff f g k r b z (fun p hp => h p (by
      rw [List.cons_append, List.zip_cons_cons]
      exact List.mem_cons_of_mem _ hp))
    rw [List.cons_append, List.zip_cons_cons, total_cons, total_cons]
    simp only at h1 ⊢
    omega

theorem total_filter (f : Pt → Pt → Int) (hf : ∀ a, f a a = 0) (l : List (Pt × Pt)) : total f (l.filter fun e => decide (e.1 ≠ e.2)) = total f l := by
  induction l with
  | nil => rfl
  | cons e l ih =>
    rw [List.filter_cons]
    by_cases h : e.1 = e.2
    · rw [if_neg (by simp [h]), ih, total_cons, h, hf]; omega
    · rw [if_pos (by simp [h]), total_cons, total_cons, ih]

def fr (n : Pt) (d : Int) (a b : Pt) : Int := right (rel n d a) (rel n d b)
def fu (n : Pt) (d : Int) (a b : Pt) : Int := up (rel n d a) (rel n d b)
def fo (n : Pt) (d : Int) (e : Pt × Pt) : Bool := on (rel n d e.1) (rel n d e.2)

theorem fr_self (n : Pt) (d : Int) (a : Pt) : fr n d a a = 0 := by
  unfold fr right
  rw [if_neg (by omega), if_neg (by omega)]
theorem fu_self (n : Pt) (d : Int) (a : Pt) : fu n d a a = 0 := by
  unfold fu up
  rw [if_neg (by omega), if_neg (by omega)]

theorem ring_same (n : Pt) (d : Int) (g : List Pt) (h : ∀ e, e ∈ edges g → fo n d e = false) : total (fr n d) (edges g) = total (fu n d) (edges g) := by
  unfold edges at *
  rw [total_filter _ (fr_self n d), total_filter _ (fu_self n d)]
  cases g with
  | nil => rfl
  | cons a r =>
    have key := total_diff (fr n d) (fu n d) (fun p => q (rel n d p)) r a a (fun p hp => by
      by_cases he : p.1 = p.2
      · rw [he, fr_self, fu_self]; omega
      · exact step _ _ (h p (List.mem_filter.2 ⟨hp, by simp [he]⟩)))
    have e : closing (a :: r) = (a :: r).zip (r ++ [a]) := rfl
    rw [e]
    omega

/-- BOTH RAYS COUNT THE SAME. -/
theorem rays_same (n : Pt) (d : Int) : ∀ (rg : List (List Pt)), (∀ e, e ∈ allEdges rg → fo n d e = false) → total (fr n d) (allEdges rg) = total (fu n d) (allEdges rg)
  | [], _ => rfl
  | g :: rg, h => by
    have e : allEdges (g :: rg) = edges g ++ allEdges rg := List.flatMap_cons
    rw [e] at h ⊢
    rw [total_append, total_append, ring_same n d g (fun e he => h e (List.mem_append_left _ he)),
      rays_same n d rg (fun e he => h e (List.mem_append_right _ he))]

end Go.Proofs.YtkjhhooecopolaaGreatDoor.Ge
