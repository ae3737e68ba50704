import Derived.Test.YtkjhhooecopolaaGreatDoorKj19
namespace Go.Proofs.YtkjhhooecopolaaGreatDoor
open Go.RowKit

theorem sign_in (z : Int) : -1 ≤ z.sign ∧ z.sign ≤ 1 := by
  rcases Int.lt_trichotomy z 0 with h | h | h
  · rw [sign_neg' h]; decide
  · rw [h]; decide
  · rw [sign_pos' h]; decide

set_option maxRecDepth 100000 in
set_option maxHeartbeats 1000000 in
theorem among_any (N D a b : Int) (w : World) (hN : -10000000 ≤ N ∧ N ≤ 10000000) (hD : 0 < D ∧ D ≤ 1000000) (ha : small a) (hb : small b) :
    Calls Tryz.prog 134 #[.agg #[.int .i64 N, .int .i64 D], .int .i64 a, .int .i64 b] w
      fun e w' => e = .returned (.bool (decide ((N * 1 - a * D).sign * (N * 1 - b * D).sign ≤ 0))) ∧ Below w.heap.size w w' := by
  have m1 : -50000000 ≤ a * D ∧ a * D ≤ 50000000 := mul_in (a := 50) (b := 1000000) ha ⟨by omega, hD.2⟩
  have m2 : -50000000 ≤ b * D ∧ b * D ≤ 50000000 := mul_in (a := 50) (b := 1000000) hb ⟨by omega, hD.2⟩
  have H1 : Hid (∀ w1, Calls Tryz.prog 49 #[.agg #[.int .i64 N, .int .i64 D], .agg #[.int .i64 a, .int .i64 1]] w1 fun e w' => e = .returned (.int .i64 (N * 1 - a * D).sign) ∧ Below w1.heap.size w1 w') := fun w1 => fcmp_any N D a 1 _ _ w1 rfl rfl (by omega) (by omega)
  have H2 : Hid (∀ w1, Calls Tryz.prog 49 #[.agg #[.int .i64 N, .int .i64 D], .agg #[.int .i64 b, .int .i64 1]] w1 fun e w' => e = .returned (.int .i64 (N * 1 - b * D).sign) ∧ Below w1.heap.size w1 w') := fun w1 => fcmp_any N D b 1 _ _ w1 rfl rfl (by omega) (by omega)
  have s1 := sign_in (N * 1 - a * D)
  have s2 := sign_in (N * 1 - b * D)
  generalize (N * 1 - a * D).sign = S1 at *
  generalize (N * 1 - b * D).sign = S2 at *
  have hm : -1 ≤ S1 * S2 ∧ S1 * S2 ≤ 1 := mul_in (a := 1) (b := 1) s1 s2
  have hw : IntKind.i64.wrap (S1 * S2) = S1 * S2 := by rw [IntKind.wrap_i64]; omega
  clear m1 m2 hm s1 s2
  have hb0 : Below w.heap.size w (w.alloc (.cells #[.int .i64 N, .int .i64 D] 97)) := (Below.refl _ _).alloc (Nat.le_refl _) _
  go_enter Tryz.func134, Tryz.ntmps134
  go_wp2_with fail
  refine (H1.out _).mono ?_
  rintro e w1 ⟨rfl, hb1⟩
  have hE : w1.heap[w.heap.size]? = some (.cells #[.int .i64 N, .int .i64 D] 97 (0, 0)) := (hb1.block _ (by simp)).trans (heap_alloc_new _ _)
  have e0 : w1.cell? ⟨w.heap.size, 0, none⟩ = some (.int .i64 N) := cell_of' hE 0
  have e1 : w1.cell? ⟨w.heap.size, 1, none⟩ = some (.int .i64 D) := cell_of' hE 1
  have hbel := hb0.trans (hb1.mono hb0.size)
  clear hE hb1 hb0
  go_wp2_with fail
  refine (H2.out _).mono ?_
  rintro e w2 ⟨rfl, hb2⟩
  go_wp2_with fail
  go_ret
  exact ⟨rfl, hbel.trans (hb2.mono hbel.size)⟩

/-- The point x by d, y by d, as the reference lays it. -/
structure PtOf (XN XD YN YD x y d : Int) : Prop where
  inn : PtIn XN XD YN YD
  ex : ∃ g, 0 < g ∧ x = g * XN ∧ d = g * XD
  ey : ∃ g, 0 < g ∧ y = g * YN ∧ d = g * YD

theorem sign_le {z : Int} : z.sign ≤ 0 ↔ z ≤ 0 := by
  rcases Int.lt_trichotomy z 0 with h | h | h
  · rw [sign_neg' h]; omega
  · rw [h]; decide
  · rw [sign_pos' h]; omega
theorem sign_zero_iff {z : Int} : z.sign = 0 ↔ z = 0 := Int.sign_eq_zero_iff_zero

/-- What holds asks, by the plain meaning. -/
theorem holds_plain {XN XD YN YD x y d : Int} (h : PtOf XN XD YN YD x y d) (a b : Int × Int) :
    (decide (((b.1 - a.1) * (YN - a.2 * YD) * XD - (b.2 - a.2) * (XN - a.1 * XD) * YD).sign = 0) &&
      decide ((XN * 1 - a.1 * XD).sign * (XN * 1 - b.1 * XD).sign ≤ 0) && decide ((YN * 1 - a.2 * YD).sign * (YN * 1 - b.2 * YD).sign ≤ 0)) = Ge.fo (x, y) d (a, b) := by
  obtain ⟨_, ⟨g1, p1, h1, h2⟩, g2, p2, h3, h4⟩ := h
  rw [Ge.side_sign a b h1 h2 h3 h4 p1 p2, Ge.cmp_sign h1 h2 p1, Ge.cmp_sign h1 h2 p1, Ge.cmp_sign h3 h4 p2, Ge.cmp_sign h3 h4 p2, Int.neg_mul_neg, Int.neg_mul_neg, ← Int.sign_mul, ← Int.sign_mul]
  rw [Bool.eq_iff_iff]
  unfold Ge.fo
  rw [Ge.on_iff]
  simp only [Bool.and_eq_true, decide_eq_true_eq, sign_le, sign_zero_iff, Ge.rel, and_assoc]

end Go.Proofs.YtkjhhooecopolaaGreatDoor

namespace Go.Proofs.YtkjhhooecopolaaGreatDoor
open Go.RowKit

def edA (e : (Int × Int) × (Int × Int)) : Array Value := #[.int .i64 e.1.1, .int .i64 e.1.2, .int .i64 e.2.1, .int .i64 e.2.2]
def poA (XN XD YN YD : Int) : Array Value := #[.int .i64 XN, .int .i64 XD, .int .i64 YN, .int .i64 YD]
structure smallE (e : (Int × Int) × (Int × Int)) : Prop where
  a : small e.1.1
  b : small e.1.2
  c : small e.2.1
  d : small e.2.2

set_option maxRecDepth 100000 in
set_option maxHeartbeats 1000000 in
theorem rholds_any (ed : (Int × Int) × (Int × Int)) (XN XD YN YD x y dd : Int) (w : World) (he : smallE ed) (hp : PtOf XN XD YN YD x y dd) :
    Calls Tryz.prog 80 #[.agg (edA ed), .agg (poA XN XD YN YD)] w fun e w' => e = .returned (.bool (Ge.fo (x, y) dd ed)) ∧ Below w.heap.size w w' := by
  obtain ⟨⟨a, b⟩, c, d⟩ := ed
  obtain ⟨ha, hb, hc, hd⟩ := he
  simp only at ha hb hc hd
  have hpl := holds_plain hp (a, b) (c, d)
  simp only [edA, poA]
  rw [← hpl]
  have HS : Hid (∀ w1, Calls Tryz.prog 133 #[.agg #[.int .i64 a, .int .i64 b, .int .i64 c, .int .i64 d], .agg #[.int .i64 XN, .int .i64 XD, .int .i64 YN, .int .i64 YD]] w1
      fun e w' => e = .returned (.int .i64 ((c - a) * (YN - b * YD) * XD - (d - b) * (XN - a * XD) * YD).sign) ∧ Below w1.heap.size w1 w') := fun w1 => side_any a b c d XN XD YN YD w1 ha hb hc hd hp.inn
  have HX : Hid (∀ w1, Calls Tryz.prog 134 #[.agg #[.int .i64 XN, .int .i64 XD], .int .i64 a, .int .i64 c] w1
      fun e w' => e = .returned (.bool (decide ((XN * 1 - a * XD).sign * (XN * 1 - c * XD).sign ≤ 0))) ∧ Below w1.heap.size w1 w') := fun w1 => among_any XN XD a c w1 hp.inn.xn hp.inn.xd ha hc
  have HY : Hid (∀ w1, Calls Tryz.prog 134 #[.agg #[.int .i64 YN, .int .i64 YD], .int .i64 b, .int .i64 d] w1
      fun e w' => e = .returned (.bool (decide ((YN * 1 - b * YD).sign * (YN * 1 - d * YD).sign ≤ 0))) ∧ Below w1.heap.size w1 w') := fun w1 => among_any YN YD b d w1 hp.inn.yn hp.inn.yd hb hd
  generalize ((c - a) * (YN - b * YD) * XD - (d - b) * (XN - a * XD) * YD).sign = S at *
  generalize decide ((XN * 1 - a * XD).sign * (XN * 1 - c * XD).sign ≤ 0) = BX at *
  generalize decide ((YN * 1 - b * YD).sign * (YN * 1 - d * YD).sign ≤ 0) = BY at *
  clear hpl hp ha hb hc hd
  generalize hBS : decide (S = 0) = BS
  have hBS' : (S == 0) = BS := by rw [← hBS]; rfl
  go_enter Tryz.func80, Tryz.ntmps80
  have hE : ((w.alloc (.cells #[.int .i64 a, .int .i64 b, .int .i64 c, .int .i64 d] 151)).alloc (.cells #[.int .i64 XN, .int .i64 XD, .int .i64 YN, .int .i64 YD] 100)).heap[w.heap.size]? = some (.cells #[.int .i64 a, .int .i64 b, .int .i64 c, .int .i64 d] 151 (0, 0)) := by
    rw [Below.heap_alloc _ _ _ (by simp)]; exact heap_alloc_new _ _
  have hP : ((w.alloc (.cells #[.int .i64 a, .int .i64 b, .int .i64 c, .int .i64 d] 151)).alloc (.cells #[.int .i64 XN, .int .i64 XD, .int .i64 YN, .int .i64 YD] 100)).heap[w.heap.size + 1]? = some (.cells #[.int .i64 XN, .int .i64 XD, .int .i64 YN, .int .i64 YD] 100 (0, 0)) := by
    have := heap_alloc_new (w.alloc (.cells #[.int .i64 a, .int .i64 b, .int .i64 c, .int .i64 d] 151)) (.cells #[.int .i64 XN, .int .i64 XD, .int .i64 YN, .int .i64 YD] 100)
    simpa using this
  have hb0 : Below w.heap.size w ((w.alloc (.cells #[.int .i64 a, .int .i64 b, .int .i64 c, .int .i64 d] 151)).alloc (.cells #[.int .i64 XN, .int .i64 XD, .int .i64 YN, .int .i64 YD] 100)) := ((Below.refl _ _).alloc (Nat.le_refl _) _).alloc (by simp) _
  have hsz : w.heap.size + 2 = ((w.alloc (.cells #[.int .i64 a, .int .i64 b, .int .i64 c, .int .i64 d] 151)).alloc (.cells #[.int .i64 XN, .int .i64 XD, .int .i64 YN, .int .i64 YD] 100)).heap.size := by simp
  go_wp2_with fail
  generalize ((w.alloc (.cells #[.int .i64 a, .int .i64 b, .int .i64 c, .int .i64 d] 151)).alloc (.cells #[.int .i64 XN, .int .i64 XD, .int .i64 YN, .int .i64 YD] 100)) = W at *
  refine (HS.out _).mono ?_
  rintro e w1 ⟨rfl, hb1⟩
  have hE1 := (hb1.block _ (show w.heap.size < W.heap.size by omega)).trans hE
  have hP1 := (hb1.block _ (show w.heap.size + 1 < W.heap.size by omega)).trans hP
  have x0 : w1.cell? ⟨w.heap.size, 0, none⟩ = some (.int .i64 a) := cell_of' hE1 0
  have x2 : w1.cell? ⟨w.heap.size, 2, none⟩ = some (.int .i64 c) := cell_of' hE1 2
  have p0 : w1.cell? ⟨w.heap.size + 1, 0, none⟩ = some (.int .i64 XN) := cell_of' hP1 0
  have p1 : w1.cell? ⟨w.heap.size + 1, 1, none⟩ = some (.int .i64 XD) := cell_of' hP1 1
  have hs1 := hb1.size
  go_wp2_with fail
  refine (HX.out _).mono ?_
  rintro e w2 ⟨rfl, hb2⟩
  have hE2 := (hb2.block _ (show w.heap.size < w1.heap.size by omega)).trans hE1
  have hP2 := (hb2.block _ (show w.heap.size + 1 < w1.heap.size by omega)).trans hP1
  have y1 : w2.cell? ⟨w.heap.size, 1, none⟩ = some (.int .i64 b) := cell_of' hE2 1
  have y3 : w2.cell? ⟨w.heap.size, 3, none⟩ = some (.int .i64 d) := cell_of' hE2 3
  have p2 : w2.cell? ⟨w.heap.size + 1, 2, none⟩ = some (.int .i64 YN) := cell_of' hP2 2
  have p3 : w2.cell? ⟨w.heap.size + 1, 3, none⟩ = some (.int .i64 YD) := cell_of' hP2 3
  have hs2 := hb2.size
  go_wp2_with fail
  refine (HY.out _).mono ?_
  rintro e w3 ⟨rfl, hb3⟩
  have hbel : Below w.heap.size w w3 := ((hb0.trans (hb1.mono (by omega))).trans (hb2.mono (by omega))).trans (hb3.mono (by omega))
  clear hE hP hE1 hP1 hE2 hP2 hb0 hb1 hb2 hb3
  cases BS <;> cases BX
  all_goals
    go_wp2_with fail
    go_ret
    exact ⟨ret_bool (by simp), hbel⟩

end Go.Proofs.YtkjhhooecopolaaGreatDoor

namespace Go.Proofs.YtkjhhooecopolaaGreatDoor
open Go.RowKit

abbrev Ed := (Int × Int) × (Int × Int)
def edRow (l : List Ed) : List Value := l.flatMap fun e => (edA e).toList
def RdEdges (w : World) (v : Value) (l : List Ed) : Prop := w.ownsRow 0 151 4 v l.length (edRow l)

theorem edRow_get : ∀ (l : List Ed) (k : Nat) (e : Ed), l[k]? = some e → ∀ j, j < 4 → (edRow l)[k * 4 + j]? = (edA e)[j]?
  | [], _, _, h, _, _ => by simp at h
  | q :: r, 0, e, h, j, hj => by
    simp at h
    subst h
    have e1 : edRow (q :: r) = (edA q).toList ++ edRow r := by simp [edRow]
    rw [e1, List.getElem?_append_left (by simp [edA]; omega)]
    simp
  | q :: r, k + 1, e, h, j, hj => by
    have ih := edRow_get r k e (by simpa using h) j hj
    have e1 : edRow (q :: r) = (edA q).toList ++ edRow r := by simp [edRow]
    rw [e1, List.getElem?_append_right (by simp [edA]; omega)]
    have e2 : (k + 1) * 4 + j - (edA q).toList.length = k * 4 + j := by simp [edA]; omega
    rw [e2, ih]

theorem own_get' {w : World} {e : TypeId} {size : Nat} {v : Value} {n : Nat} {xs : List Value} (h : w.ownsRow 0 e size v n xs) {o : Nat} {u : Value} (hu : xs[o]? = some u) :
    ∃ b cap, v = .slice (some ⟨b, 0, none⟩) n cap ∧ b < w.heap.size ∧ ∀ o' u', xs[o']? = some u' → w.cell? ⟨b, o', none⟩ = some u' := by
  obtain ⟨h1, h2⟩ := h
  rcases h2 with ⟨_, h0⟩ | ⟨b, cap, cur, hv, _, hb, _, _, _, ht⟩
  · rw [h0, Nat.zero_mul] at h1
    rw [List.length_eq_zero_iff.1 h1] at hu
    simp at hu
  · refine ⟨b, cap, hv, ?_, fun o' u' hu' => ?_⟩
    · rcases Nat.lt_or_ge b w.heap.size with h1 | h1
      · exact h1
      · rw [Array.getElem?_eq_none h1] at hb; cases hb
    rw [cell_of' hb o', ← Array.getElem?_toList]
    rw [← ht, List.getElem?_take] at hu'
    split at hu'
    · exact hu'
    · cases hu'

theorem rdEdges_slice {w : World} {v : Value} {l : List Ed} (h : RdEdges w v l) : ∃ so cap, v = .slice so l.length cap := by
  rcases h.2 with ⟨hv, h0⟩ | ⟨b, cap, cur, hv, _⟩
  · exact ⟨none, 0, by rw [hv, h0]⟩
  · exact ⟨_, cap, hv⟩

theorem rdEdges_get {w : World} {so : Option Addr} {n cap : Nat} {l : List Ed} (h : RdEdges w (.slice so n cap) l) {k : Nat} {e : Ed} (he : l[k]? = some e) :
    ∃ b, so = some ⟨b, 0, none⟩ ∧ b < w.heap.size ∧ w.cell? ⟨b, k * 4, none⟩ = some (.int .i64 e.1.1) ∧ w.cell? ⟨b, k * 4 + 1, none⟩ = some (.int .i64 e.1.2) ∧ w.cell? ⟨b, k * 4 + 2, none⟩ = some (.int .i64 e.2.1) ∧ w.cell? ⟨b, k * 4 + 3, none⟩ = some (.int .i64 e.2.2) := by
  have g := edRow_get l k e he
  obtain ⟨b, c, hv, hb, hc⟩ := own_get' h (g 0 (by omega))
  injection hv with hv
  exact ⟨b, hv, hb, hc _ _ (g 0 (by omega)), hc _ _ (g 1 (by omega)), hc _ _ (g 2 (by omega)), hc _ _ (g 3 (by omega))⟩

theorem total_take (f : Ge.Pt → Ge.Pt → Int) {l : List Ed} {k : Nat} {e : Ed} (he : l[k]? = some e) : Ge.total f (l.take (k + 1)) = Ge.total f (l.take k) + f e.1 e.2 := by
  obtain ⟨hlt, he'⟩ := List.getElem?_eq_some_iff.1 he
  have e1 : l.take (k + 1) = l.take k ++ [e] := by rw [List.take_succ_eq_append_getElem hlt, he']
  rw [e1, Ge.total_append, Ge.total_cons, Ge.total_nil]
  omega

theorem total_in (f : Ge.Pt → Ge.Pt → Int) (hf : ∀ a b, -1 ≤ f a b ∧ f a b ≤ 1) : ∀ l : List Ed, -(l.length : Int) ≤ Ge.total f l ∧ Ge.total f l ≤ l.length
  | [] => by simp [Ge.total]
  | e :: l => by
    have ih := total_in f hf l
    have h1 := hf e.1 e.2
    rw [Ge.total_cons]
    simp only [List.length_cons]
    omega

theorem fu_in (n : Ge.Pt) (d : Int) (a b : Ge.Pt) : -1 ≤ Ge.fu n d a b ∧ Ge.fu n d a b ≤ 1 := by
  unfold Ge.fu Ge.up
  split
  · decide
  · split <;> decide
theorem fr_in (n : Ge.Pt) (d : Int) (a b : Ge.Pt) : -1 ≤ Ge.fr n d a b ∧ Ge.fr n d a b ≤ 1 := by
  unfold Ge.fr Ge.right
  split
  · decide
  · split <;> decide

theorem tri_sign (z : Int) : (z.sign = -1 ∧ z < 0) ∨ (z.sign = 0 ∧ z = 0) ∨ (z.sign = 1 ∧ 0 < z) := by
  rcases Int.lt_trichotomy z 0 with h | h | h
  · exact Or.inl ⟨sign_neg' h, h⟩
  · exact Or.inr (Or.inl ⟨by rw [h]; rfl, h⟩)
  · exact Or.inr (Or.inr ⟨sign_pos' h, h⟩)

theorem over_core (u v C A B S DX dDX : Int) (hA : -u.sign = A) (hB : -v.sign = B) (hS : C.sign = S) (k2 : 0 < DX ↔ 0 < dDX) (k3 : DX < 0 ↔ dDX < 0) (k1 : dDX = v - u) :
    (if u ≤ 0 ∧ 0 < v ∧ C < 0 then (-1 : Int) else if v ≤ 0 ∧ 0 < u ∧ 0 < C then 1 else 0) = (if DX > 0 ∧ A ≥ 0 ∧ B < 0 ∧ S < 0 then -1 else 0) + (if DX < 0 ∧ B ≥ 0 ∧ A < 0 ∧ S > 0 then 1 else 0) := by
  have tA := tri_sign u
  have tB := tri_sign v
  have tC := tri_sign C
  repeat' split
  all_goals omega

/-- What a round of over adds, by the signs that it asks. -/
theorem over_step {XN XD YN YD x y d : Int} (h : PtOf XN XD YN YD x y d) (e : Ed) (hd : 0 < d) (A B S DX : Int) (hA : (XN * 1 - e.1.1 * XD).sign = A) (hB : (XN * 1 - e.2.1 * XD).sign = B)
    (hS : ((e.2.1 - e.1.1) * (YN - e.1.2 * YD) * XD - (e.2.2 - e.1.2) * (XN - e.1.1 * XD) * YD).sign = S) (hDX : e.2.1 - e.1.1 = DX) :
    Ge.fu (x, y) d e.1 e.2 = (if DX > 0 ∧ A ≥ 0 ∧ B < 0 ∧ S < 0 then -1 else 0) + (if DX < 0 ∧ B ≥ 0 ∧ A < 0 ∧ S > 0 then 1 else 0) := by
  obtain ⟨_, ⟨g1, p1, h1, h2⟩, g2, p2, h3, h4⟩ := h
  rw [Ge.side_sign e.1 e.2 h1 h2 h3 h4 p1 p2] at hS
  rw [Ge.cmp_sign h1 h2 p1] at hA hB
  obtain ⟨⟨a1, a2⟩, b1, b2⟩ := e
  simp only [Ge.fu, Ge.up, Ge.rel] at *
  have k1 : d * b1 - d * a1 = d * DX := by rw [← hDX, Int.mul_sub]
  have k2 : 0 < DX ↔ 0 < d * DX := by
    constructor
    · exact fun h => Int.mul_pos hd h
    · intro h
      rcases (show DX ≤ 0 ∨ 0 < DX by omega) with h' | h'
      · have := Int.mul_nonpos_of_nonneg_of_nonpos (Int.le_of_lt hd) h'; omega
      · exact h'
  have k3 : DX < 0 ↔ d * DX < 0 := by
    constructor
    · exact fun h => Int.mul_neg_of_pos_of_neg hd h
    · intro h
      rcases (show 0 ≤ DX ∨ DX < 0 by omega) with h' | h'
      · have := Int.mul_nonneg (Int.le_of_lt hd) h'; omega
      · exact h'
  exact over_core _ _ _ _ _ _ _ _ hA hB hS k2 k3 (by rw [← k1]; omega)

end Go.Proofs.YtkjhhooecopolaaGreatDoor
