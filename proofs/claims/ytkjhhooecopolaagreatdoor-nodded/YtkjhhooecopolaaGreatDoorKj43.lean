import Derived.Test.YtkjhhooecopolaaGreatDoorKj42
import Derived.Test.YtkjhhooecopolaaGreatDoorKj34
namespace Go.Proofs.YtkjhhooecopolaaGreatDoor
open Go.RowKit

namespace Ge
/-- What the nodes are: where edges begin and end, and where two that are not parallel meet. -/
def isNode (l : List (Pt × Pt)) (q : Qt) : Prop :=
  (∃ e ∈ l, q = pt e.1 ∨ q = pt e.2) ∨ ∃ e ∈ l, ∃ f ∈ l, crE e f ≠ 0 ∧ q = meetP e f ∧ hq (meetP e f) e = true ∧ hq (meetP e f) f = true

theorem insAll_mem : ∀ (c acc : List Qt), (∀ q ∈ acc, RedP q) → (∀ q ∈ c, RedP q) → ∀ r, r ∈ insAll acc c ↔ r ∈ acc ∨ r ∈ c
  | [], acc, _, _, r => by simp [insAll]
  | q :: c, acc, ha, hc, r => by
    have hq := hc q (by simp)
    have e : insAll acc (q :: c) = insAll (ins q acc) c := rfl
    rw [e, insAll_mem c (ins q acc) (ins_red hq ha) (fun x hx => hc x (by simp [hx])) r, ins_mem hq ha r, List.mem_cons]
    constructor
    · rintro ((h | h) | h)
      · exact Or.inr (Or.inl h)
      · exact Or.inl h
      · exact Or.inr (Or.inr h)
    · rintro (h | h | h)
      · exact Or.inl (Or.inr h)
      · exact Or.inl (Or.inl h)
      · exact Or.inr h

/-- What one edge adds to another's points. -/
def adds (e f : Pt × Pt) (r : Qt) : Prop :=
  (crE e f ≠ 0 ∧ r = meetP e f ∧ hq (meetP e f) e = true ∧ hq (meetP e f) f = true) ∨ (crE e f = 0 ∧ ((r = pt f.1 ∧ hq (pt f.1) e = true) ∨ (r = pt f.2 ∧ hq (pt f.2) e = true)))

theorem stepC_mem {e f : Pt × Pt} {o : List Qt} (ho : ∀ q ∈ o, RedP q) : (∀ q ∈ stepC e o f, RedP q) ∧ ∀ r, r ∈ stepC e o f ↔ r ∈ o ∨ adds e f r := by
  unfold stepC adds
  by_cases hc : crE e f = 0
  · rw [if_pos hc]
    dsimp only
    have h1 := ins_mem (pt_red f.1) ho
    have r1 := ins_red (pt_red f.1) ho
    by_cases a : hq (pt f.1) e = true
    · rw [if_pos a]
      have h2 := ins_mem (pt_red f.2) r1
      by_cases b : hq (pt f.2) e = true
      · rw [if_pos b]
        refine ⟨ins_red (pt_red f.2) r1, fun r => ?_⟩
        rw [h2, h1]
        simp only [hc, a, b, ne_eq, not_true_eq_false, false_and, and_true, true_and, false_or]
        constructor
        · rintro (h | h | h)
          · exact Or.inr (Or.inr h)
          · exact Or.inr (Or.inl h)
          · exact Or.inl h
        · rintro (h | h | h)
          · exact Or.inr (Or.inr h)
          · exact Or.inr (Or.inl h)
          · exact Or.inl h
      · rw [if_neg b]
        refine ⟨r1, fun r => ?_⟩
        rw [h1]
        grind
    · rw [if_neg a]
      have h2 := ins_mem (pt_red f.2) ho
      by_cases b : hq (pt f.2) e = true
      · rw [if_pos b]
        refine ⟨ins_red (pt_red f.2) ho, fun r => ?_⟩
        rw [h2]
        grind
      · rw [if_neg b]
        refine ⟨ho, fun r => ?_⟩
        simp [hc, a, b]
  · rw [if_neg hc]
    have h1 := ins_mem (meet_red hc) ho
    by_cases a : (hq (meetP e f) e && hq (meetP e f) f) = true
    · rw [if_pos a]
      obtain ⟨a1, a2⟩ := (Bool.and_eq_true_iff).1 a
      refine ⟨ins_red (meet_red hc) ho, fun r => ?_⟩
      rw [h1]
      simp only [hc, a1, a2, ne_eq, not_false_eq_true, and_true, true_and, false_and, or_false]
      exact ⟨fun h => h.symm, fun h => h.symm⟩
    · rw [if_neg a]
      refine ⟨ho, fun r => ?_⟩
      constructor
      · exact Or.inl
      · rintro (h | ⟨_, _, h1, h2⟩ | ⟨h, _⟩)
        · exact h
        · exact absurd (by rw [h1, h2]; rfl) a
        · exact absurd h hc

theorem foldC_mem (e : Pt × Pt) : ∀ (l : List (Pt × Pt)) (o : List Qt), (∀ q ∈ o, RedP q) → (∀ q ∈ l.foldl (stepC e) o, RedP q) ∧ ∀ r, r ∈ l.foldl (stepC e) o ↔ r ∈ o ∨ ∃ f ∈ l, adds e f r
  | [], o, ho => ⟨ho, fun r => by simp⟩
  | f :: l, o, ho => by
    obtain ⟨h1, h2⟩ := stepC_mem (e := e) (f := f) ho
    obtain ⟨h3, h4⟩ := foldC_mem e l (stepC e o f) h1
    refine ⟨h3, fun r => ?_⟩
    rw [List.foldl_cons, h4, h2]
    constructor
    · rintro ((h | h) | ⟨g, hg, h⟩)
      · exact Or.inl h
      · exact Or.inr ⟨f, by simp, h⟩
      · exact Or.inr ⟨g, by simp [hg], h⟩
    · rintro (h | ⟨g, hg, h⟩)
      · exact Or.inl (Or.inl h)
      · rcases List.mem_cons.1 hg with e' | e'
        · subst e'; exact Or.inl (Or.inr h)
        · exact Or.inr ⟨g, e', h⟩
theorem cutsL_mem (l : List (Pt × Pt)) (e : Pt × Pt) : (∀ q ∈ cutsL l e, RedP q) ∧ ∀ r, r ∈ cutsL l e ↔ r = pt e.1 ∨ r = pt e.2 ∨ ∃ f ∈ l, adds e f r := by
  have h0 : ∀ q ∈ ([] : List Qt), RedP q := fun q h => by simp at h
  have h1 := ins_red (pt_red e.1) h0
  have h2 := ins_red (pt_red e.2) h1
  obtain ⟨h3, h4⟩ := foldC_mem e l _ h2
  refine ⟨h3, fun r => ?_⟩
  unfold cutsL
  rw [h4, ins_mem (pt_red e.2) h1, ins_mem (pt_red e.1) h0]
  constructor
  · rintro ((h | h | h) | h)
    · exact Or.inr (Or.inl h)
    · exact Or.inl h
    · simp at h
    · exact Or.inr (Or.inr h)
  · rintro (h | h | h)
    · exact Or.inl (Or.inr (Or.inl h))
    · exact Or.inl (Or.inl h)
    · exact Or.inr h
theorem foldN_mem (L : List (Pt × Pt)) : ∀ (l : List (Pt × Pt)) (acc : List Qt), (∀ q ∈ acc, RedP q) → Asc acc →
    (∀ q ∈ l.foldl (fun acc e => insAll acc (cutsL L e)) acc, RedP q) ∧ Asc (l.foldl (fun acc e => insAll acc (cutsL L e)) acc) ∧ ∀ r, r ∈ l.foldl (fun acc e => insAll acc (cutsL L e)) acc ↔ r ∈ acc ∨ ∃ e ∈ l, r ∈ cutsL L e
  | [], acc, h, ha => ⟨h, ha, fun r => by simp⟩
  | e :: l, acc, h, ha => by
    have hc := (cutsL_mem L e).1
    have hm := insAll_mem (cutsL L e) acc h hc
    have hr : ∀ q ∈ insAll acc (cutsL L e), RedP q := fun q hq => by
      rcases (hm q).1 hq with k | k
      · exact h q k
      · exact hc q k
    have has : Asc (insAll acc (cutsL L e)) := by
      clear hm hr
      generalize cutsL L e = c at hc
      induction c generalizing acc with
      | nil => exact ha
      | cons q c ih =>
        have hq := hc q (by simp)
        exact ih (ins q acc) (ins_red hq h) (ins_asc hq h ha) (fun x hx => hc x (by simp [hx]))
    obtain ⟨h1, h2, h3⟩ := foldN_mem L l (insAll acc (cutsL L e)) hr has
    refine ⟨h1, h2, fun r => ?_⟩
    rw [List.foldl_cons, h3, hm]
    constructor
    · rintro ((k | k) | ⟨g, hg, k⟩)
      · exact Or.inl k
      · exact Or.inr ⟨e, by simp, k⟩
      · exact Or.inr ⟨g, by simp [hg], k⟩
    · rintro (k | ⟨g, hg, k⟩)
      · exact Or.inl (Or.inl k)
      · rcases List.mem_cons.1 hg with e' | e'
        · subst e'; exact Or.inl (Or.inr k)
        · exact Or.inr ⟨g, e', k⟩
/-- THE REFERENCE's LIST IS THE ONE ASCENDING LIST OF THE NODES. -/
theorem nodesL_spec (l : List (Pt × Pt)) : (∀ q ∈ nodesL l, RedP q) ∧ Asc (nodesL l) ∧ ∀ r, r ∈ nodesL l ↔ isNode l r := by
  obtain ⟨h1, h2, h3⟩ := foldN_mem l l [] (fun q h => by simp at h) List.Pairwise.nil
  refine ⟨h1, h2, fun r => ?_⟩
  unfold nodesL
  rw [h3]
  unfold isNode
  constructor
  · rintro (h | ⟨e, he, h⟩)
    · simp at h
    · rcases ((cutsL_mem l e).2 r).1 h with h | h | ⟨f, hf, h⟩
      · exact Or.inl ⟨e, he, Or.inl h⟩
      · exact Or.inl ⟨e, he, Or.inr h⟩
      · rcases h with ⟨a, b, c, d⟩ | ⟨_, ⟨h, _⟩ | ⟨h, _⟩⟩
        · exact Or.inr ⟨e, he, f, hf, a, b, c, d⟩
        · exact Or.inl ⟨f, hf, Or.inl h⟩
        · exact Or.inl ⟨f, hf, Or.inr h⟩
  · rintro (⟨e, he, h⟩ | ⟨e, he, f, hf, a, b, c, d⟩)
    · refine Or.inr ⟨e, he, ((cutsL_mem l e).2 r).2 ?_⟩
      rcases h with h | h
      · exact Or.inl h
      · exact Or.inr (Or.inl h)
    · exact Or.inr ⟨e, he, ((cutsL_mem l e).2 r).2 (Or.inr (Or.inr ⟨f, hf, Or.inl ⟨a, b, c, d⟩⟩))⟩
/-- Two edges meet in the same point, whichever is named first. -/
theorem crE_swap (e f : Pt × Pt) : crE f e = - crE e f := by unfold crE; grind
theorem meet_swap {e f : Pt × Pt} (h : crE e f ≠ 0) : meetP f e = meetP e f := by
  have h' : crE f e ≠ 0 := by rw [crE_swap]; omega
  unfold meetP
  have e1 : mX f e * crE e f = mX e f * crE f e := by unfold mX mT crE; grind
  have e2 : mY f e * crE e f = mY e f * crE f e := by unfold mY mT crE; grind
  rw [fr2_same h' h e1, fr2_same h' h e2]
end Ge

end Go.Proofs.YtkjhhooecopolaaGreatDoor

namespace Go.Proofs.YtkjhhooecopolaaGreatDoor
open Go.RowKit

theorem tdiv_in (x : Int) (g : Nat) : -(x.natAbs : Int) ≤ x.tdiv g ∧ x.tdiv g ≤ (x.natAbs : Int) := by
  have h : (x.tdiv g).natAbs ≤ x.natAbs := by
    rw [Int.natAbs_tdiv]
    exact Nat.div_le_self _ _
  omega

set_option maxRecDepth 100000 in
set_option maxHeartbeats 1000000 in
theorem nodeAt_neg {a b : Nat} {x y : Int} (D : Int) (h1 : Fl a x) (h2 : Fl b y) (hx : -16000000 ≤ x ∧ x ≤ 16000000) (hy : -16000000 ≤ y ∧ y ≤ 16000000) (hD : D < 0 ∧ -300000 ≤ D) (G : Nat) (hG : Int.gcd (Int.gcd x y : Nat) D = G) (w : World) :
    Calls Tryz.prog 37 #[.complex .f64 a b, .int .i64 D] w fun e w' => e = .returned (.agg #[.complex .f64 (floatOfInt .f64 (x.tdiv (-(G : Int)))) (floatOfInt .f64 (y.tdiv (-(G : Int)))), .int .i64 (D.tdiv (-(G : Int)))]) ∧ Below w.heap.size w w' := by
  have hGp : 0 < G := by rw [← hG]; exact gcd_pos (by omega)
  have hgxy : Int.gcd x y ≤ 16000000 := by
    by_cases hz : x = 0
    · rw [hz, Int.gcd_zero_left]; omega
    · have := Int.gcd_le_natAbs_left (b := y) hz; omega
  have hGD : G ≤ 300000 := by
    have := Int.gcd_le_natAbs_right (a := (Int.gcd x y : Nat)) (b := D) (by omega)
    omega
  have c1 := h1.int (by omega) (by omega)
  have c2 := h2.int (by omega) (by omega)
  have hc1 : ∀ w, (convert 120 3 (.float .f64 a)).run Tryz.prog w = .ok (.int .i64 x) w := fun w => run_convert_float_int w 120 3 .f64 .i64 a x (by rw [Tryz.underlying120]; rfl) Tryz.underlying3 c1
  have hc2 : ∀ w, (convert 120 3 (.float .f64 b)).run Tryz.prog w = .ok (.int .i64 y) w := fun w => run_convert_float_int w 120 3 .f64 .i64 b y (by rw [Tryz.underlying120]; rfl) Tryz.underlying3 c2
  have HD1 : Hid (∀ w1, Calls Tryz.prog 65 #[.int .i64 x, .int .i64 y] w1 fun e w' => e = .returned (.int .i64 (Int.gcd x y : Nat)) ∧ Below w1.heap.size w1 w') := fun w1 => divisor_any x y w1 (by omega) (by omega)
  have HD2 : Hid (∀ w1, Calls Tryz.prog 65 #[.int .i64 (Int.gcd x y : Nat), .int .i64 D] w1 fun e w' => e = .returned (.int .i64 (G : Int)) ∧ Below w1.heap.size w1 w') := fun w1 => by rw [← hG]; exact divisor_any _ D w1 (by omega) (by omega)
  obtain ⟨XQ, hXQ⟩ : ∃ q, q = x.tdiv (-(G : Int)) := ⟨_, rfl⟩
  obtain ⟨YQ, hYQ⟩ : ∃ q, q = y.tdiv (-(G : Int)) := ⟨_, rfl⟩
  obtain ⟨DQ, hDQ⟩ : ∃ q, q = D.tdiv (-(G : Int)) := ⟨_, rfl⟩
  rw [← hXQ, ← hYQ, ← hDQ]
  have HP : Hid (∀ w1, Calls Tryz.prog 38 #[.int .i64 XQ, .int .i64 YQ] w1 fun e w' => e = .returned (.complex .f64 (floatOfInt .f64 XQ) (floatOfInt .f64 YQ)) ∧ w' = w1) := fun w1 => pointAt_any _ _ w1
  have hw1 : IntKind.i64.wrap (x.tdiv (-(G : Int))) = XQ := by rw [hXQ, Int.tdiv_neg, IntKind.wrap_i64]; have := tdiv_in x G; omega
  have hw2 : IntKind.i64.wrap (y.tdiv (-(G : Int))) = YQ := by rw [hYQ, Int.tdiv_neg, IntKind.wrap_i64]; have := tdiv_in y G; omega
  have hw3 : IntKind.i64.wrap (D.tdiv (-(G : Int))) = DQ := by rw [hDQ, Int.tdiv_neg, IntKind.wrap_i64]; have := tdiv_in D G; omega
  have hw5 : IntKind.i64.wrap (-(x.tdiv (G : Int))) = XQ := by rw [← Int.tdiv_neg]; exact hw1
  have hw6 : IntKind.i64.wrap (-(y.tdiv (G : Int))) = YQ := by rw [← Int.tdiv_neg]; exact hw2
  have hw7 : IntKind.i64.wrap (-(D.tdiv (G : Int))) = DQ := by rw [← Int.tdiv_neg]; exact hw3
  have hw4 : IntKind.i64.wrap (-(G : Int)) = -(G : Int) := by rw [IntKind.wrap_i64]; omega
  clear hXQ hYQ hDQ
  have hGz : ¬ G = 0 := by omega
  have hGi : ¬ (-(G : Int) = 0) := by omega
  generalize Int.gcd x y = GXY at *
  clear c1 c2 h1 h2 hG
  have hE := heap_alloc_new w (.cells #[.complex .f64 0 0, .int .i64 0] 83)
  have hb0 : Below w.heap.size w (w.alloc (.cells #[.complex .f64 0 0, .int .i64 0] 83)) := (Below.refl _ _).alloc (Nat.le_refl _) _
  have hz : w.heap.size < (w.alloc (.cells #[.complex .f64 0 0, .int .i64 0] 83)).heap.size := by simp
  go_enter Tryz.func37, Tryz.ntmps37
  go_wp2_with (first | (simp only [hc1]) | (simp only [hc2]))
  generalize w.alloc (.cells #[.complex .f64 0 0, .int .i64 0] 83) = W at *
  generalize hB : w.heap.size = B at *
  refine (HD1.out _).mono ?_
  rintro e w1 ⟨rfl, hb1⟩
  go_wp2_with fail
  refine (HD2.out _).mono ?_
  rintro e w2 ⟨rfl, hb2⟩
  have hs1 := hb1.size
  have hE2 := (hb2.block _ (show B < w1.heap.size by omega)).trans ((hb1.block _ hz).trans hE)
  have hbel := (hb0.trans (hb1.mono (Nat.le_of_lt hz))).trans (hb2.mono (by omega))
  have e0 : w2.cell? ⟨B, 0, none⟩ = some (.complex .f64 0 0) := cell_of hE2 0
  have e1 : w2.cell? ⟨B, 1, none⟩ = some (.int .i64 0) := cell_of hE2 1
  have z0 : w2.frozen? ⟨B, 0, none⟩ = false := frozen_of hE2 0
  have z1 : w2.frozen? ⟨B, 1, none⟩ = false := frozen_of hE2 1
  clear hE hE2 hb1 hb2 hb0
  go_wp2_with fail
  go_region_held3 (fun w' => w'.frozen? ⟨B, 0, none⟩ = false ∧ w'.frozen? ⟨B, 1, none⟩ = false) (go_keep) (first
    | (go_at_call 38; refine (HP.out _).mono ?_; rintro e w5 ⟨rfl, hw5⟩; subst hw5)
    | (simp only [st_complex]; go_simp))
  go_wp2_with fail
  refine bodyPost_ret (v := .agg #[.complex .f64 (floatOfInt .f64 XQ) (floatOfInt .f64 YQ), .int .i64 DQ]) (by simp [results, Tryz.results37, go_sem, e0, e1]) rfl ⟨rfl, ?_⟩
  rw [hB]
  exact ((hbel.setCell (Nat.le_refl _) _).setCell (Nat.le_refl _) _).drew


end Go.Proofs.YtkjhhooecopolaaGreatDoor
