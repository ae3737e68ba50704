import Derived.Test.YtkjhhooecopolaaGreatDoorKj17
import Derived.Test.YtkjhhooecopolaaGreatDoorKj07
import Derived.Deep.RegionHeld3
namespace Go.Proofs.YtkjhhooecopolaaGreatDoor.Ge

theorem closing_length (g : List Pt) : (closing g).length = g.length := by
  cases g with
  | nil => rfl
  | cons a r => simp [closing]

/-- Where a ring's way from its n-th point goes to. -/
def nextOf (g : List Pt) (n : Nat) : Option Pt := if n + 1 < g.length then g[n + 1]? else g[0]?

theorem closing_get {g : List Pt} {n : Nat} {p q : Pt} (hp : g[n]? = some p) (hq : nextOf g n = some q) : (closing g)[n]? = some (p, q) := by
  cases g with
  | nil => simp at hp
  | cons a r =>
    show ((a :: r).zip (r ++ [a]))[n]? = _
    rw [List.getElem?_zip_eq_some]
    refine ⟨hp, ?_⟩
    unfold nextOf at hq
    by_cases h : n + 1 < (a :: r).length
    · rw [if_pos h] at hq
      simp only [List.length_cons] at h
      rw [List.getElem?_append_left (by omega)]
      simpa using hq
    · rw [if_neg h] at hq
      have hn : n < (a :: r).length := (List.getElem?_eq_some_iff.1 hp).1
      simp only [List.length_cons] at h hn
      have e : n = r.length := by omega
      rw [e, List.getElem?_append_right (Nat.le_refl _)]
      simpa using hq

/-- The ways of the ring's first n points. -/
def edT (g : List Pt) (n : Nat) : List (Pt × Pt) := ((closing g).take n).filter fun e => decide (e.1 ≠ e.2)

theorem edT_zero (g : List Pt) : edT g 0 = [] := by simp [edT]
theorem edT_all (g : List Pt) : edT g g.length = edges g := by
  unfold edT edges
  rw [← closing_length g, List.take_length]
theorem edT_eq {g : List Pt} {n : Nat} {p q : Pt} (hp : g[n]? = some p) (hq : nextOf g n = some q) (h : p = q) : edT g (n + 1) = edT g n := by
  obtain ⟨hlt, he⟩ := List.getElem?_eq_some_iff.1 (closing_get hp hq)
  unfold edT
  rw [List.take_succ_eq_append_getElem hlt, he, List.filter_append]
  simp [h]
theorem edT_ne {g : List Pt} {n : Nat} {p q : Pt} (hp : g[n]? = some p) (hq : nextOf g n = some q) (h : p ≠ q) : edT g (n + 1) = edT g n ++ [(p, q)] := by
  obtain ⟨hlt, he⟩ := List.getElem?_eq_some_iff.1 (closing_get hp hq)
  unfold edT
  rw [List.take_succ_eq_append_getElem hlt, he, List.filter_append]
  simp [h]
theorem edT_le (g : List Pt) (n : Nat) : (edT g n).length ≤ g.length := by
  unfold edT
  refine Nat.le_trans (List.length_filter_le _ _) ?_
  rw [List.length_take, closing_length]
  omega

theorem all_append (a b : List (List Pt)) : allEdges (a ++ b) = allEdges a ++ allEdges b := by simp [allEdges]
theorem all_take {p : List (List Pt)} {k : Nat} {g : List Pt} (h : p[k]? = some g) : allEdges (p.take (k + 1)) = allEdges (p.take k) ++ edges g := by
  obtain ⟨hlt, he⟩ := List.getElem?_eq_some_iff.1 h
  rw [List.take_succ_eq_append_getElem hlt, he, all_append]
  simp [allEdges]
theorem flat_take {ps : List (List (List Pt))} {i : Nat} {p : List (List Pt)} (h : ps[i]? = some p) : allEdges (ps.take (i + 1)).flatten = allEdges (ps.take i).flatten ++ allEdges p := by
  obtain ⟨hlt, he⟩ := List.getElem?_eq_some_iff.1 h
  rw [List.take_succ_eq_append_getElem hlt, he, List.flatten_append, all_append]
  simp

theorem all_le (B : Nat) : ∀ (p : List (List Pt)), (∀ g ∈ p, g.length ≤ B) → (allEdges p).length ≤ p.length * B
  | [], _ => by simp [allEdges]
  | g :: p, h => by
    have e : allEdges (g :: p) = edges g ++ allEdges p := List.flatMap_cons
    have h1 := all_le B p (fun x hx => h x (by simp [hx]))
    have h2 := h g (by simp)
    have h3 : (edges g).length ≤ g.length := by rw [← edT_all]; exact edT_le g _
    rw [e, List.length_append, List.length_cons, Nat.add_mul]
    omega
theorem flat_le (B C : Nat) : ∀ (ps : List (List (List Pt))), (∀ p ∈ ps, p.length ≤ C ∧ ∀ g ∈ p, g.length ≤ B) → (allEdges ps.flatten).length ≤ ps.length * (C * B)
  | [], _ => by simp [allEdges]
  | p :: ps, h => by
    rw [List.flatten_cons, all_append, List.length_append, List.length_cons, Nat.add_mul]
    have h1 := flat_le B C ps (fun x hx => h x (by simp [hx]))
    have h2 := h p (by simp)
    have h3 := all_le B p h2.2
    have h4 := Nat.mul_le_mul_right B h2.1
    omega

theorem edges_mem {g : List Pt} {e : Pt × Pt} (h : e ∈ edges g) : e.1 ∈ g ∧ e.2 ∈ g := by
  unfold edges at h
  have h1 := (List.mem_filter.1 h).1
  cases g with
  | nil => simp [closing] at h1
  | cons a r =>
    obtain ⟨x, y⟩ := e
    have h2 := List.of_mem_zip h1
    refine ⟨h2.1, ?_⟩
    have := h2.2
    simp at this ⊢
    rcases this with h | h
    · exact Or.inr h
    · exact Or.inl h
theorem all_mem {rg : List (List Pt)} {e : Pt × Pt} (h : e ∈ allEdges rg) : ∃ g ∈ rg, e.1 ∈ g ∧ e.2 ∈ g := by
  unfold allEdges at h
  obtain ⟨g, hg, he⟩ := List.mem_flatMap.1 h
  exact ⟨g, hg, edges_mem he⟩
theorem edges_ne {rg : List (List Pt)} {e : Pt × Pt} (h : e ∈ allEdges rg) : e.1 ≠ e.2 := by
  unfold allEdges at h
  obtain ⟨g, hg, he⟩ := List.mem_flatMap.1 h
  unfold edges at he
  simpa using (List.mem_filter.1 he).2

end Go.Proofs.YtkjhhooecopolaaGreatDoor.Ge

namespace Go.Proofs.YtkjhhooecopolaaGreatDoor
open Go.RowKit

/-! The program's plane: points and ways are complex numbers with whole parts. -/
theorem st_complex (P : Program) (w : World) (a : Addr) (k : FloatKind) (x y : Nat) (m : Mode) : (store a (.complex k x y) m).run P w = stored P w a (.complex k x y) m := run_store P w a _ m rfl
theorem st_float (P : Program) (w : World) (a : Addr) (k : FloatKind) (x : Nat) (m : Mode) : (store a (.float k x) m).run P w = stored P w a (.float k x) m := run_store P w a _ m rfl
def sm (z : Int) : Prop := z.natAbs ≤ 33554432

set_option maxRecDepth 100000 in
set_option maxHeartbeats 400000 in
theorem mirror_any (a b : Nat) (w : World) :
    Calls Tryz.prog 151 #[.complex .f64 a b] w fun e w' => e = .returned (.complex .f64 a (Op.negFloat .f64 b)) ∧ w' = w := by
  have hop : ∀ w, (Op.unary .neg (.float .f64 b)).run Tryz.prog w = .ok (.float .f64 (Op.negFloat .f64 b)) w := fun _ => rfl
  go_enter Tryz.func151, Tryz.ntmps151
  go_wp2_with (simp only [hop])
  go_ret
  exact ⟨rfl, rfl⟩

theorem mul_sm {x y : Int} (hx : sm x) (hy : sm y) : (x * y).natAbs ≤ 1125899906842624 := by
  rw [Int.natAbs_mul]
  exact Nat.mul_le_mul hx hy

set_option maxRecDepth 100000 in
set_option maxHeartbeats 400000 in
theorem turn_any {a b c d : Nat} {x y u v : Int} (h1 : Fl a x) (h2 : Fl b y) (h3 : Fl c u) (h4 : Fl d v) (b1 : sm x) (b2 : sm y) (b3 : sm u) (b4 : sm v) :
    ∃ re im, Fl re (x * u + y * v) ∧ Fl im (x * v - y * u) ∧ ∀ w, Calls Tryz.prog 98 #[.complex .f64 a b, .complex .f64 c d] w fun e w' => e = .returned (.complex .f64 re im) ∧ w' = w := by
  have m1 := mul_sm b1 b3
  have m2 := mul_sm b2 b4
  have m3 := mul_sm b1 b4
  have m4 := mul_sm b2 b3
  have n2 : (-y * v).natAbs ≤ 1125899906842624 := by rw [Int.neg_mul, Int.natAbs_neg]; exact m2
  have n4 : (-y * u).natAbs ≤ 1125899906842624 := by rw [Int.neg_mul, Int.natAbs_neg]; exact m4
  obtain ⟨re, im, e, f1, f2⟩ := cMul_of h1 h2.neg h3 h4 (by omega) (by omega) (by omega) (by omega) (by omega) (by omega)
  refine ⟨re, im, ?_, ?_, fun w => ?_⟩
  · have : x * u + y * v = x * u - -y * v := by rw [Int.neg_mul]; omega
    rw [this]; exact f1
  · have : x * v - y * u = x * v + -y * u := by rw [Int.neg_mul]; omega
    rw [this]; exact f2
  · have hop := fun t w => run_complex_mul (P := Tryz.prog) w t a (Op.negFloat .f64 b) c d re im e
    have HM : Hid (∀ w1, Calls Tryz.prog 151 #[.complex .f64 a b] w1 fun e w' => e = .returned (.complex .f64 a (Op.negFloat .f64 b)) ∧ w' = w1) := fun w1 => mirror_any a b w1
    clear m1 m2 m3 m4 n2 n4 e f1 f2
    generalize Op.negFloat .f64 b = nb at *
    go_enter Tryz.func98, Tryz.ntmps98
    go_wp2_with fail
    refine (HM.out _).mono ?_
    rintro e w1 ⟨rfl, rfl⟩
    go_wp2_with (simp only)
    go_ret
    exact ⟨rfl, rfl⟩

set_option maxRecDepth 100000 in
set_option maxHeartbeats 400000 in
theorem left_any {a b c d : Nat} {x y u v : Int} (h1 : Fl a x) (h2 : Fl b y) (h3 : Fl c u) (h4 : Fl d v) (b1 : sm x) (b2 : sm y) (b3 : sm u) (b4 : sm v) :
    ∃ im, Fl im (x * v - y * u) ∧ ∀ w, Calls Tryz.prog 101 #[.complex .f64 a b, .complex .f64 c d] w fun e w' => e = .returned (.float .f64 im) ∧ w' = w := by
  obtain ⟨re, im, _, f2, ht⟩ := turn_any h1 h2 h3 h4 b1 b2 b3 b4
  refine ⟨im, f2, fun w => ?_⟩
  have HT : Hid (∀ w, Calls Tryz.prog 98 #[.complex .f64 a b, .complex .f64 c d] w fun e w' => e = .returned (.complex .f64 re im) ∧ w' = w) := ht
  clear ht
  go_enter Tryz.func101, Tryz.ntmps101
  go_wp2_with fail
  refine (HT.out _).mono ?_
  rintro e w1 ⟨rfl, rfl⟩
  go_wp2_with fail
  go_ret
  exact ⟨rfl, rfl⟩

set_option maxRecDepth 100000 in
set_option maxHeartbeats 400000 in
theorem lineThrough_any {a b c d : Nat} {x y u v : Int} (h1 : Fl a x) (h2 : Fl b y) (h3 : Fl c u) (h4 : Fl d v) (b1 : x.natAbs ≤ 50) (b2 : y.natAbs ≤ 50) (b3 : u.natAbs ≤ 50) (b4 : v.natAbs ≤ 50) :
    ∃ wa wb sh, Fl wa (u - x) ∧ Fl wb (v - y) ∧ Fl sh ((u - x) * y - (v - y) * x) ∧ ∀ w, Calls Tryz.prog 64 #[.complex .f64 a b, .complex .f64 c d] w fun e w' => e = .returned (.agg #[.complex .f64 wa wb, .float .f64 sh]) ∧ Below w.heap.size w w' := by
  obtain ⟨wa, wb, e, f1, f2⟩ := cSum_sub h3 h4 h1 h2 (by omega) (by omega)
  obtain ⟨sh, f3, hl⟩ := left_any f1 f2 h1 h2 (by unfold sm; omega) (by unfold sm; omega) (by unfold sm; omega) (by unfold sm; omega)
  refine ⟨wa, wb, sh, f1, f2, f3, fun w => ?_⟩
  have hop := fun t w => run_complex_sum (P := Tryz.prog) w .sub (Or.inr rfl) t .f64 c d a b wa wb e
  have HL : Hid (∀ w, Calls Tryz.prog 101 #[.complex .f64 wa wb, .complex .f64 a b] w fun e w' => e = .returned (.float .f64 sh) ∧ w' = w) := hl
  clear hl
  go_enter Tryz.func64, Tryz.ntmps64
  go_wp2_with (simp only [hop])
  have hE := heap_alloc_new w (.cells #[.complex .f64 0 0, .float .f64 0] 122)
  have hb0 : Below w.heap.size w (w.alloc (.cells #[.complex .f64 0 0, .float .f64 0] 122)) := (Below.refl _ _).alloc (Nat.le_refl _) _
  generalize w.alloc (.cells #[.complex .f64 0 0, .float .f64 0] 122) = W at *
  refine (HL.out _).mono ?_
  rintro e w1 ⟨rfl, rfl⟩
  have e0 : w1.cell? ⟨w.heap.size, 0, none⟩ = some (.complex .f64 0 0) := cell_of hE 0
  have e1 : w1.cell? ⟨w.heap.size, 1, none⟩ = some (.float .f64 0) := cell_of hE 1
  have z0 : w1.frozen? ⟨w.heap.size, 0, none⟩ = false := frozen_of hE 0
  have z1 : w1.frozen? ⟨w.heap.size, 1, none⟩ = false := frozen_of hE 1
  go_wp2_with (simp only [st_complex, st_float]; go_simp)
  refine bodyPost_ret (v := .agg #[.complex .f64 wa wb, .float .f64 sh]) (by simp [results, Tryz.results64, go_sem, e0, e1]) rfl ⟨rfl, ?_⟩
  exact (hb0.setCell (Nat.le_refl _) _).setCell (Nat.le_refl _) _

end Go.Proofs.YtkjhhooecopolaaGreatDoor

namespace Go.Proofs.YtkjhhooecopolaaGreatDoor
open Go.RowKit

theorem fl_int {n : Int} (h : sm n) : Fl (floatOfInt .f64 n) n := fl_ofInt (by unfold sm at h; omega)

set_option maxRecDepth 100000 in
set_option maxHeartbeats 400000 in
theorem scaled_any (na nb : Nat) (D : Int) {a b : Nat} {x y : Int} (h1 : Fl a x) (h2 : Fl b y) (b1 : sm x) (b2 : sm y) (bD : sm D) :
    ∃ re im, Fl re (x * D) ∧ Fl im (y * D) ∧ ∀ w, Calls Tryz.prog 152 #[.agg #[.complex .f64 na nb, .int .i64 D], .complex .f64 a b] w fun e w' => e = .returned (.complex .f64 re im) ∧ Below w.heap.size w w' ∧ w.drawn ≤ w'.drawn := by
  have m1 := mul_sm b1 bD
  have m2 := mul_sm b2 bD
  have z0 : sm 0 := by unfold sm; decide
  obtain ⟨re, im, e, f1, f2⟩ := cMul_of h1 h2 (fl_int bD) (fl_int z0) (by omega) (by omega) (by omega) (by omega) (by omega) (by omega)
  refine ⟨re, im, ?_, ?_, fun w => ?_⟩
  · have : x * D = x * D - y * 0 := by omega
    rw [this]; exact f1
  · have : y * D = x * 0 + y * D := by omega
    rw [this]; exact f2
  · have hop := fun t w => run_complex_mul (P := Tryz.prog) w t a b (floatOfInt .f64 D) (floatOfInt .f64 0) re im e
    have HP : Hid (∀ w1, Calls Tryz.prog 38 #[.int .i64 D, .int .i64 0] w1 fun e w' => e = .returned (.complex .f64 (floatOfInt .f64 D) (floatOfInt .f64 0)) ∧ w' = w1) := fun w1 => pointAt_any D 0 w1
    clear m1 m2 e f1 f2
    generalize floatOfInt .f64 D = fd at *
    generalize floatOfInt .f64 0 = fz at *
    have hb0 : Below w.heap.size w (w.alloc (.cells #[.complex .f64 na nb, .int .i64 D] 83)) := (Below.refl _ _).alloc (Nat.le_refl _) _
    go_enter Tryz.func152, Tryz.ntmps152
    go_wp2_with fail
    refine (HP.out _).mono ?_
    rintro e w1 ⟨rfl, rfl⟩
    go_wp2_with (simp only)
    go_ret
    exact ⟨rfl, hb0, Nat.le_refl _⟩

set_option maxRecDepth 100000 in
set_option maxHeartbeats 400000 in
theorem wayFrom_any {na nb : Nat} {X Y D : Int} {a b : Nat} {x y : Int} (g1 : Fl na X) (g2 : Fl nb Y) (h1 : Fl a x) (h2 : Fl b y) (b1 : sm x) (b2 : sm y) (bD : sm D) (c1 : sm X) (c2 : sm Y) :
    ∃ re im, Fl re (X - x * D) ∧ Fl im (Y - y * D) ∧ ∀ w, Calls Tryz.prog 99 #[.agg #[.complex .f64 na nb, .int .i64 D], .complex .f64 a b] w fun e w' => e = .returned (.complex .f64 re im) ∧ Below w.heap.size w w' := by
  have m1 := mul_sm b1 bD
  have m2 := mul_sm b2 bD
  obtain ⟨sa, sb, s1, s2, hs⟩ := scaled_any na nb D h1 h2 b1 b2 bD
  obtain ⟨re, im, e, f1, f2⟩ := cSum_sub g1 g2 s1 s2 (by unfold sm at c1; omega) (by unfold sm at c2; omega)
  refine ⟨re, im, f1, f2, fun w => ?_⟩
  have hop := fun t w => run_complex_sum (P := Tryz.prog) w .sub (Or.inr rfl) t .f64 na nb sa sb re im e
  have HS : Hid (∀ w, Calls Tryz.prog 152 #[.agg #[.complex .f64 na nb, .int .i64 D], .complex .f64 a b] w fun e w' => e = .returned (.complex .f64 sa sb) ∧ Below w.heap.size w w' ∧ w.drawn ≤ w'.drawn) := hs
  clear hs m1 m2
  have hE := heap_alloc_new w (.cells #[.complex .f64 na nb, .int .i64 D] 83)
  have hb0 : Below w.heap.size w (w.alloc (.cells #[.complex .f64 na nb, .int .i64 D] 83)) := (Below.refl _ _).alloc (Nat.le_refl _) _
  have hz : w.heap.size < (w.alloc (.cells #[.complex .f64 na nb, .int .i64 D] 83)).heap.size := by simp
  go_enter Tryz.func99, Tryz.ntmps99
  go_wp2_with fail
  generalize w.alloc (.cells #[.complex .f64 na nb, .int .i64 D] 83) = W at *
  generalize hB : w.heap.size = B at *
  have e0 : W.cell? ⟨B, 0, none⟩ = some (.complex .f64 na nb) := cell_of hE 0
  have e1 : W.cell? ⟨B, 1, none⟩ = some (.int .i64 D) := cell_of hE 1
  go_region_held3 (fun w' => w'.cell? ⟨B, 0, none⟩ = some (.complex .f64 na nb) ∧ w'.cell? ⟨B, 1, none⟩ = some (.int .i64 D)) (go_keep) (first
    | (go_at_call 152; refine (HS.out _).mono ?_; rintro e w5 ⟨rfl, hb5, _⟩; have q0 := (hb5.cell (p := ⟨B, 0, none⟩) hz).trans e0; have q1 := (hb5.cell (p := ⟨B, 1, none⟩) hz).trans e1)
    | (simp only))
  go_wp2_with fail
  go_ret
  exact ⟨rfl, by rw [hB]; exact hb0.drew.trans (hb5.mono (Nat.le_of_lt hz))⟩

theorem lt_bits {a b : Nat} {x y : Int} (ha : Fl a x) (hb : Fl b y) : (FloatKind.f64.format.order a b == some .lt) = decide (x < y) := by
  have e : FloatKind.f64.format.order a b = some (compare x y) := ha.order hb
  rw [e]
  rcases Int.lt_trichotomy x y with h | h | h
  · rw [Int.compare_eq_lt.2 h]; simp [h]
  · rw [Int.compare_eq_eq.2 h]; simp [h]
  · rw [Int.compare_eq_gt.2 h]; simp; omega
theorem gt_bits {a b : Nat} {x y : Int} (ha : Fl a x) (hb : Fl b y) : (FloatKind.f64.format.order a b == some .gt) = decide (y < x) := by
  have e : FloatKind.f64.format.order a b = some (compare x y) := ha.order hb
  rw [e]
  rcases Int.lt_trichotomy x y with h | h | h
  · rw [Int.compare_eq_lt.2 h]; simp; omega
  · rw [Int.compare_eq_eq.2 h]; simp [h]
  · rw [Int.compare_eq_gt.2 h]; simp [h]
theorem eq_bits {a b : Nat} {x y : Int} (ha : Fl a x) (hb : Fl b y) : (FloatKind.f64.format.order a b == some .eq) = decide (x = y) := by
  have e : FloatKind.f64.format.order a b = some (compare x y) := ha.order hb
  rw [e]
  rcases Int.lt_trichotomy x y with h | h | h
  · rw [Int.compare_eq_lt.2 h]; simp; omega
  · rw [Int.compare_eq_eq.2 h]; simp [h]
  · rw [Int.compare_eq_gt.2 h]; simp; omega
theorem fl_zero : Fl 0 0 := by
  have h := fl_ofInt (n := 0) (by decide)
  have e : floatOfInt .f64 0 = 0 := by decide
  rwa [e] at h

set_option maxRecDepth 100000 in
set_option maxHeartbeats 400000 in
theorem leftOf_any {wa wb sh na nb : Nat} {wx wy s X Y D : Int} (h1 : Fl wa wx) (h2 : Fl wb wy) (h3 : Fl sh s) (g1 : Fl na X) (g2 : Fl nb Y) (b1 : sm wx) (b2 : sm wy) (b3 : sm s) (bD : sm D) (c1 : sm X) (c2 : sm Y) :
    ∃ r, Fl r (wx * Y - wy * X - s * D) ∧ ∀ w, Calls Tryz.prog 97 #[.agg #[.complex .f64 wa wb, .float .f64 sh], .agg #[.complex .f64 na nb, .int .i64 D]] w fun e w' => e = .returned (.float .f64 r) ∧ Below w.heap.size w w' := by
  have m1 := mul_sm b1 c2
  have m2 := mul_sm b2 c1
  have m3 := mul_sm b3 bD
  obtain ⟨im, f1, hl⟩ := left_any h1 h2 g1 g2 b1 b2 c1 c2
  obtain ⟨p, e1, f2⟩ := h3.mul (fl_int bD) (by omega)
  obtain ⟨r, e2, f3⟩ := f1.sub f2 (by omega)
  refine ⟨r, f3, fun w => ?_⟩
  have hop1 := fun t w => run_float_arith (P := Tryz.prog) w .mul t .f64 _ _ p e1
  have hop2 := fun t w => run_float_arith (P := Tryz.prog) w .sub t .f64 _ _ r e2
  have HL : Hid (∀ w, Calls Tryz.prog 101 #[.complex .f64 wa wb, .complex .f64 na nb] w fun e w' => e = .returned (.float .f64 im) ∧ w' = w) := hl
  clear hl m1 m2 m3
  have hE : ((w.alloc (.cells #[.complex .f64 wa wb, .float .f64 sh] 122)).alloc (.cells #[.complex .f64 na nb, .int .i64 D] 83)).heap[w.heap.size]? = some (.cells #[.complex .f64 wa wb, .float .f64 sh] 122 (0, 0)) := by
    rw [Below.heap_alloc _ _ _ (by simp)]; exact heap_alloc_new _ _
  have hP : ((w.alloc (.cells #[.complex .f64 wa wb, .float .f64 sh] 122)).alloc (.cells #[.complex .f64 na nb, .int .i64 D] 83)).heap[w.heap.size + 1]? = some (.cells #[.complex .f64 na nb, .int .i64 D] 83 (0, 0)) := by
    have := heap_alloc_new (w.alloc (.cells #[.complex .f64 wa wb, .float .f64 sh] 122)) (.cells #[.complex .f64 na nb, .int .i64 D] 83)
    simpa using this
  have hb0 : Below w.heap.size w ((w.alloc (.cells #[.complex .f64 wa wb, .float .f64 sh] 122)).alloc (.cells #[.complex .f64 na nb, .int .i64 D] 83)) := ((Below.refl _ _).alloc (Nat.le_refl _) _).alloc (by simp) _
  go_enter Tryz.func97, Tryz.ntmps97
  go_wp2_with fail
  generalize (w.alloc (.cells #[.complex .f64 wa wb, .float .f64 sh] 122)).alloc (.cells #[.complex .f64 na nb, .int .i64 D] 83) = W at *
  generalize hB : w.heap.size = B at *
  have e0 : W.cell? ⟨B, 0, none⟩ = some (.complex .f64 wa wb) := cell_of hE 0
  have e1' : W.cell? ⟨B, 1, none⟩ = some (.float .f64 sh) := cell_of hE 1
  have p0 : W.cell? ⟨B + 1, 0, none⟩ = some (.complex .f64 na nb) := cell_of hP 0
  have p1 : W.cell? ⟨B + 1, 1, none⟩ = some (.int .i64 D) := cell_of hP 1
  go_region_held3 (fun w' => w'.cell? ⟨B, 0, none⟩ = some (.complex .f64 wa wb) ∧ w'.cell? ⟨B, 1, none⟩ = some (.float .f64 sh) ∧ w'.cell? ⟨B + 1, 0, none⟩ = some (.complex .f64 na nb) ∧ w'.cell? ⟨B + 1, 1, none⟩ = some (.int .i64 D)) (go_keep) (first
    | (go_at_call 101; refine (HL.out _).mono ?_; rintro e w5 ⟨rfl, hw5⟩; subst hw5)
    | (simp only)
    | (simp only [hop2]))
  go_wp2_with fail
  go_ret
  exact ⟨rfl, by rw [hB]; exact hb0.drew⟩

end Go.Proofs.YtkjhhooecopolaaGreatDoor
