import Derived.Test.YtmfnlpmlmgjleaaGreatDoorRd
import Derived.Test.YtmfnlpmlmgjleaaGreatDoorWo
import Derived.BigQuiet
import Derived.Deep.QuietTactic
namespace Go.Proofs.YtmfnlpmlmgjleaaGreatDoor
open Go.RowKit

/-- Only block pb has turned, of those that were there. -/
structure Fp (pb : Nat) (w w' : World) : Prop where
  os : w'.os = w.os
  tape : w'.tape = w.tape
  output : w'.output = w.output
  size : w.heap.size ≤ w'.heap.size
  block : ∀ k, k < w.heap.size → k ≠ pb → w'.heap[k]? = w.heap[k]?

theorem Fp.refl (pb : Nat) (w : World) : Fp pb w w := ⟨rfl, rfl, rfl, Nat.le_refl _, fun _ _ _ => rfl⟩
theorem Fp.trans {pb : Nat} {a b c : World} (h : Fp pb a b) (k : Fp pb b c) : Fp pb a c :=
  ⟨k.os.trans h.os, k.tape.trans h.tape, k.output.trans h.output, Nat.le_trans h.size k.size, fun i hi hne => (k.block i (Nat.lt_of_lt_of_le hi h.size) hne).trans (h.block i hi hne)⟩
theorem Fp.drewN {pb : Nat} {a w : World} (h : Fp pb a w) (n : Nat) : Fp pb a (w.drewN n) := ⟨h.os, h.tape, h.output, h.size, h.block⟩
theorem Fp.set {pb : Nat} {a w : World} (h : Fp pb a w) (o : Nat) (v : Value) : Fp pb a (w.setCell ⟨pb, o, none⟩ v) :=
  ⟨h.os, h.tape, h.output, by simp; exact h.size, fun k hk hne => (heap_set_ne hne _).trans (h.block k hk hne)⟩
theorem Fp.of_below {pb : Nat} {w w' : World} (h : Below w.heap.size w w') : Fp pb w w' := ⟨h.os, h.tape, h.output, h.size, fun k hk _ => h.block k hk⟩
theorem Fp.below {pb : Nat} {w w' : World} (h : Fp pb w w') (B : Nat) (hB : B ≤ pb) (hs : B ≤ w.heap.size) : Below B w w' := ⟨h.os, h.tape, h.output, h.size, fun k hk => h.block k (by omega) (by omega)⟩

def outOf (c : List Pl.Tk) : Int := match c.find? outT with | some u => u.pl | none => -1

/-- The reference's parser at block pb; the tokens' row at block tb. -/
def PS (pb tb cap : Nat) (A l : List Pl.Tk) (bad : Bool) (w : World) : Prop :=
  tb ≠ pb ∧ (∃ cur, w.heap[tb]? = some (.cells cur 102 (0, 0)) ∧ ∀ (j : Nat) u, (refRow A)[j]? = some u → cur[j]? = some u) ∧
  ∃ c, c ++ l = A ∧ w.heap[pb]? = some (.cells #[.slice (some ⟨tb, 0, none⟩) A.length cap, .int .i64 c.length, .bool bad, .int .i64 (outOf c)] 96 (0, 0))

theorem refRow_get (c : List Pl.Tk) (k : Nat) (t : Pl.Tk) (h : c[k]? = some t) (j : Nat) (hj : j < 4) : (refRow c)[k * 4 + j]? = (refCells t)[j]? := by
  induction c generalizing k with
  | nil => simp at h
  | cons a r ih =>
    cases k with
    | zero =>
      have : a = t := by simpa using h
      subst this
      simp only [refRow, List.flatMap_cons, Nat.zero_mul, Nat.zero_add]
      rw [List.getElem?_append_left (by simp [refCells]; omega)]
      simp
    | succ k =>
      have h' : r[k]? = some t := by simpa using h
      have := ih k h'
      simp only [refRow, List.flatMap_cons] at this ⊢
      rw [List.getElem?_append_right (by simp [refCells]; omega)]
      rw [← this]
      congr 1
      simp [refCells]; omega

/-- What the walk wants of the parser: its cells and those of the token at hand. -/
theorem PS.cells {pb tb cap : Nat} {A r : List Pl.Tk} {t : Pl.Tk} {bad : Bool} {w : World} (h : PS pb tb cap A (t :: r) bad w) :
    ∃ c : List Pl.Tk, c ++ t :: r = A ∧ w.heap[pb]? = some (.cells #[.slice (some ⟨tb, 0, none⟩) A.length cap, .int .i64 c.length, .bool bad, .int .i64 (outOf c)] 96 (0, 0)) ∧
      w.cell? ⟨tb, c.length * 4, none⟩ = some (.int .u8 t.k) ∧ w.cell? ⟨tb, c.length * 4 + 1, none⟩ = some (.string ⟨(Pl.rS t).toArray⟩) ∧ w.cell? ⟨tb, c.length * 4 + 2, none⟩ = some (.int .i64 t.n) ∧ w.cell? ⟨tb, c.length * 4 + 3, none⟩ = some (.int .i64 t.pl) ∧
      c.length < A.length ∧ tb < w.heap.size := by
  obtain ⟨hne, ⟨cur, hcur, hrow⟩, c, hc, hb⟩ := h
  have hg : A[c.length]? = some t := by rw [← hc]; simp
  have hcell : ∀ j u, j < 4 → (refCells t)[j]? = some u → w.cell? ⟨tb, c.length * 4 + j, none⟩ = some u := fun j u hj hu => by
    rw [cell_of hcur]
    exact hrow _ _ (by rw [refRow_get A c.length t hg j hj]; exact hu)
  exact ⟨c, hc, hb, by simpa using hcell 0 (.int .u8 t.k) (by omega) rfl, hcell 1 _ (by omega) rfl, hcell 2 _ (by omega) rfl, hcell 3 _ (by omega) rfl, by rw [← hc]; simp, lt_of_heap hcur⟩

theorem PS.mono {pb tb cap : Nat} {A l : List Pl.Tk} {bad : Bool} {w w' : World} (h : PS pb tb cap A l bad w) (hk : ∀ k, k < w.heap.size → w'.heap[k]? = w.heap[k]?) : PS pb tb cap A l bad w' := by
  obtain ⟨hne, ⟨cur, hcur, hrow⟩, c, hc, hb⟩ := h
  exact ⟨hne, ⟨cur, (hk _ (lt_of_heap hcur)).trans hcur, hrow⟩, c, hc, (hk _ (lt_of_heap hb)).trans hb⟩

/-- The parser's own block written anew. -/
theorem PS.put {pb tb cap : Nat} {A l l' : List Pl.Tk} {bad bad' : Bool} {w w' : World} (h : PS pb tb cap A l bad w) (c : List Pl.Tk) (hc : c ++ l' = A)
    (hk : ∀ k, k < w.heap.size → k ≠ pb → w'.heap[k]? = w.heap[k]?) (hb : w'.heap[pb]? = some (.cells #[.slice (some ⟨tb, 0, none⟩) A.length cap, .int .i64 c.length, .bool bad', .int .i64 (outOf c)] 96 (0, 0))) : PS pb tb cap A l' bad' w' := by
  obtain ⟨hne, ⟨cur, hcur, hrow⟩, _⟩ := h
  exact ⟨hne, ⟨cur, (hk _ (lt_of_heap hcur) hne).trans hcur, hrow⟩, c, hc, hb⟩

theorem outOf_snoc (c : List Pl.Tk) (t : Pl.Tk) (h : t.k ≠ 110) : outOf (c ++ [t]) = outOf c := by
  unfold outOf
  have : outT t = false := by unfold outT; simp [h]
  rw [List.find?_append]
  cases h1 : c.find? outT <;> simp [this]

theorem heap_dn (w : World) (n k : Nat) : (w.drewN n).heap[k]? = w.heap[k]? := rfl

set_option maxRecDepth 100000 in
set_option maxHeartbeats 1000000 in
theorem mark_yes (pb tb cap : Nat) (A r : List Pl.Tk) (t : Pl.Tk) (w : World) (k : Nat) (hP : PS pb tb cap A (t :: r) false w) (hl : A.length ≤ 402) (hk : t.k = k) (h110 : k ≠ 110) :
    Calls Tryz.prog 69 #[.pointer (some ⟨pb, 0, none⟩), .int .u8 k] w fun e w' => e = .returned (.tuple #[]) ∧ PS pb tb cap A r false w' ∧ Fp pb w w' := by
  obtain ⟨c, hc, hb, e0, e1, e2, e3, hcl, htb⟩ := hP.cells
  have HC : Hid (c ++ t :: r = A) := hc
  have HO : Hid (outOf (c ++ [t]) = outOf c) := outOf_snoc c t (by omega)
  have c0 : w.cell? ⟨pb, 0, none⟩ = some (.slice (some ⟨tb, 0, none⟩) A.length cap) := cell_of hb 0
  have c1 : w.cell? ⟨pb, 1, none⟩ = some (.int .i64 c.length) := cell_of hb 1
  have c2 : w.cell? ⟨pb, 2, none⟩ = some (.bool false) := cell_of hb 2
  have f1 : w.frozen? ⟨pb, 1, none⟩ = false := frozen_of hb 1
  rw [hk] at e0
  clear hc hk
  have hib : (c.length : Int) < (A.length : Int) := by omega
  go_enter Tryz.func69, Tryz.ntmps69
  go_wp2_with fail
  go_quiet (fail)
  go_wp2_with fail
  go_end0
  refine ⟨rfl, hP.put (c ++ [t]) (by rw [← HC.out]; simp) (fun k hk hne => heap_set_ne hne _) ?_, ((Fp.refl pb w).drewN nq).set 1 _⟩
  have q := heap_set (w := w.drewN nq) (o := 1) hb (.int .i64 ((c.length : Int) + 1))
  rw [HO.out]
  simpa using q

set_option maxRecDepth 100000 in
set_option maxHeartbeats 1000000 in
theorem mark_no (pb tb cap : Nat) (A r : List Pl.Tk) (t : Pl.Tk) (w : World) (k : Nat) (hP : PS pb tb cap A (t :: r) false w) (_hl : A.length ≤ 402) (hk : t.k ≠ k) :
    Calls Tryz.prog 69 #[.pointer (some ⟨pb, 0, none⟩), .int .u8 k] w fun e w' => e = .returned (.tuple #[]) ∧ PS pb tb cap A (t :: r) true w' ∧ Fp pb w w' := by
  obtain ⟨c, hc, hb, e0, e1, e2, e3, hcl, htb⟩ := hP.cells
  have HC : Hid (c ++ t :: r = A) := hc
  have c0 : w.cell? ⟨pb, 0, none⟩ = some (.slice (some ⟨tb, 0, none⟩) A.length cap) := cell_of hb 0
  have c1 : w.cell? ⟨pb, 1, none⟩ = some (.int .i64 c.length) := cell_of hb 1
  have c2 : w.cell? ⟨pb, 2, none⟩ = some (.bool false) := cell_of hb 2
  have c3 : w.cell? ⟨pb, 3, none⟩ = some (.int .i64 (outOf c)) := cell_of hb 3
  have f1 : w.frozen? ⟨pb, 1, none⟩ = false := frozen_of hb 1
  have f2 : w.frozen? ⟨pb, 2, none⟩ = false := frozen_of hb 2
  have f3 : w.frozen? ⟨pb, 3, none⟩ = false := frozen_of hb 3
  have hib : (c.length : Int) < (A.length : Int) := by omega
  clear hc
  have hkb : ((t.k : Int) == (k : Int)) = false := by rw [beq_eq_false_iff_ne]; omega
  clear hk
  go_enter Tryz.func69, Tryz.ntmps69
  go_wp2_with fail
  go_quiet (fail)
  go_wp2_with fail
  go_end0
  refine ⟨rfl, hP.put c HC.out (fun k hk hne => heap_set_ne hne _) ?_, ((Fp.refl pb w).drewN nq).set 2 _⟩
  exact heap_set (w := w.drewN nq) (o := 2) hb (.bool true)

set_option maxRecDepth 100000 in
set_option maxHeartbeats 1000000 in
theorem mark_bad (pb tb cap : Nat) (A r : List Pl.Tk) (t : Pl.Tk) (w : World) (k : Nat) (hP : PS pb tb cap A (t :: r) true w) (_hl : A.length ≤ 402) :
    Calls Tryz.prog 69 #[.pointer (some ⟨pb, 0, none⟩), .int .u8 k] w fun e w' => e = .returned (.tuple #[]) ∧ PS pb tb cap A (t :: r) true w' ∧ Fp pb w w' := by
  obtain ⟨c, hc, hb, e0, e1, e2, e3, hcl, htb⟩ := hP.cells
  have HC : Hid (c ++ t :: r = A) := hc
  have c0 : w.cell? ⟨pb, 0, none⟩ = some (.slice (some ⟨tb, 0, none⟩) A.length cap) := cell_of hb 0
  have c1 : w.cell? ⟨pb, 1, none⟩ = some (.int .i64 c.length) := cell_of hb 1
  have c2 : w.cell? ⟨pb, 2, none⟩ = some (.bool true) := cell_of hb 2
  have c3 : w.cell? ⟨pb, 3, none⟩ = some (.int .i64 (outOf c)) := cell_of hb 3
  have f1 : w.frozen? ⟨pb, 1, none⟩ = false := frozen_of hb 1
  have f2 : w.frozen? ⟨pb, 2, none⟩ = false := frozen_of hb 2
  have f3 : w.frozen? ⟨pb, 3, none⟩ = false := frozen_of hb 3
  have hib : (c.length : Int) < (A.length : Int) := by omega
  clear hc
  go_enter Tryz.func69, Tryz.ntmps69
  go_wp2_with fail
  go_quiet (fail)
  go_wp2_with fail
  go_end0
  refine ⟨rfl, hP.put c HC.out (fun k hk hne => heap_set_ne hne _) ?_, ((Fp.refl pb w).drewN nq).set 2 _⟩
  exact heap_set (w := w.drewN nq) (o := 2) hb (.bool true)

set_option maxRecDepth 100000 in
set_option maxHeartbeats 1000000 in
theorem is_good (pb tb cap : Nat) (A r : List Pl.Tk) (t : Pl.Tk) (w : World) (k : Nat) (hP : PS pb tb cap A (t :: r) false w) (_hl : A.length ≤ 402) :
    Calls Tryz.prog 71 #[.pointer (some ⟨pb, 0, none⟩), .int .u8 k] w fun e w' => e = .returned (.bool (decide (t.k = k))) ∧ ∃ n, w' = w.drewN n := by
  obtain ⟨c, hc, hb, e0, e1, e2, e3, hcl, htb⟩ := hP.cells
  have HC : Hid (c ++ t :: r = A) := hc
  have c0 : w.cell? ⟨pb, 0, none⟩ = some (.slice (some ⟨tb, 0, none⟩) A.length cap) := cell_of hb 0
  have c1 : w.cell? ⟨pb, 1, none⟩ = some (.int .i64 c.length) := cell_of hb 1
  have c2 : w.cell? ⟨pb, 2, none⟩ = some (.bool false) := cell_of hb 2
  have c3 : w.cell? ⟨pb, 3, none⟩ = some (.int .i64 (outOf c)) := cell_of hb 3
  have f1 : w.frozen? ⟨pb, 1, none⟩ = false := frozen_of hb 1
  have f2 : w.frozen? ⟨pb, 2, none⟩ = false := frozen_of hb 2
  have f3 : w.frozen? ⟨pb, 3, none⟩ = false := frozen_of hb 3
  have hib : (c.length : Int) < (A.length : Int) := by omega
  clear hc
  go_enter Tryz.func71, Tryz.ntmps71
  go_wp2_with fail
  go_quiet (fail)
  go_wp2_with fail
  go_ret
  refine ⟨ret_bool ?_, _, rfl⟩
  rw [Bool.eq_iff_iff]; simp; omega

set_option maxRecDepth 100000 in
set_option maxHeartbeats 1000000 in
theorem is_bad (pb tb cap : Nat) (A r : List Pl.Tk) (t : Pl.Tk) (w : World) (k : Nat) (hP : PS pb tb cap A (t :: r) true w) (_hl : A.length ≤ 402) :
    Calls Tryz.prog 71 #[.pointer (some ⟨pb, 0, none⟩), .int .u8 k] w fun e w' => e = .returned (.bool false) ∧ ∃ n, w' = w.drewN n := by
  obtain ⟨c, hc, hb, e0, e1, e2, e3, hcl, htb⟩ := hP.cells
  have HC : Hid (c ++ t :: r = A) := hc
  have c0 : w.cell? ⟨pb, 0, none⟩ = some (.slice (some ⟨tb, 0, none⟩) A.length cap) := cell_of hb 0
  have c1 : w.cell? ⟨pb, 1, none⟩ = some (.int .i64 c.length) := cell_of hb 1
  have c2 : w.cell? ⟨pb, 2, none⟩ = some (.bool true) := cell_of hb 2
  have c3 : w.cell? ⟨pb, 3, none⟩ = some (.int .i64 (outOf c)) := cell_of hb 3
  have f1 : w.frozen? ⟨pb, 1, none⟩ = false := frozen_of hb 1
  have f2 : w.frozen? ⟨pb, 2, none⟩ = false := frozen_of hb 2
  have f3 : w.frozen? ⟨pb, 3, none⟩ = false := frozen_of hb 3
  have hib : (c.length : Int) < (A.length : Int) := by omega
  clear hc
  go_enter Tryz.func71, Tryz.ntmps71
  go_wp2_with fail
  go_quiet (fail)
  go_wp2_with fail
  go_ret
  exact ⟨rfl, _, rfl⟩

end Go.Proofs.YtmfnlpmlmgjleaaGreatDoor
