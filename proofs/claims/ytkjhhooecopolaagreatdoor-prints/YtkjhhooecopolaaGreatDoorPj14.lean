import Derived.Test.YtkjhhooecopolaaGreatDoorPj07
import Derived.Test.YtkjhhooecopolaaGreatDoorPj13
import Derived.BigQuiet
import Derived.Deep.QuietTactic
import Derived.Deep.RegionHeld3
namespace Go.Proofs.YtkjhhooecopolaaGreatDoor
open Go.RowKit

/-- Only block pb has turned, of those that were there. -/
structure Fp (pb : Nat) (w w' : World) : Prop where
  os : w'.os = w.os
  tape : w'.tape = w.tape
  output : w'.output = w.output
  size : w.heap.size ≤ w'.heap.size
  block : ∀ k, k < w.heap.size → k ≠ pb → w'.heap[k]? = w.heap[k]?

theorem Fp.refl (pb : Nat) (w : World) : Fp pb w w := ⟨rfl, rfl, rfl, Nat.le_refl _, fun _ _ _ => rfl⟩
theorem Fp.trans {pb : Nat} {a b c : World} (h : Fp pb a b) (k : Fp pb b c) : Fp pb a c :=
  ⟨k.os.trans h.os, k.tape.trans h.tape, k.output.trans h.output, Nat.le_trans h.size k.size, fun i hi hne => (k.block i (Nat.lt_of_lt_of_le hi h.size) hne).trans (h.block i hi hne)⟩
theorem Fp.drewN {pb : Nat} {a w : World} (h : Fp pb a w) (n : Nat) : Fp pb a (w.drewN n) := ⟨h.os, h.tape, h.output, h.size, h.block⟩
theorem Fp.set {pb : Nat} {a w : World} (h : Fp pb a w) (o : Nat) (v : Value) : Fp pb a (w.setCell ⟨pb, o, none⟩ v) :=
  ⟨h.os, h.tape, h.output, by simp; exact h.size, fun k hk hne => (heap_set_ne hne _).trans (h.block k hk hne)⟩
theorem Fp.of_below {pb : Nat} {w w' : World} (h : Below w.heap.size w w') : Fp pb w w' := ⟨h.os, h.tape, h.output, h.size, fun k hk _ => h.block k hk⟩
theorem Fp.below {pb : Nat} {w w' : World} (h : Fp pb w w') (B : Nat) (hB : B ≤ pb) (hs : B ≤ w.heap.size) : Below B w w' := ⟨h.os, h.tape, h.output, h.size, fun k hk => h.block k (by omega) (by omega)⟩

def outOf (c : List Pl.Tk) : Int := match c.find? outT with | some u => u.pl | none => -1

/-- The reference's parser at block pb; the tokens' row at block tb. -/
def PS (pb tb cap : Nat) (A l : List Pl.Tk) (bad : Bool) (w : World) : Prop :=
  tb ≠ pb ∧ (∃ cur, w.heap[tb]? = some (.cells cur 61 (0, 0)) ∧ ∀ (j : Nat) u, (refRow A)[j]? = some u → cur[j]? = some u) ∧
  ∃ c, c ++ l = A ∧ w.heap[pb]? = some (.cells #[.slice (some ⟨tb, 0, none⟩) A.length cap, .int .i64 c.length, .bool bad, .int .i64 (outOf c)] 55 (0, 0))

theorem refRow_get (c : List Pl.Tk) (k : Nat) (t : Pl.Tk) (h : c[k]? = some t) (j : Nat) (hj : j < 4) : (refRow c)[k * 4 + j]? = (refCells t)[j]? := by
  induction c generalizing k with
  | nil => simp at h
  | cons a r ih =>
    cases k with
    | zero =>
      have : a = t := by simpa using h
      subst this
      simp only [refRow, List.flatMap_cons, Nat.zero_mul, Nat.zero_add]
      rw [List.getElem?_append_left (by simp [refCells]; omega)]
      simp
    | succ k =>
      have h' : r[k]? = some t := by simpa using h
      have := ih k h'
      simp only [refRow, List.flatMap_cons] at this ⊢
      rw [List.getElem?_append_right (by simp [refCells]; omega)]
      rw [← this]
      congr 1
      simp [refCells]; omega

/-- What the walk wants of the parser: its cells and those of the token at hand. -/
theorem PS.cells {pb tb cap : Nat} {A r : List Pl.Tk} {t : Pl.Tk} {bad : Bool} {w : World} (h : PS pb tb cap A (t :: r) bad w) :
    ∃ c : List Pl.Tk, c ++ t :: r = A ∧ w.heap[pb]? = some (.cells #[.slice (some ⟨tb, 0, none⟩) A.length cap, .int .i64 c.length, .bool bad, .int .i64 (outOf c)] 55 (0, 0)) ∧
      w.cell? ⟨tb, c.length * 4, none⟩ = some (.int .u8 t.k) ∧ w.cell? ⟨tb, c.length * 4 + 1, none⟩ = some (.string ⟨(Pl.rS t).toArray⟩) ∧ w.cell? ⟨tb, c.length * 4 + 2, none⟩ = some (.int .i64 t.n) ∧ w.cell? ⟨tb, c.length * 4 + 3, none⟩ = some (.int .i64 t.pl) ∧
      c.length < A.length ∧ tb < w.heap.size := by
  obtain ⟨hne, ⟨cur, hcur, hrow⟩, c, hc, hb⟩ := h
  have hg : A[c.length]? = some t := by rw [← hc]; simp
  have hcell : ∀ j u, j < 4 → (refCells t)[j]? = some u → w.cell? ⟨tb, c.length * 4 + j, none⟩ = some u := fun j u hj hu => by
    rw [cell_of hcur]
    exact hrow _ _ (by rw [refRow_get A c.length t hg j hj]; exact hu)
  exact ⟨c, hc, hb, by simpa using hcell 0 (.int .u8 t.k) (by omega) rfl, hcell 1 _ (by omega) rfl, hcell 2 _ (by omega) rfl, hcell 3 _ (by omega) rfl, by rw [← hc]; simp, lt_of_heap hcur⟩

theorem PS.mono {pb tb cap : Nat} {A l : List Pl.Tk} {bad : Bool} {w w' : World} (h : PS pb tb cap A l bad w) (hk : ∀ k, k < w.heap.size → w'.heap[k]? = w.heap[k]?) : PS pb tb cap A l bad w' := by
  obtain ⟨hne, ⟨cur, hcur, hrow⟩, c, hc, hb⟩ := h
  exact ⟨hne, ⟨cur, (hk _ (lt_of_heap hcur)).trans hcur, hrow⟩, c, hc, (hk _ (lt_of_heap hb)).trans hb⟩

/-- The parser's own block written anew. -/
theorem PS.put {pb tb cap : Nat} {A l l' : List Pl.Tk} {bad bad' : Bool} {w w' : World} (h : PS pb tb cap A l bad w) (c : List Pl.Tk) (hc : c ++ l' = A)
    (hk : ∀ k, k < w.heap.size → k ≠ pb → w'.heap[k]? = w.heap[k]?) (hb : w'.heap[pb]? = some (.cells #[.slice (some ⟨tb, 0, none⟩) A.length cap, .int .i64 c.length, .bool bad', .int .i64 (outOf c)] 55 (0, 0))) : PS pb tb cap A l' bad' w' := by
  obtain ⟨hne, ⟨cur, hcur, hrow⟩, _⟩ := h
  exact ⟨hne, ⟨cur, (hk _ (lt_of_heap hcur) hne).trans hcur, hrow⟩, c, hc, hb⟩

theorem outOf_snoc (c : List Pl.Tk) (t : Pl.Tk) (h : t.k ≠ 110) : outOf (c ++ [t]) = outOf c := by
  unfold outOf
  have : outT t = false := by unfold outT; simp [h]
  rw [List.find?_append]
  cases h1 : c.find? outT <;> simp [this]

theorem heap_dn (w : World) (n k : Nat) : (w.drewN n).heap[k]? = w.heap[k]? := rfl

set_option maxRecDepth 100000 in
set_option maxHeartbeats 1000000 in
theorem mark_yes (pb tb cap : Nat) (A r : List Pl.Tk) (t : Pl.Tk) (w : World) (k : Nat) (hP : PS pb tb cap A (t :: r) false w) (hl : A.length ≤ 402) (hk : t.k = k) (h110 : k ≠ 110) :
    Calls Tryz.prog 42 #[.pointer (some ⟨pb, 0, none⟩), .int .u8 k] w fun e w' => e = .returned (.tuple #[]) ∧ PS pb tb cap A r false w' ∧ Fp pb w w' := by
  obtain ⟨c, hc, hb, e0, e1, e2, e3, hcl, htb⟩ := hP.cells
  have HC : Hid (c ++ t :: r = A) := hc
  have HO : Hid (outOf (c ++ [t]) = outOf c) := outOf_snoc c t (by omega)
  have c0 : w.cell? ⟨pb, 0, none⟩ = some (.slice (some ⟨tb, 0, none⟩) A.length cap) := cell_of hb 0
  have c1 : w.cell? ⟨pb, 1, none⟩ = some (.int .i64 c.length) := cell_of hb 1
  have c2 : w.cell? ⟨pb, 2, none⟩ = some (.bool false) := cell_of hb 2
  have f1 : w.frozen? ⟨pb, 1, none⟩ = false := frozen_of hb 1
  rw [hk] at e0
  clear hc hk
  have hib : (c.length : Int) < (A.length : Int) := by omega
  go_enter Tryz.func42, Tryz.ntmps42
  go_wp2_with fail
  go_quiet (fail)
  go_wp2_with fail
  go_end0
  refine ⟨rfl, hP.put (c ++ [t]) (by rw [← HC.out]; simp) (fun k hk hne => heap_set_ne hne _) ?_, ((Fp.refl pb w).drewN nq).set 1 _⟩
  have q := heap_set (w := w.drewN nq) (o := 1) hb (.int .i64 ((c.length : Int) + 1))
  rw [HO.out]
  simpa using q

set_option maxRecDepth 100000 in
set_option maxHeartbeats 1000000 in
theorem mark_no (pb tb cap : Nat) (A r : List Pl.Tk) (t : Pl.Tk) (w : World) (k : Nat) (hP : PS pb tb cap A (t :: r) false w) (_hl : A.length ≤ 402) (hk : t.k ≠ k) :
    Calls Tryz.prog 42 #[.pointer (some ⟨pb, 0, none⟩), .int .u8 k] w fun e w' => e = .returned (.tuple #[]) ∧ PS pb tb cap A (t :: r) true w' ∧ Fp pb w w' := by
  obtain ⟨c, hc, hb, e0, e1, e2, e3, hcl, htb⟩ := hP.cells
  have HC : Hid (c ++ t :: r = A) := hc
  have c0 : w.cell? ⟨pb, 0, none⟩ = some (.slice (some ⟨tb, 0, none⟩) A.length cap) := cell_of hb 0
  have c1 : w.cell? ⟨pb, 1, none⟩ = some (.int .i64 c.length) := cell_of hb 1
  have c2 : w.cell? ⟨pb, 2, none⟩ = some (.bool false) := cell_of hb 2
  have c3 : w.cell? ⟨pb, 3, none⟩ = some (.int .i64 (outOf c)) := cell_of hb 3
  have f1 : w.frozen? ⟨pb, 1, none⟩ = false := frozen_of hb 1
  have f2 : w.frozen? ⟨pb, 2, none⟩ = false := frozen_of hb 2
  have f3 : w.frozen? ⟨pb, 3, none⟩ = false := frozen_of hb 3
  have hib : (c.length : Int) < (A.length : Int) := by omega
  clear hc
  have hkb : ((t.k : Int) == (k : Int)) = false := by rw [beq_eq_false_iff_ne]; omega
  clear hk
  go_enter Tryz.func42, Tryz.ntmps42
  go_wp2_with fail
  go_quiet (fail)
  go_wp2_with fail
  go_end0
  refine ⟨rfl, hP.put c HC.out (fun k hk hne => heap_set_ne hne _) ?_, ((Fp.refl pb w).drewN nq).set 2 _⟩
  exact heap_set (w := w.drewN nq) (o := 2) hb (.bool true)

set_option maxRecDepth 100000 in
set_option maxHeartbeats 1000000 in
theorem mark_bad (pb tb cap : Nat) (A r : List Pl.Tk) (t : Pl.Tk) (w : World) (k : Nat) (hP : PS pb tb cap A (t :: r) true w) (_hl : A.length ≤ 402) :
    Calls Tryz.prog 42 #[.pointer (some ⟨pb, 0, none⟩), .int .u8 k] w fun e w' => e = .returned (.tuple #[]) ∧ PS pb tb cap A (t :: r) true w' ∧ Fp pb w w' := by
  obtain ⟨c, hc, hb, e0, e1, e2, e3, hcl, htb⟩ := hP.cells
  have HC : Hid (c ++ t :: r = A) := hc
  have c0 : w.cell? ⟨pb, 0, none⟩ = some (.slice (some ⟨tb, 0, none⟩) A.length cap) := cell_of hb 0
  have c1 : w.cell? ⟨pb, 1, none⟩ = some (.int .i64 c.length) := cell_of hb 1
  have c2 : w.cell? ⟨pb, 2, none⟩ = some (.bool true) := cell_of hb 2
  have c3 : w.cell? ⟨pb, 3, none⟩ = some (.int .i64 (outOf c)) := cell_of hb 3
  have f1 : w.frozen? ⟨pb, 1, none⟩ = false := frozen_of hb 1
  have f2 : w.frozen? ⟨pb, 2, none⟩ = false := frozen_of hb 2
  have f3 : w.frozen? ⟨pb, 3, none⟩ = false := frozen_of hb 3
  have hib : (c.length : Int) < (A.length : Int) := by omega
  clear hc
  go_enter Tryz.func42, Tryz.ntmps42
  go_wp2_with fail
  go_quiet (fail)
  go_wp2_with fail
  go_end0
  refine ⟨rfl, hP.put c HC.out (fun k hk hne => heap_set_ne hne _) ?_, ((Fp.refl pb w).drewN nq).set 2 _⟩
  exact heap_set (w := w.drewN nq) (o := 2) hb (.bool true)

set_option maxRecDepth 100000 in
set_option maxHeartbeats 1000000 in
theorem is_good (pb tb cap : Nat) (A r : List Pl.Tk) (t : Pl.Tk) (w : World) (k : Nat) (hP : PS pb tb cap A (t :: r) false w) (_hl : A.length ≤ 402) :
    Calls Tryz.prog 44 #[.pointer (some ⟨pb, 0, none⟩), .int .u8 k] w fun e w' => e = .returned (.bool (decide (t.k = k))) ∧ ∃ n, w' = w.drewN n := by
  obtain ⟨c, hc, hb, e0, e1, e2, e3, hcl, htb⟩ := hP.cells
  have HC : Hid (c ++ t :: r = A) := hc
  have c0 : w.cell? ⟨pb, 0, none⟩ = some (.slice (some ⟨tb, 0, none⟩) A.length cap) := cell_of hb 0
  have c1 : w.cell? ⟨pb, 1, none⟩ = some (.int .i64 c.length) := cell_of hb 1
  have c2 : w.cell? ⟨pb, 2, none⟩ = some (.bool false) := cell_of hb 2
  have c3 : w.cell? ⟨pb, 3, none⟩ = some (.int .i64 (outOf c)) := cell_of hb 3
  have f1 : w.frozen? ⟨pb, 1, none⟩ = false := frozen_of hb 1
  have f2 : w.frozen? ⟨pb, 2, none⟩ = false := frozen_of hb 2
  have f3 : w.frozen? ⟨pb, 3, none⟩ = false := frozen_of hb 3
  have hib : (c.length : Int) < (A.length : Int) := by omega
  clear hc
  go_enter Tryz.func44, Tryz.ntmps44
  go_wp2_with fail
  go_quiet (fail)
  go_wp2_with fail
  go_ret
  refine ⟨ret_bool ?_, _, rfl⟩
  rw [Bool.eq_iff_iff]; simp; omega

set_option maxRecDepth 100000 in
set_option maxHeartbeats 1000000 in
theorem is_bad (pb tb cap : Nat) (A r : List Pl.Tk) (t : Pl.Tk) (w : World) (k : Nat) (hP : PS pb tb cap A (t :: r) true w) (_hl : A.length ≤ 402) :
    Calls Tryz.prog 44 #[.pointer (some ⟨pb, 0, none⟩), .int .u8 k] w fun e w' => e = .returned (.bool false) ∧ ∃ n, w' = w.drewN n := by
  obtain ⟨c, hc, hb, e0, e1, e2, e3, hcl, htb⟩ := hP.cells
  have HC : Hid (c ++ t :: r = A) := hc
  have c0 : w.cell? ⟨pb, 0, none⟩ = some (.slice (some ⟨tb, 0, none⟩) A.length cap) := cell_of hb 0
  have c1 : w.cell? ⟨pb, 1, none⟩ = some (.int .i64 c.length) := cell_of hb 1
  have c2 : w.cell? ⟨pb, 2, none⟩ = some (.bool true) := cell_of hb 2
  have c3 : w.cell? ⟨pb, 3, none⟩ = some (.int .i64 (outOf c)) := cell_of hb 3
  have f1 : w.frozen? ⟨pb, 1, none⟩ = false := frozen_of hb 1
  have f2 : w.frozen? ⟨pb, 2, none⟩ = false := frozen_of hb 2
  have f3 : w.frozen? ⟨pb, 3, none⟩ = false := frozen_of hb 3
  have hib : (c.length : Int) < (A.length : Int) := by omega
  clear hc
  go_enter Tryz.func44, Tryz.ntmps44
  go_wp2_with fail
  go_quiet (fail)
  go_wp2_with fail
  go_ret
  exact ⟨rfl, _, rfl⟩

end Go.Proofs.YtkjhhooecopolaaGreatDoor

namespace Go.Proofs.YtkjhhooecopolaaGreatDoor
open Go.RowKit

theorem Fp.alloc {pb : Nat} {a w : World} (h : Fp pb a w) (o : Obj) : Fp pb a (w.alloc o) :=
  ⟨h.os, h.tape, h.output, by simp; exact Nat.le_succ_of_le h.size, fun k hk hne => (Below.heap_alloc _ _ _ (Nat.lt_of_lt_of_le hk h.size)).trans (h.block k hk hne)⟩
theorem Fp.drew {pb : Nat} {a w : World} (h : Fp pb a w) : Fp pb a w.drew := ⟨h.os, h.tape, h.output, h.size, h.block⟩

set_option maxRecDepth 100000 in
set_option maxHeartbeats 1000000 in
theorem word_yes (pb tb cap : Nat) (A r : List Pl.Tk) (t : Pl.Tk) (w : World) (q : ByteArray) (hP : PS pb tb cap A (t :: r) false w) (hl : A.length ≤ 402) (hk : t.k = 119) (hq : (⟨t.raw.toArray⟩ : ByteArray) = q) :
    Calls Tryz.prog 29 #[.pointer (some ⟨pb, 0, none⟩), .string q] w fun e w' => e = .returned (.bool true) ∧ PS pb tb cap A r false w' ∧ Fp pb w w' := by
  obtain ⟨c, hc, hb, e0, e1, e2, e3, hcl, htb⟩ := hP.cells
  have HC : Hid (c ++ t :: r = A) := hc
  have c0 : w.cell? ⟨pb, 0, none⟩ = some (.slice (some ⟨tb, 0, none⟩) A.length cap) := cell_of hb 0
  have c1 : w.cell? ⟨pb, 1, none⟩ = some (.int .i64 c.length) := cell_of hb 1
  have c2 : w.cell? ⟨pb, 2, none⟩ = some (.bool false) := cell_of hb 2
  have c3 : w.cell? ⟨pb, 3, none⟩ = some (.int .i64 (outOf c)) := cell_of hb 3
  have f1 : w.frozen? ⟨pb, 1, none⟩ = false := frozen_of hb 1
  have f2 : w.frozen? ⟨pb, 2, none⟩ = false := frozen_of hb 2
  have f3 : w.frozen? ⟨pb, 3, none⟩ = false := frozen_of hb 3
  have hib : (c.length : Int) < (A.length : Int) := by omega
  have hpb : pb < w.heap.size := lt_of_heap hb
  clear hc
  have HO : Hid (outOf (c ++ [t]) = outOf c) := outOf_snoc c t (by omega)
  have hrs : Pl.rS t = t.raw := by unfold Pl.rS; rw [if_neg (by omega)]
  rw [hrs, hq] at e1
  rw [hk] at e0
  clear hk hq hrs
  go_enter Tryz.func29, Tryz.ntmps29
  go_wp2_with fail
  go_quiet (fail)
  go_wp2_with fail
  go_ret
  refine ⟨rfl, hP.put (c ++ [t]) (by rw [← HC.out]; simp) (fun k hk hne => heap_set_ne hne _) ?_, ((Fp.refl pb w).drewN nq).set 1 _⟩
  have q := heap_set (w := w.drewN nq) (o := 1) hb (.int .i64 ((c.length : Int) + 1))
  rw [HO.out]
  simpa using q

set_option maxRecDepth 100000 in
set_option maxHeartbeats 1000000 in
theorem word_no1 (pb tb cap : Nat) (A r : List Pl.Tk) (t : Pl.Tk) (w : World) (q : ByteArray) (hP : PS pb tb cap A (t :: r) false w) (_hl : A.length ≤ 402) (hk : t.k ≠ 119) :
    Calls Tryz.prog 29 #[.pointer (some ⟨pb, 0, none⟩), .string q] w fun e w' => e = .returned (.bool false) ∧ ∃ n, w' = w.drewN n := by
  obtain ⟨c, hc, hb, e0, e1, e2, e3, hcl, htb⟩ := hP.cells
  have HC : Hid (c ++ t :: r = A) := hc
  have c0 : w.cell? ⟨pb, 0, none⟩ = some (.slice (some ⟨tb, 0, none⟩) A.length cap) := cell_of hb 0
  have c1 : w.cell? ⟨pb, 1, none⟩ = some (.int .i64 c.length) := cell_of hb 1
  have c2 : w.cell? ⟨pb, 2, none⟩ = some (.bool false) := cell_of hb 2
  have c3 : w.cell? ⟨pb, 3, none⟩ = some (.int .i64 (outOf c)) := cell_of hb 3
  have f1 : w.frozen? ⟨pb, 1, none⟩ = false := frozen_of hb 1
  have f2 : w.frozen? ⟨pb, 2, none⟩ = false := frozen_of hb 2
  have f3 : w.frozen? ⟨pb, 3, none⟩ = false := frozen_of hb 3
  have hib : (c.length : Int) < (A.length : Int) := by omega
  have hpb : pb < w.heap.size := lt_of_heap hb
  clear hc
  have hkb : ((t.k : Int) == 119) = false := by rw [beq_eq_false_iff_ne]; omega
  clear hk
  go_enter Tryz.func29, Tryz.ntmps29
  go_wp2_with fail
  go_quiet (fail)
  go_wp2_with fail
  go_ret
  exact ⟨rfl, _, rfl⟩

set_option maxRecDepth 100000 in
set_option maxHeartbeats 1000000 in
theorem word_no2 (pb tb cap : Nat) (A r : List Pl.Tk) (t : Pl.Tk) (w : World) (q : ByteArray) (hP : PS pb tb cap A (t :: r) false w) (_hl : A.length ≤ 402) (hk : t.k = 119) (hq : ((⟨t.raw.toArray⟩ : ByteArray).toList == q.toList) = false) :
    Calls Tryz.prog 29 #[.pointer (some ⟨pb, 0, none⟩), .string q] w fun e w' => e = .returned (.bool false) ∧ ∃ n, w' = w.drewN n := by
  obtain ⟨c, hc, hb, e0, e1, e2, e3, hcl, htb⟩ := hP.cells
  have HC : Hid (c ++ t :: r = A) := hc
  have c0 : w.cell? ⟨pb, 0, none⟩ = some (.slice (some ⟨tb, 0, none⟩) A.length cap) := cell_of hb 0
  have c1 : w.cell? ⟨pb, 1, none⟩ = some (.int .i64 c.length) := cell_of hb 1
  have c2 : w.cell? ⟨pb, 2, none⟩ = some (.bool false) := cell_of hb 2
  have c3 : w.cell? ⟨pb, 3, none⟩ = some (.int .i64 (outOf c)) := cell_of hb 3
  have f1 : w.frozen? ⟨pb, 1, none⟩ = false := frozen_of hb 1
  have f2 : w.frozen? ⟨pb, 2, none⟩ = false := frozen_of hb 2
  have f3 : w.frozen? ⟨pb, 3, none⟩ = false := frozen_of hb 3
  have hib : (c.length : Int) < (A.length : Int) := by omega
  have hpb : pb < w.heap.size := lt_of_heap hb
  clear hc
  have hrs : Pl.rS t = t.raw := by unfold Pl.rS; rw [if_neg (by omega)]
  rw [hrs] at e1
  rw [hk] at e0
  clear hk hrs
  generalize (⟨t.raw.toArray⟩ : ByteArray) = rw' at *
  go_enter Tryz.func29, Tryz.ntmps29
  go_wp2_with fail
  go_quiet (fail)
  go_wp2_with fail
  go_ret
  exact ⟨rfl, _, rfl⟩

set_option maxRecDepth 100000 in
set_option maxHeartbeats 1000000 in
theorem number_bad (pb tb cap : Nat) (A r : List Pl.Tk) (t : Pl.Tk) (w : World) (hP : PS pb tb cap A (t :: r) true w) (_hl : A.length ≤ 402) :
    Calls Tryz.prog 145 #[.pointer (some ⟨pb, 0, none⟩)] w fun e w' => e = .returned (.int .i64 0) ∧ PS pb tb cap A (t :: r) true w' ∧ Fp pb w w' := by
  obtain ⟨c, hc, hb, e0, e1, e2, e3, hcl, htb⟩ := hP.cells
  have HC : Hid (c ++ t :: r = A) := hc
  have c0 : w.cell? ⟨pb, 0, none⟩ = some (.slice (some ⟨tb, 0, none⟩) A.length cap) := cell_of hb 0
  have c1 : w.cell? ⟨pb, 1, none⟩ = some (.int .i64 c.length) := cell_of hb 1
  have c2 : w.cell? ⟨pb, 2, none⟩ = some (.bool true) := cell_of hb 2
  have c3 : w.cell? ⟨pb, 3, none⟩ = some (.int .i64 (outOf c)) := cell_of hb 3
  have f1 : w.frozen? ⟨pb, 1, none⟩ = false := frozen_of hb 1
  have f2 : w.frozen? ⟨pb, 2, none⟩ = false := frozen_of hb 2
  have f3 : w.frozen? ⟨pb, 3, none⟩ = false := frozen_of hb 3
  have hib : (c.length : Int) < (A.length : Int) := by omega
  have hpb : pb < w.heap.size := lt_of_heap hb
  clear hc
  have n0 := World.new_ne w _ c0
  have n1 := World.new_ne w _ c1
  have n2 := World.new_ne w _ e0
  have n3 := World.new_ne w _ e1
  have n4 := World.new_ne w _ e2
  have n5 := World.new_ne w _ e3
  go_enter Tryz.func145, Tryz.ntmps145
  go_wp2_with fail
  go_region_held3 (fun w' => w'.cell? ⟨pb, 0, none⟩ = some (.slice (some ⟨tb, 0, none⟩) A.length cap) ∧ w'.cell? ⟨pb, 1, none⟩ = some (.int .i64 c.length) ∧ w'.cell? ⟨tb, c.length * 4, none⟩ = some (.int .u8 t.k) ∧ w'.cell? ⟨tb, c.length * 4 + 1, none⟩ = some (.string ⟨(Pl.rS t).toArray⟩) ∧ w'.cell? ⟨tb, c.length * 4 + 2, none⟩ = some (.int .i64 t.n) ∧ w'.cell? ⟨tb, c.length * 4 + 3, none⟩ = some (.int .i64 t.pl)) (go_keep) (fail)
  go_wp2_with fail
  go_ret
  refine ⟨rfl, hP.put c HC.out (fun k hk hne => (Below.heap_alloc _ _ _ (by simp; exact hk)).trans (heap_set_ne hne _)) ?_, (((Fp.refl pb w).set 2 _).alloc _).drew⟩
  exact (Below.heap_alloc _ _ _ (by simp; exact hpb)).trans (heap_set (o := 2) hb (.bool true))

set_option maxRecDepth 100000 in
set_option maxHeartbeats 1000000 in
theorem number_no (pb tb cap : Nat) (A r : List Pl.Tk) (t : Pl.Tk) (w : World) (hP : PS pb tb cap A (t :: r) false w) (_hl : A.length ≤ 402) (hk : t.k ≠ 110) :
    Calls Tryz.prog 145 #[.pointer (some ⟨pb, 0, none⟩)] w fun e w' => e = .returned (.int .i64 0) ∧ PS pb tb cap A (t :: r) true w' ∧ Fp pb w w' := by
  obtain ⟨c, hc, hb, e0, e1, e2, e3, hcl, htb⟩ := hP.cells
  have HC : Hid (c ++ t :: r = A) := hc
  have c0 : w.cell? ⟨pb, 0, none⟩ = some (.slice (some ⟨tb, 0, none⟩) A.length cap) := cell_of hb 0
  have c1 : w.cell? ⟨pb, 1, none⟩ = some (.int .i64 c.length) := cell_of hb 1
  have c2 : w.cell? ⟨pb, 2, none⟩ = some (.bool false) := cell_of hb 2
  have c3 : w.cell? ⟨pb, 3, none⟩ = some (.int .i64 (outOf c)) := cell_of hb 3
  have f1 : w.frozen? ⟨pb, 1, none⟩ = false := frozen_of hb 1
  have f2 : w.frozen? ⟨pb, 2, none⟩ = false := frozen_of hb 2
  have f3 : w.frozen? ⟨pb, 3, none⟩ = false := frozen_of hb 3
  have hib : (c.length : Int) < (A.length : Int) := by omega
  have hpb : pb < w.heap.size := lt_of_heap hb
  clear hc
  have hkb : ((t.k : Int) != 110) = true := by rw [bne_iff_ne]; omega
  clear hk
  have n0 := World.new_ne w _ c0
  have n1 := World.new_ne w _ c1
  have n2 := World.new_ne w _ e0
  have n3 := World.new_ne w _ e1
  have n4 := World.new_ne w _ e2
  have n5 := World.new_ne w _ e3
  go_enter Tryz.func145, Tryz.ntmps145
  go_wp2_with fail
  go_region_held3 (fun w' => w'.cell? ⟨pb, 0, none⟩ = some (.slice (some ⟨tb, 0, none⟩) A.length cap) ∧ w'.cell? ⟨pb, 1, none⟩ = some (.int .i64 c.length) ∧ w'.cell? ⟨tb, c.length * 4, none⟩ = some (.int .u8 t.k) ∧ w'.cell? ⟨tb, c.length * 4 + 1, none⟩ = some (.string ⟨(Pl.rS t).toArray⟩) ∧ w'.cell? ⟨tb, c.length * 4 + 2, none⟩ = some (.int .i64 t.n) ∧ w'.cell? ⟨tb, c.length * 4 + 3, none⟩ = some (.int .i64 t.pl)) (go_keep) (fail)
  go_wp2_with fail
  go_ret
  refine ⟨rfl, hP.put c HC.out (fun k hk hne => (Below.heap_alloc _ _ _ (by simp; exact hk)).trans (heap_set_ne hne _)) ?_, (((Fp.refl pb w).set 2 _).alloc _).drew⟩
  exact (Below.heap_alloc _ _ _ (by simp; exact hpb)).trans (heap_set (o := 2) hb (.bool true))

set_option maxRecDepth 100000 in
set_option maxHeartbeats 1000000 in
theorem number_yesA (pb tb cap : Nat) (A r : List Pl.Tk) (t : Pl.Tk) (w : World) (hP : PS pb tb cap A (t :: r) false w) (hl : A.length ≤ 402) (hk : t.k = 110) (ho : ∀ c : List Pl.Tk, c ++ t :: r = A → 0 ≤ outOf c) :
    Calls Tryz.prog 145 #[.pointer (some ⟨pb, 0, none⟩)] w fun e w' => e = .returned (.int .i64 t.n) ∧ PS pb tb cap A r false w' ∧ Fp pb w w' := by
  obtain ⟨c, hc, hb, e0, e1, e2, e3, hcl, htb⟩ := hP.cells
  have HC : Hid (c ++ t :: r = A) := hc
  have c0 : w.cell? ⟨pb, 0, none⟩ = some (.slice (some ⟨tb, 0, none⟩) A.length cap) := cell_of hb 0
  have c1 : w.cell? ⟨pb, 1, none⟩ = some (.int .i64 c.length) := cell_of hb 1
  have c2 : w.cell? ⟨pb, 2, none⟩ = some (.bool false) := cell_of hb 2
  have c3 : w.cell? ⟨pb, 3, none⟩ = some (.int .i64 (outOf c)) := cell_of hb 3
  have f1 : w.frozen? ⟨pb, 1, none⟩ = false := frozen_of hb 1
  have f2 : w.frozen? ⟨pb, 2, none⟩ = false := frozen_of hb 2
  have f3 : w.frozen? ⟨pb, 3, none⟩ = false := frozen_of hb 3
  have hib : (c.length : Int) < (A.length : Int) := by omega
  have hpb : pb < w.heap.size := lt_of_heap hb
  clear hc
  rw [hk] at e0
  have hoc := ho c HC.out
  have hd : decide (outOf c < 0) = false := by simp; omega
  have HO : Hid (outOf (c ++ [t]) = outOf c) := by
    show _ = _
    unfold outOf at hoc ⊢
    rw [List.find?_append]
    cases h1 : c.find? outT with
    | some u => rfl
    | none => rw [h1] at hoc; simp at hoc
  generalize outOf c = oc at *
  clear hk
  have n0 := World.new_ne w _ c0
  have n1 := World.new_ne w _ c1
  have n2 := World.new_ne w _ e0
  have n3 := World.new_ne w _ e1
  have n4 := World.new_ne w _ e2
  have n5 := World.new_ne w _ e3
  go_enter Tryz.func145, Tryz.ntmps145
  go_wp2_with fail
  go_region_held3 (fun w' => w'.cell? ⟨pb, 0, none⟩ = some (.slice (some ⟨tb, 0, none⟩) A.length cap) ∧ w'.cell? ⟨pb, 1, none⟩ = some (.int .i64 c.length) ∧ w'.cell? ⟨tb, c.length * 4, none⟩ = some (.int .u8 110) ∧ w'.cell? ⟨tb, c.length * 4 + 1, none⟩ = some (.string ⟨(Pl.rS t).toArray⟩) ∧ w'.cell? ⟨tb, c.length * 4 + 2, none⟩ = some (.int .i64 t.n) ∧ w'.cell? ⟨tb, c.length * 4 + 3, none⟩ = some (.int .i64 t.pl)) (go_keep) (fail)
  go_wp2_with fail
  go_ret
  refine ⟨rfl, hP.put (c ++ [t]) (by rw [← HC.out]; simp) (fun k hk hne => (Below.heap_alloc _ _ _ (by simp; exact hk)).trans (heap_set_ne hne _)) ?_, (((Fp.refl pb w).set 1 _).alloc _).drew⟩
  have q := (Below.heap_alloc _ (.cells #[.int .u8 110, .string ⟨(Pl.rS t).toArray⟩, .int .i64 t.n, .int .i64 t.pl] 61) _ (by simp; exact hpb)).trans (heap_set (w := w) (o := 1) hb (.int .i64 ((c.length : Int) + 1)))
  rw [HO.out]
  simp only [List.length_append, List.length_cons, List.length_nil]
  exact q

set_option maxRecDepth 100000 in
set_option maxHeartbeats 1000000 in
theorem number_yesB (pb tb cap : Nat) (A r : List Pl.Tk) (t : Pl.Tk) (w : World) (hP : PS pb tb cap A (t :: r) false w) (hl : A.length ≤ 402) (hk : t.k = 110) (ho : ∀ c : List Pl.Tk, c ++ t :: r = A → outOf c < 0) (hin : inR 50 t.n = true) :
    Calls Tryz.prog 145 #[.pointer (some ⟨pb, 0, none⟩)] w fun e w' => e = .returned (.int .i64 t.n) ∧ PS pb tb cap A r false w' ∧ Fp pb w w' := by
  obtain ⟨c, hc, hb, e0, e1, e2, e3, hcl, htb⟩ := hP.cells
  have HC : Hid (c ++ t :: r = A) := hc
  have c0 : w.cell? ⟨pb, 0, none⟩ = some (.slice (some ⟨tb, 0, none⟩) A.length cap) := cell_of hb 0
  have c1 : w.cell? ⟨pb, 1, none⟩ = some (.int .i64 c.length) := cell_of hb 1
  have c2 : w.cell? ⟨pb, 2, none⟩ = some (.bool false) := cell_of hb 2
  have c3 : w.cell? ⟨pb, 3, none⟩ = some (.int .i64 (outOf c)) := cell_of hb 3
  have f1 : w.frozen? ⟨pb, 1, none⟩ = false := frozen_of hb 1
  have f2 : w.frozen? ⟨pb, 2, none⟩ = false := frozen_of hb 2
  have f3 : w.frozen? ⟨pb, 3, none⟩ = false := frozen_of hb 3
  have hib : (c.length : Int) < (A.length : Int) := by omega
  have hpb : pb < w.heap.size := lt_of_heap hb
  clear hc
  rw [hk] at e0
  have hoc := ho c HC.out
  have hr := of_decide_eq_true hin
  obtain ⟨hr1, hr2⟩ := hr
  have HO : Hid (outOf (c ++ [t]) = outOf c) := by
    show _ = _
    unfold outOf at hoc ⊢
    rw [List.find?_append]
    cases h1 : c.find? outT with
    | some u => rfl
    | none => simp [outT, hin]
  generalize outOf c = oc at *
  clear hin
  clear hk
  have n0 := World.new_ne w _ c0
  have n1 := World.new_ne w _ c1
  have n2 := World.new_ne w _ e0
  have n3 := World.new_ne w _ e1
  have n4 := World.new_ne w _ e2
  have n5 := World.new_ne w _ e3
  go_enter Tryz.func145, Tryz.ntmps145
  go_wp2_with fail
  go_region_held3 (fun w' => w'.cell? ⟨pb, 0, none⟩ = some (.slice (some ⟨tb, 0, none⟩) A.length cap) ∧ w'.cell? ⟨pb, 1, none⟩ = some (.int .i64 c.length) ∧ w'.cell? ⟨tb, c.length * 4, none⟩ = some (.int .u8 110) ∧ w'.cell? ⟨tb, c.length * 4 + 1, none⟩ = some (.string ⟨(Pl.rS t).toArray⟩) ∧ w'.cell? ⟨tb, c.length * 4 + 2, none⟩ = some (.int .i64 t.n) ∧ w'.cell? ⟨tb, c.length * 4 + 3, none⟩ = some (.int .i64 t.pl)) (go_keep) (fail)
  go_wp2_with fail
  go_ret
  refine ⟨rfl, hP.put (c ++ [t]) (by rw [← HC.out]; simp) (fun k hk hne => (Below.heap_alloc _ _ _ (by simp; exact hk)).trans (heap_set_ne hne _)) ?_, (((Fp.refl pb w).set 1 _).alloc _).drew⟩
  have q := (Below.heap_alloc _ (.cells #[.int .u8 110, .string ⟨(Pl.rS t).toArray⟩, .int .i64 t.n, .int .i64 t.pl] 61) _ (by simp; exact hpb)).trans (heap_set (w := w) (o := 1) hb (.int .i64 ((c.length : Int) + 1)))
  rw [HO.out]
  simp only [List.length_append, List.length_cons, List.length_nil]
  exact q

set_option maxRecDepth 100000 in
set_option maxHeartbeats 1000000 in
theorem number_yesC (pb tb cap : Nat) (A r : List Pl.Tk) (t : Pl.Tk) (w : World) (hP : PS pb tb cap A (t :: r) false w) (hl : A.length ≤ 402) (hk : t.k = 110) (ho : ∀ c : List Pl.Tk, c ++ t :: r = A → outOf c < 0) (hin : 50 < t.n) :
    Calls Tryz.prog 145 #[.pointer (some ⟨pb, 0, none⟩)] w fun e w' => e = .returned (.int .i64 t.n) ∧ PS pb tb cap A r false w' ∧ Fp pb w w' := by
  obtain ⟨c, hc, hb, e0, e1, e2, e3, hcl, htb⟩ := hP.cells
  have HC : Hid (c ++ t :: r = A) := hc
  have c0 : w.cell? ⟨pb, 0, none⟩ = some (.slice (some ⟨tb, 0, none⟩) A.length cap) := cell_of hb 0
  have c1 : w.cell? ⟨pb, 1, none⟩ = some (.int .i64 c.length) := cell_of hb 1
  have c2 : w.cell? ⟨pb, 2, none⟩ = some (.bool false) := cell_of hb 2
  have c3 : w.cell? ⟨pb, 3, none⟩ = some (.int .i64 (outOf c)) := cell_of hb 3
  have f1 : w.frozen? ⟨pb, 1, none⟩ = false := frozen_of hb 1
  have f2 : w.frozen? ⟨pb, 2, none⟩ = false := frozen_of hb 2
  have f3 : w.frozen? ⟨pb, 3, none⟩ = false := frozen_of hb 3
  have hib : (c.length : Int) < (A.length : Int) := by omega
  have hpb : pb < w.heap.size := lt_of_heap hb
  clear hc
  rw [hk] at e0
  have hoc := ho c HC.out
  have HO : Hid (outOf (c ++ [t]) = t.pl) := by
    show _ = _
    unfold outOf at hoc ⊢
    rw [List.find?_append]
    cases h1 : c.find? outT with
    | some u => rw [h1] at hoc; simp at hoc; omega
    | none =>
      have : outT t = true := by unfold outT inR; simp [hk]; omega
      simp [this]
  generalize outOf c = oc at *
  clear hk
  have n0 := World.new_ne w _ c0
  have n1 := World.new_ne w _ c1
  have n2 := World.new_ne w _ e0
  have n3 := World.new_ne w _ e1
  have n4 := World.new_ne w _ e2
  have n5 := World.new_ne w _ e3
  go_enter Tryz.func145, Tryz.ntmps145
  go_wp2_with fail
  go_region_held3 (fun w' => w'.cell? ⟨pb, 0, none⟩ = some (.slice (some ⟨tb, 0, none⟩) A.length cap) ∧ w'.cell? ⟨pb, 1, none⟩ = some (.int .i64 c.length) ∧ w'.cell? ⟨tb, c.length * 4, none⟩ = some (.int .u8 110) ∧ w'.cell? ⟨tb, c.length * 4 + 1, none⟩ = some (.string ⟨(Pl.rS t).toArray⟩) ∧ w'.cell? ⟨tb, c.length * 4 + 2, none⟩ = some (.int .i64 t.n) ∧ w'.cell? ⟨tb, c.length * 4 + 3, none⟩ = some (.int .i64 t.pl)) (go_keep) (fail)
  go_wp2_with fail
  go_ret
  refine ⟨rfl, hP.put (c ++ [t]) (by rw [← HC.out]; simp) (fun k hk hne => (Below.heap_alloc _ _ _ (by simp; exact hk)).trans ((heap_set_ne hne _).trans (heap_set_ne hne _))) ?_, ((((Fp.refl pb w).set 1 _).set 3 _).alloc _).drew⟩
  have q := (Below.heap_alloc _ (.cells #[.int .u8 110, .string ⟨(Pl.rS t).toArray⟩, .int .i64 t.n, .int .i64 t.pl] 61) _ (by simp; exact hpb)).trans (heap_set (o := 3) (heap_set (w := w) (o := 1) hb (.int .i64 ((c.length : Int) + 1))) (.int .i64 t.pl))
  rw [HO.out]
  simp only [List.length_append, List.length_cons, List.length_nil]
  exact q

set_option maxRecDepth 100000 in
set_option maxHeartbeats 1000000 in
theorem number_yesD (pb tb cap : Nat) (A r : List Pl.Tk) (t : Pl.Tk) (w : World) (hP : PS pb tb cap A (t :: r) false w) (hl : A.length ≤ 402) (hk : t.k = 110) (ho : ∀ c : List Pl.Tk, c ++ t :: r = A → outOf c < 0) (hin : t.n < -50) :
    Calls Tryz.prog 145 #[.pointer (some ⟨pb, 0, none⟩)] w fun e w' => e = .returned (.int .i64 t.n) ∧ PS pb tb cap A r false w' ∧ Fp pb w w' := by
  obtain ⟨c, hc, hb, e0, e1, e2, e3, hcl, htb⟩ := hP.cells
  have HC : Hid (c ++ t :: r = A) := hc
  have c0 : w.cell? ⟨pb, 0, none⟩ = some (.slice (some ⟨tb, 0, none⟩) A.length cap) := cell_of hb 0
  have c1 : w.cell? ⟨pb, 1, none⟩ = some (.int .i64 c.length) := cell_of hb 1
  have c2 : w.cell? ⟨pb, 2, none⟩ = some (.bool false) := cell_of hb 2
  have c3 : w.cell? ⟨pb, 3, none⟩ = some (.int .i64 (outOf c)) := cell_of hb 3
  have f1 : w.frozen? ⟨pb, 1, none⟩ = false := frozen_of hb 1
  have f2 : w.frozen? ⟨pb, 2, none⟩ = false := frozen_of hb 2
  have f3 : w.frozen? ⟨pb, 3, none⟩ = false := frozen_of hb 3
  have hib : (c.length : Int) < (A.length : Int) := by omega
  have hpb : pb < w.heap.size := lt_of_heap hb
  clear hc
  rw [hk] at e0
  have hoc := ho c HC.out
  have hin2 : decide (50 < t.n) = false := by simp; omega
  have HO : Hid (outOf (c ++ [t]) = t.pl) := by
    show _ = _
    unfold outOf at hoc ⊢
    rw [List.find?_append]
    cases h1 : c.find? outT with
    | some u => rw [h1] at hoc; simp at hoc; omega
    | none =>
      have : outT t = true := by unfold outT inR; simp [hk]; omega
      simp [this]
  generalize outOf c = oc at *
  clear hk
  have n0 := World.new_ne w _ c0
  have n1 := World.new_ne w _ c1
  have n2 := World.new_ne w _ e0
  have n3 := World.new_ne w _ e1
  have n4 := World.new_ne w _ e2
  have n5 := World.new_ne w _ e3
  go_enter Tryz.func145, Tryz.ntmps145
  go_wp2_with fail
  go_region_held3 (fun w' => w'.cell? ⟨pb, 0, none⟩ = some (.slice (some ⟨tb, 0, none⟩) A.length cap) ∧ w'.cell? ⟨pb, 1, none⟩ = some (.int .i64 c.length) ∧ w'.cell? ⟨tb, c.length * 4, none⟩ = some (.int .u8 110) ∧ w'.cell? ⟨tb, c.length * 4 + 1, none⟩ = some (.string ⟨(Pl.rS t).toArray⟩) ∧ w'.cell? ⟨tb, c.length * 4 + 2, none⟩ = some (.int .i64 t.n) ∧ w'.cell? ⟨tb, c.length * 4 + 3, none⟩ = some (.int .i64 t.pl)) (go_keep) (fail)
  go_wp2_with fail
  go_ret
  refine ⟨rfl, hP.put (c ++ [t]) (by rw [← HC.out]; simp) (fun k hk hne => (Below.heap_alloc _ _ _ (by simp; exact hk)).trans ((heap_set_ne hne _).trans (heap_set_ne hne _))) ?_, ((((Fp.refl pb w).set 1 _).set 3 _).alloc _).drew⟩
  have q := (Below.heap_alloc _ (.cells #[.int .u8 110, .string ⟨(Pl.rS t).toArray⟩, .int .i64 t.n, .int .i64 t.pl] 61) _ (by simp; exact hpb)).trans (heap_set (o := 3) (heap_set (w := w) (o := 1) hb (.int .i64 ((c.length : Int) + 1))) (.int .i64 t.pl))
  rw [HO.out]
  simp only [List.length_append, List.length_cons, List.length_nil]
  exact q

theorem number_yes (pb tb cap : Nat) (A r : List Pl.Tk) (t : Pl.Tk) (w : World) (hP : PS pb tb cap A (t :: r) false w) (hl : A.length ≤ 402) (hk : t.k = 110) :
    Calls Tryz.prog 145 #[.pointer (some ⟨pb, 0, none⟩)] w fun e w' => e = .returned (.int .i64 t.n) ∧ PS pb tb cap A r false w' ∧ Fp pb w w' := by
  obtain ⟨c, hc, _⟩ := hP.cells
  have huniq : ∀ c' : List Pl.Tk, c' ++ t :: r = A → c' = c := fun c' h => List.append_cancel_right (h.trans hc.symm)
  by_cases h0 : 0 ≤ outOf c
  · exact number_yesA pb tb cap A r t w hP hl hk (fun c' h => by rw [huniq c' h]; exact h0)
  · have hn : ∀ c' : List Pl.Tk, c' ++ t :: r = A → outOf c' < 0 := fun c' h => by rw [huniq c' h]; omega
    by_cases h1 : 50 < t.n
    · exact number_yesC pb tb cap A r t w hP hl hk hn h1
    · by_cases h2 : t.n < -50
      · exact number_yesD pb tb cap A r t w hP hl hk hn h2
      · exact number_yesB pb tb cap A r t w hP hl hk hn (by unfold inR; simp; omega)

end Go.Proofs.YtkjhhooecopolaaGreatDoor
