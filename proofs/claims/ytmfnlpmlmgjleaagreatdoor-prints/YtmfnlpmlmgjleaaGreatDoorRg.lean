import Derived.Test.YtmfnlpmlmgjleaaGreatDoorRf
import Derived.Test.YtmfnlpmlmgjleaaGreatDoorWs
namespace Go.Proofs.YtmfnlpmlmgjleaaGreatDoor
open Go.RowKit

theorem PS.lt {pb tb cap : Nat} {A l : List Pl.Tk} {bad : Bool} {w : World} (h : PS pb tb cap A l bad w) : pb < w.heap.size := by
  obtain ⟨_, _, c, _, hb⟩ := h
  exact lt_of_heap hb
theorem PS.alloc {pb tb cap : Nat} {A l : List Pl.Tk} {bad : Bool} {w : World} (h : PS pb tb cap A l bad w) (o : Obj) : PS pb tb cap A l bad (w.alloc o) :=
  h.mono fun _ hk => Below.heap_alloc _ _ _ hk
theorem PS.drewN {pb tb cap : Nat} {A l : List Pl.Tk} {bad : Bool} {w : World} (h : PS pb tb cap A l bad w) (n : Nat) : PS pb tb cap A l bad (w.drewN n) := h
theorem PS.box {pb tb cap : Nat} {A l : List Pl.Tk} {bad : Bool} {w : World} (h : PS pb tb cap A l bad w) :
    ∃ c : List Pl.Tk, c ++ l = A ∧ w.heap[pb]? = some (.cells #[.slice (some ⟨tb, 0, none⟩) A.length cap, .int .i64 c.length, .bool bad, .int .i64 (outOf c)] 96 (0, 0)) := by
  obtain ⟨_, _, c, hc, hb⟩ := h
  exact ⟨c, hc, hb⟩

/-- A store into another block than the parser's and the tokens'. -/
theorem PS.setNe {pb tb cap : Nat} {A l : List Pl.Tk} {bad : Bool} {w : World} {T : TypeId} {cs : Array Value} {X Y : Value} (h : PS pb tb cap A l bad w) (b : Nat) (hb : b ≠ pb) (hT : T = 102 → False) (hbx : w.heap[b]? = some (.cells cs T (0, 0))) :
    PS pb tb cap A l bad ((w.setCell ⟨b, 0, none⟩ X).setCell ⟨b, 1, none⟩ Y) := by
  obtain ⟨hne, ⟨cur, hcur, hrow⟩, c, hc, hbk⟩ := h
  have htb : tb ≠ b := fun e => by
    rw [e, hbx] at hcur
    injection hcur with hcur
    injection hcur with _ hcur _
    exact hT hcur
  exact ⟨hne, ⟨cur, ((heap_set_ne htb _).trans (heap_set_ne htb _)).trans hcur, hrow⟩, c, hc, ((heap_set_ne (Ne.symm hb) _).trans (heap_set_ne (Ne.symm hb) _)).trans hbk⟩

def PairPost (pb tb cap : Nat) (A : List Pl.Tk) (b : Bool) (l' : List Pl.Tk) (p : Int × Int) (w : World) (e : Ending) (w' : World) : Prop :=
  ∃ X Y : Int, e = .returned (.agg #[.int .i64 X, .int .i64 Y]) ∧ PS pb tb cap A l' (!b) w' ∧ Fp pb w w' ∧ (b = true → (X, Y) = p)

theorem pair_end {pb : Nat} {w w1 w2 : World} {X Y : Value} {o : Obj} (h1 : Fp pb (w.alloc o) w1) (h2 : Fp pb w1 w2) (_hpb : pb < w.heap.size) :
    Fp pb w ((w2.setCell ⟨w.heap.size, 0, none⟩ X).setCell ⟨w.heap.size, 1, none⟩ Y) := by
  have h := h1.trans h2
  refine ⟨h.os, h.tape, h.output, ?_, fun k hk hne => ?_⟩
  · have := h.size; simp at this ⊢; omega
  · rw [heap_set_ne (by omega), heap_set_ne (by omega), h.block k (by simp; omega) hne]
    exact Below.heap_alloc _ _ _ hk

set_option maxRecDepth 100000 in
set_option maxHeartbeats 1000000 in
theorem pair_ok (pb tb cap : Nat) (A r : List Pl.Tk) (x y : Pl.Tk) (w : World) (hP : PS pb tb cap A (x :: y :: r) false w) (hl : A.length ≤ 402) (hx : x.k = 110) (hy : y.k = 110) :
    Calls Tryz.prog 107 #[.pointer (some ⟨pb, 0, none⟩)] w fun e w' => e = .returned (.agg #[.int .i64 (x.n), .int .i64 (y.n)]) ∧ PS pb tb cap A r (!true) w' ∧ Fp pb w w' := by
  have hpb := hP.lt
  go_enter Tryz.func107, Tryz.ntmps107
  go_wp2_with fail
  refine (number_yes pb tb cap A _ x _ (hP.alloc _) hl hx).mono ?_
  rintro e w1 ⟨rfl, hP1, hf1⟩
  go_wp2_with fail
  refine (number_yes pb tb cap A _ y _ hP1 hl hy).mono ?_
  rintro e w2 ⟨rfl, hP2, hf2⟩
  have hbx : w2.heap[w.heap.size]? = some (.cells #[.int .i64 0, .int .i64 0] 77 (0, 0)) := ((hf1.trans hf2).block w.heap.size (by simp) (by omega)).trans (heap_alloc_new w _)
  have b0 : w2.cell? ⟨w.heap.size, 0, none⟩ = some (.int .i64 0) := cell_of hbx 0
  have b1 : w2.cell? ⟨w.heap.size, 1, none⟩ = some (.int .i64 0) := cell_of hbx 1
  have g0 : w2.frozen? ⟨w.heap.size, 0, none⟩ = false := frozen_of hbx 0
  have g1 : w2.frozen? ⟨w.heap.size, 1, none⟩ = false := frozen_of hbx 1
  go_wp2_with fail
  refine bodyPost_ret (v := .agg #[.int .i64 (x.n), .int .i64 (y.n)]) (by simp [results, Tryz.results107, go_sem, b0, b1]) rfl ⟨rfl, ?_, pair_end hf1 hf2 hpb⟩
  exact hP2.setNe w.heap.size (by omega) (fun h => by cases h) hbx

set_option maxRecDepth 100000 in
set_option maxHeartbeats 1000000 in
theorem pair_n2 (pb tb cap : Nat) (A r : List Pl.Tk) (x y : Pl.Tk) (w : World) (hP : PS pb tb cap A (x :: y :: r) false w) (hl : A.length ≤ 402) (hx : x.k = 110) (hy : y.k ≠ 110) :
    Calls Tryz.prog 107 #[.pointer (some ⟨pb, 0, none⟩)] w fun e w' => e = .returned (.agg #[.int .i64 (x.n), .int .i64 0]) ∧ PS pb tb cap A (y :: r) (!false) w' ∧ Fp pb w w' := by
  have hpb := hP.lt
  go_enter Tryz.func107, Tryz.ntmps107
  go_wp2_with fail
  refine (number_yes pb tb cap A _ x _ (hP.alloc _) hl hx).mono ?_
  rintro e w1 ⟨rfl, hP1, hf1⟩
  go_wp2_with fail
  refine (number_no pb tb cap A _ y _ hP1 hl hy).mono ?_
  rintro e w2 ⟨rfl, hP2, hf2⟩
  have hbx : w2.heap[w.heap.size]? = some (.cells #[.int .i64 0, .int .i64 0] 77 (0, 0)) := ((hf1.trans hf2).block w.heap.size (by simp) (by omega)).trans (heap_alloc_new w _)
  have b0 : w2.cell? ⟨w.heap.size, 0, none⟩ = some (.int .i64 0) := cell_of hbx 0
  have b1 : w2.cell? ⟨w.heap.size, 1, none⟩ = some (.int .i64 0) := cell_of hbx 1
  have g0 : w2.frozen? ⟨w.heap.size, 0, none⟩ = false := frozen_of hbx 0
  have g1 : w2.frozen? ⟨w.heap.size, 1, none⟩ = false := frozen_of hbx 1
  go_wp2_with fail
  refine bodyPost_ret (v := .agg #[.int .i64 (x.n), .int .i64 0]) (by simp [results, Tryz.results107, go_sem, b0, b1]) rfl ⟨rfl, ?_, pair_end hf1 hf2 hpb⟩
  exact hP2.setNe w.heap.size (by omega) (fun h => by cases h) hbx

set_option maxRecDepth 100000 in
set_option maxHeartbeats 1000000 in
theorem pair_n1 (pb tb cap : Nat) (A r : List Pl.Tk) (x : Pl.Tk) (w : World) (hP : PS pb tb cap A (x :: r) false w) (hl : A.length ≤ 402) (hx : x.k ≠ 110) :
    Calls Tryz.prog 107 #[.pointer (some ⟨pb, 0, none⟩)] w fun e w' => e = .returned (.agg #[.int .i64 0, .int .i64 0]) ∧ PS pb tb cap A (x :: r) (!false) w' ∧ Fp pb w w' := by
  have hpb := hP.lt
  go_enter Tryz.func107, Tryz.ntmps107
  go_wp2_with fail
  refine (number_no pb tb cap A _ x _ (hP.alloc _) hl hx).mono ?_
  rintro e w1 ⟨rfl, hP1, hf1⟩
  go_wp2_with fail
  refine (number_bad pb tb cap A _ x _ hP1 hl).mono ?_
  rintro e w2 ⟨rfl, hP2, hf2⟩
  have hbx : w2.heap[w.heap.size]? = some (.cells #[.int .i64 0, .int .i64 0] 77 (0, 0)) := ((hf1.trans hf2).block w.heap.size (by simp) (by omega)).trans (heap_alloc_new w _)
  have b0 : w2.cell? ⟨w.heap.size, 0, none⟩ = some (.int .i64 0) := cell_of hbx 0
  have b1 : w2.cell? ⟨w.heap.size, 1, none⟩ = some (.int .i64 0) := cell_of hbx 1
  have g0 : w2.frozen? ⟨w.heap.size, 0, none⟩ = false := frozen_of hbx 0
  have g1 : w2.frozen? ⟨w.heap.size, 1, none⟩ = false := frozen_of hbx 1
  go_wp2_with fail
  refine bodyPost_ret (v := .agg #[.int .i64 0, .int .i64 0]) (by simp [results, Tryz.results107, go_sem, b0, b1]) rfl ⟨rfl, ?_, pair_end hf1 hf2 hpb⟩
  exact hP2.setNe w.heap.size (by omega) (fun h => by cases h) hbx

theorem pair_any (pb tb cap : Nat) (s : List UInt8) (A l : List Pl.Tk) (w : World) (hch : Pl.Chain s l) (hP : PS pb tb cap A l false w) (hl : A.length ≤ 402) :
    Calls Tryz.prog 107 #[.pointer (some ⟨pb, 0, none⟩)] w (PairPost pb tb cap A (Pl.pPt l).1 (Pl.pPt l).2.1 (Pl.pPt l).2.2 w) := by
  match l, hP, hch with
  | [], hP, hch => exact hch.elim
  | [x], hP, hch =>
    have hx : x.k ≠ 110 := by
      have : x.k = 101 ∨ x.k = 120 := hch
      omega
    refine (pair_n1 pb tb cap A [] x w hP hl hx).mono ?_
    rintro e w' ⟨rfl, h1, h2⟩
    exact ⟨_, _, rfl, h1, h2, fun h => by cases h⟩
  | x :: y :: r, hP, hch =>
    by_cases hx : x.k = 110
    · by_cases hy : y.k = 110
      · have e : Pl.pPt (x :: y :: r) = (true, r, (x.n, y.n)) := by simp [Pl.pPt, hx, hy]
        rw [e]
        refine (pair_ok pb tb cap A r x y w hP hl hx hy).mono ?_
        rintro e w' ⟨rfl, h1, h2⟩
        exact ⟨_, _, rfl, h1, h2, fun _ => rfl⟩
      · have e : Pl.pPt (x :: y :: r) = (false, y :: r, (0, 0)) := by simp [Pl.pPt, hx, hy]
        rw [e]
        refine (pair_n2 pb tb cap A r x y w hP hl hx hy).mono ?_
        rintro e w' ⟨rfl, h1, h2⟩
        exact ⟨_, _, rfl, h1, h2, fun h => by cases h⟩
    · have e : Pl.pPt (x :: y :: r) = (false, x :: y :: r, (0, 0)) := by simp [Pl.pPt, hx]
      rw [e]
      refine (pair_n1 pb tb cap A _ x w hP hl hx).mono ?_
      rintro e w' ⟨rfl, h1, h2⟩
      exact ⟨_, _, rfl, h1, h2, fun h => by cases h⟩

end Go.Proofs.YtmfnlpmlmgjleaaGreatDoor
