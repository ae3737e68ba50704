import Derived.Test.YtkjhhooecopolaaGreatDoorKj10
import Derived.Test.YtkjhhooecopolaaGreatDoorKj11
namespace Go.Proofs.YtkjhhooecopolaaGreatDoor
open Go.RowKit

theorem PS.lt {pb tb cap : Nat} {A l : List Pl.Tk} {bad : Bool} {w : World} (h : PS pb tb cap A l bad w) : pb < w.heap.size := by
  obtain ⟨_, _, c, _, hb⟩ := h
  exact lt_of_heap hb
theorem PS.alloc {pb tb cap : Nat} {A l : List Pl.Tk} {bad : Bool} {w : World} (h : PS pb tb cap A l bad w) (o : Obj) : PS pb tb cap A l bad (w.alloc o) :=
  h.mono fun _ hk => Below.heap_alloc _ _ _ hk
theorem PS.drewN {pb tb cap : Nat} {A l : List Pl.Tk} {bad : Bool} {w : World} (h : PS pb tb cap A l bad w) (n : Nat) : PS pb tb cap A l bad (w.drewN n) := h
theorem PS.box {pb tb cap : Nat} {A l : List Pl.Tk} {bad : Bool} {w : World} (h : PS pb tb cap A l bad w) :
    ∃ c : List Pl.Tk, c ++ l = A ∧ w.heap[pb]? = some (.cells #[.slice (some ⟨tb, 0, none⟩) A.length cap, .int .i64 c.length, .bool bad, .int .i64 (outOf c)] 55 (0, 0)) := by
  obtain ⟨_, _, c, hc, hb⟩ := h
  exact ⟨c, hc, hb⟩

/-- A store into another block than the parser's and the tokens'. -/
theorem PS.setNe {pb tb cap : Nat} {A l : List Pl.Tk} {bad : Bool} {w : World} {T : TypeId} {cs : Array Value} {X Y : Value} (h : PS pb tb cap A l bad w) (b : Nat) (hb : b ≠ pb) (hT : T = 61 → False) (hbx : w.heap[b]? = some (.cells cs T (0, 0))) :
    PS pb tb cap A l bad ((w.setCell ⟨b, 0, none⟩ X).setCell ⟨b, 1, none⟩ Y) := by
  obtain ⟨hne, ⟨cur, hcur, hrow⟩, c, hc, hbk⟩ := h
  have htb : tb ≠ b := fun e => by
    rw [e, hbx] at hcur
    injection hcur with hcur
    injection hcur with _ hcur _
    exact hT hcur
  exact ⟨hne, ⟨cur, ((heap_set_ne htb _).trans (heap_set_ne htb _)).trans hcur, hrow⟩, c, hc, ((heap_set_ne (Ne.symm hb) _).trans (heap_set_ne (Ne.symm hb) _)).trans hbk⟩

def PairPost (pb tb cap : Nat) (A : List Pl.Tk) (b : Bool) (l' : List Pl.Tk) (p : Int × Int) (w : World) (e : Ending) (w' : World) : Prop :=
  ∃ X Y : Int, e = .returned (.agg #[.int .i64 X, .int .i64 Y]) ∧ PS pb tb cap A l' (!b) w' ∧ Fp pb w w' ∧ (b = true → (X, Y) = p)

theorem pair_end {pb : Nat} {w w1 w2 : World} {X Y : Value} {o : Obj} (h1 : Fp pb (w.alloc o) w1) (h2 : Fp pb w1 w2) (_hpb : pb < w.heap.size) :
    Fp pb w ((w2.setCell ⟨w.heap.size, 0, none⟩ X).setCell ⟨w.heap.size, 1, none⟩ Y) := by
  have h := h1.trans h2
  refine ⟨h.os, h.tape, h.output, ?_, fun k hk hne => ?_⟩
  · have := h.size; simp at this ⊢; omega
  · rw [heap_set_ne (by omega), heap_set_ne (by omega), h.block k (by simp; omega) hne]
    exact Below.heap_alloc _ _ _ hk

set_option maxRecDepth 100000 in
set_option maxHeartbeats 1000000 in
theorem pair_ok (pb tb cap : Nat) (A r : List Pl.Tk) (x y : Pl.Tk) (w : World) (hP : PS pb tb cap A (x :: y :: r) false w) (hl : A.length ≤ 402) (hx : x.k = 110) (hy : y.k = 110) :
    Calls Tryz.prog 87 #[.pointer (some ⟨pb, 0, none⟩)] w fun e w' => e = .returned (.agg #[.int .i64 (x.n), .int .i64 (y.n)]) ∧ PS pb tb cap A r (!true) w' ∧ Fp pb w w' := by
  have hpb := hP.lt
  go_enter Tryz.func87, Tryz.ntmps87
  go_wp2_with fail
  refine (number_yes pb tb cap A _ x _ (hP.alloc _) hl hx).mono ?_
  rintro e w1 ⟨rfl, hP1, hf1⟩
  go_wp2_with fail
  refine (number_yes pb tb cap A _ y _ hP1 hl hy).mono ?_
  rintro e w2 ⟨rfl, hP2, hf2⟩
  have hbx : w2.heap[w.heap.size]? = some (.cells #[.int .i64 0, .int .i64 0] 65 (0, 0)) := ((hf1.trans hf2).block w.heap.size (by simp) (by omega)).trans (heap_alloc_new w _)
  have b0 : w2.cell? ⟨w.heap.size, 0, none⟩ = some (.int .i64 0) := cell_of hbx 0
  have b1 : w2.cell? ⟨w.heap.size, 1, none⟩ = some (.int .i64 0) := cell_of hbx 1
  have g0 : w2.frozen? ⟨w.heap.size, 0, none⟩ = false := frozen_of hbx 0
  have g1 : w2.frozen? ⟨w.heap.size, 1, none⟩ = false := frozen_of hbx 1
  go_wp2_with fail
  refine bodyPost_ret (v := .agg #[.int .i64 (x.n), .int .i64 (y.n)]) (by simp [results, Tryz.results87, go_sem, b0, b1]) rfl ⟨rfl, ?_, pair_end hf1 hf2 hpb⟩
  exact hP2.setNe w.heap.size (by omega) (fun h => by cases h) hbx

set_option maxRecDepth 100000 in
set_option maxHeartbeats 1000000 in
theorem pair_n2 (pb tb cap : Nat) (A r : List Pl.Tk) (x y : Pl.Tk) (w : World) (hP : PS pb tb cap A (x :: y :: r) false w) (hl : A.length ≤ 402) (hx : x.k = 110) (hy : y.k ≠ 110) :
    Calls Tryz.prog 87 #[.pointer (some ⟨pb, 0, none⟩)] w fun e w' => e = .returned (.agg #[.int .i64 (x.n), .int .i64 0]) ∧ PS pb tb cap A (y :: r) (!false) w' ∧ Fp pb w w' := by
  have hpb := hP.lt
  go_enter Tryz.func87, Tryz.ntmps87
  go_wp2_with fail
  refine (number_yes pb tb cap A _ x _ (hP.alloc _) hl hx).mono ?_
  rintro e w1 ⟨rfl, hP1, hf1⟩
  go_wp2_with fail
  refine (number_no pb tb cap A _ y _ hP1 hl hy).mono ?_
  rintro e w2 ⟨rfl, hP2, hf2⟩
  have hbx : w2.heap[w.heap.size]? = some (.cells #[.int .i64 0, .int .i64 0] 65 (0, 0)) := ((hf1.trans hf2).block w.heap.size (by simp) (by omega)).trans (heap_alloc_new w _)
  have b0 : w2.cell? ⟨w.heap.size, 0, none⟩ = some (.int .i64 0) := cell_of hbx 0
  have b1 : w2.cell? ⟨w.heap.size, 1, none⟩ = some (.int .i64 0) := cell_of hbx 1
  have g0 : w2.frozen? ⟨w.heap.size, 0, none⟩ = false := frozen_of hbx 0
  have g1 : w2.frozen? ⟨w.heap.size, 1, none⟩ = false := frozen_of hbx 1
  go_wp2_with fail
  refine bodyPost_ret (v := .agg #[.int .i64 (x.n), .int .i64 0]) (by simp [results, Tryz.results87, go_sem, b0, b1]) rfl ⟨rfl, ?_, pair_end hf1 hf2 hpb⟩
  exact hP2.setNe w.heap.size (by omega) (fun h => by cases h) hbx

set_option maxRecDepth 100000 in
set_option maxHeartbeats 1000000 in
theorem pair_n1 (pb tb cap : Nat) (A r : List Pl.Tk) (x : Pl.Tk) (w : World) (hP : PS pb tb cap A (x :: r) false w) (hl : A.length ≤ 402) (hx : x.k ≠ 110) :
    Calls Tryz.prog 87 #[.pointer (some ⟨pb, 0, none⟩)] w fun e w' => e = .returned (.agg #[.int .i64 0, .int .i64 0]) ∧ PS pb tb cap A (x :: r) (!false) w' ∧ Fp pb w w' := by
  have hpb := hP.lt
  go_enter Tryz.func87, Tryz.ntmps87
  go_wp2_with fail
  refine (number_no pb tb cap A _ x _ (hP.alloc _) hl hx).mono ?_
  rintro e w1 ⟨rfl, hP1, hf1⟩
  go_wp2_with fail
  refine (number_bad pb tb cap A _ x _ hP1 hl).mono ?_
  rintro e w2 ⟨rfl, hP2, hf2⟩
  have hbx : w2.heap[w.heap.size]? = some (.cells #[.int .i64 0, .int .i64 0] 65 (0, 0)) := ((hf1.trans hf2).block w.heap.size (by simp) (by omega)).trans (heap_alloc_new w _)
  have b0 : w2.cell? ⟨w.heap.size, 0, none⟩ = some (.int .i64 0) := cell_of hbx 0
  have b1 : w2.cell? ⟨w.heap.size, 1, none⟩ = some (.int .i64 0) := cell_of hbx 1
  have g0 : w2.frozen? ⟨w.heap.size, 0, none⟩ = false := frozen_of hbx 0
  have g1 : w2.frozen? ⟨w.heap.size, 1, none⟩ = false := frozen_of hbx 1
  go_wp2_with fail
  refine bodyPost_ret (v := .agg #[.int .i64 0, .int .i64 0]) (by simp [results, Tryz.results87, go_sem, b0, b1]) rfl ⟨rfl, ?_, pair_end hf1 hf2 hpb⟩
  exact hP2.setNe w.heap.size (by omega) (fun h => by cases h) hbx

theorem pair_any (pb tb cap : Nat) (s : List UInt8) (A l : List Pl.Tk) (w : World) (hch : Pl.Chain s l) (hP : PS pb tb cap A l false w) (hl : A.length ≤ 402) :
    Calls Tryz.prog 87 #[.pointer (some ⟨pb, 0, none⟩)] w (PairPost pb tb cap A (Pl.pPt l).1 (Pl.pPt l).2.1 (Pl.pPt l).2.2 w) := by
  match l, hP, hch with
  | [], hP, hch => exact hch.elim
  | [x], hP, hch =>
    have hx : x.k ≠ 110 := by
      have : x.k = 101 ∨ x.k = 120 := hch
      omega
    refine (pair_n1 pb tb cap A [] x w hP hl hx).mono ?_
    rintro e w' ⟨rfl, h1, h2⟩
    exact ⟨_, _, rfl, h1, h2, fun h => by cases h⟩
  | x :: y :: r, hP, hch =>
    by_cases hx : x.k = 110
    · by_cases hy : y.k = 110
      · have e : Pl.pPt (x :: y :: r) = (true, r, (x.n, y.n)) := by simp [Pl.pPt, hx, hy]
        rw [e]
        refine (pair_ok pb tb cap A r x y w hP hl hx hy).mono ?_
        rintro e w' ⟨rfl, h1, h2⟩
        exact ⟨_, _, rfl, h1, h2, fun _ => rfl⟩
      · have e : Pl.pPt (x :: y :: r) = (false, y :: r, (0, 0)) := by simp [Pl.pPt, hx, hy]
        rw [e]
        refine (pair_n2 pb tb cap A r x y w hP hl hx hy).mono ?_
        rintro e w' ⟨rfl, h1, h2⟩
        exact ⟨_, _, rfl, h1, h2, fun h => by cases h⟩
    · have e : Pl.pPt (x :: y :: r) = (false, x :: y :: r, (0, 0)) := by simp [Pl.pPt, hx]
      rw [e]
      refine (pair_n1 pb tb cap A _ x w hP hl hx).mono ?_
      rintro e w' ⟨rfl, h1, h2⟩
      exact ⟨_, _, rfl, h1, h2, fun h => by cases h⟩

end Go.Proofs.YtkjhhooecopolaaGreatDoor

namespace Go.Proofs.YtkjhhooecopolaaGreatDoor
open Go.RowKit

def pairRow (g : List (Int × Int)) : List Value := g.flatMap fun p => [.int .i64 p.1, .int .i64 p.2]
theorem pairRow_snoc (g : List (Int × Int)) (p : Int × Int) : pairRow (g ++ [p]) = pairRow g ++ [.int .i64 p.1, .int .i64 p.2] := by simp [pairRow]

/-- How a row of items ends: T is what the whole row comes to. -/
def Fin {α : Type} (T : Bool × List Pl.Tk × List α) (l : List Pl.Tk) (bad : Bool) (acc : List α) : Prop :=
  (bad = false ∧ T = ((Pl.mk 41 l).1, (Pl.mk 41 l).2, acc)) ∨ (bad = true ∧ T.1 = false ∧ T.2.1 = l)

/-- The parser goes past the comma. -/
theorem PS.next {pb tb cap : Nat} {A r : List Pl.Tk} {t : Pl.Tk} {w : World} (h : PS pb tb cap A (t :: r) false w) (hk : t.k ≠ 110) (c : List Pl.Tk) (hc : c ++ t :: r = A) (hb : w.heap[pb]? = some (.cells #[.slice (some ⟨tb, 0, none⟩) A.length cap, .int .i64 c.length, .bool false, .int .i64 (outOf c)] 55 (0, 0))) :
    PS pb tb cap A r false (w.setCell ⟨pb, 1, none⟩ (.int .i64 ((c.length : Int) + 1))) := by
  refine h.put (c ++ [t]) (by rw [← hc]; simp) (fun k hk hne => heap_set_ne hne _) ?_
  have q := heap_set (w := w) (o := 1) hb (.int .i64 ((c.length : Int) + 1))
  rw [outOf_snoc c t hk]
  simpa using q

/-- The closing sign, behind a row. -/
theorem mark_fin {α : Type} {T : Bool × List Pl.Tk × List α} {pb tb cap : Nat} {s : List UInt8} {A l : List Pl.Tk} {bad : Bool} {acc : List α} {w : World} (hF : Fin T l bad acc) (hch : Pl.Chain s l) (hP : PS pb tb cap A l bad w) (hl : A.length ≤ 402) :
    Calls Tryz.prog 42 #[.pointer (some ⟨pb, 0, none⟩), .int .u8 41] w fun e w' => e = .returned (.tuple #[]) ∧ PS pb tb cap A T.2.1 (!T.1) w' ∧ Fp pb w w' ∧ (T.1 = true → T.2.2 = acc) := by
  cases l with
  | nil => exact hch.elim
  | cons t r =>
    rcases hF with ⟨rfl, rfl⟩ | ⟨rfl, h1, h2⟩
    · by_cases hk : t.k = 41
      · have e : Pl.mk 41 (t :: r) = (true, r) := by simp [Pl.mk, hk]
        simp only [e]
        refine (mark_yes pb tb cap A r t w 41 hP hl hk (by omega)).mono ?_
        rintro e w' ⟨rfl, h1, h2⟩
        exact ⟨rfl, h1, h2, fun _ => trivial⟩
      · have e : Pl.mk 41 (t :: r) = (false, t :: r) := by simp [Pl.mk, hk]
        simp only [e]
        refine (mark_no pb tb cap A r t w 41 hP hl hk).mono ?_
        rintro e w' ⟨rfl, h1, h2⟩
        exact ⟨rfl, h1, h2, fun _ => trivial⟩
    · rw [h1, h2]
      refine (mark_bad pb tb cap A r t w 41 hP hl).mono ?_
      rintro e w' ⟨rfl, h3, h4⟩
      exact ⟨rfl, h3, h4, fun h => by cases h⟩

/-- Does that sign stand here? -/
theorem is_any {pb tb cap : Nat} {s : List UInt8} {A l : List Pl.Tk} {bad : Bool} {w : World} (k : Nat) (hch : Pl.Chain s l) (hP : PS pb tb cap A l bad w) (hl : A.length ≤ 402) :
    Calls Tryz.prog 44 #[.pointer (some ⟨pb, 0, none⟩), .int .u8 k] w fun e w' => e = .returned (.bool (!bad && (Pl.mk k l).1)) ∧ ∃ n, w' = w.drewN n := by
  cases l with
  | nil => exact hch.elim
  | cons t r =>
    cases bad
    · refine (is_good pb tb cap A r t w k hP hl).mono ?_
      rintro e w' ⟨rfl, n, rfl⟩
      refine ⟨ret_bool ?_, n, rfl⟩
      by_cases hk : t.k = k <;> simp [Pl.mk, hk]
    · refine (is_bad pb tb cap A r t w k hP hl).mono ?_
      rintro e w' ⟨rfl, n, rfl⟩
      exact ⟨rfl, n, rfl⟩

theorem own_fp {pb tb cap : Nat} {A l : List Pl.Tk} {bad : Bool} {w w' : World} {base : Nat} {e : TypeId} {size : Nat} {v : Value} {n : Nat} {xs : List Value} (h : w.ownsRow base e size v n xs) (hf : Fp pb w w') (hP : PS pb tb cap A l bad w) (he : 55 ≠ e := by decide) : w'.ownsRow base e size v n xs := by
  obtain ⟨c, _, hb⟩ := hP.box
  exact own_kept h fun k hk => hf.block k (own_lt h k hk).2 (fun e' => own_elem h hb he (by rw [hk, e']))

theorem PS.grown2 {pb tb cap : Nat} {A l : List Pl.Tk} {bad : Bool} {w4 w5 : World} {o1 o2 : Obj} {row : Option Nat} {e : TypeId} (h : PS pb tb cap A l bad w4) (hg : ((w4.alloc o1).alloc o2).grownBy w5 row)
    (hrow : ∀ k, row = some k → ∃ cur, w4.heap[k]? = some (.cells cur e (0, 0))) (he : e ≠ 61 ∧ e ≠ 55) : PS pb tb cap A l bad w5 := by
  obtain ⟨hne, ⟨cur, hcur, hr⟩, c, hc, hb⟩ := h
  have key : ∀ (k : Nat) (cur' : Array Value) (e' : TypeId), w4.heap[k]? = some (Obj.cells cur' e' (0, 0)) → e ≠ e' → w5.heap[k]? = some (Obj.cells cur' e' (0, 0)) := fun k cur' e' hk hee => by
    have hk' := lt_of_heap hk
    rw [hg.block k (by simp; omega) (fun er => by
      obtain ⟨c2, h2⟩ := hrow k er.symm
      rw [hk] at h2
      injection h2 with h2
      injection h2 with _ h2 _
      exact hee h2.symm), Below.heap_alloc _ _ _ (by simp; omega), Below.heap_alloc _ _ _ hk']
    exact hk
  exact ⟨hne, ⟨cur, key _ _ _ hcur he.1, hr⟩, c, hc, key _ _ _ hb he.2⟩

theorem Fp.grown2 {pb : Nat} {w w4 w5 : World} {o1 o2 : Obj} {row : Option Nat} (h : Fp pb w w4) (hg : ((w4.alloc o1).alloc o2).grownBy w5 row) (hrow : ∀ k, row = some k → w.heap.size ≤ k) : Fp pb w w5 := by
  refine ⟨hg.os.trans h.os, hg.tape.trans h.tape, hg.output.trans h.output, ?_, fun k hk hne => ?_⟩
  · have h1 := hg.size; have h2 := h.size; simp at h1; omega
  · have h2 := h.size
    rw [hg.block k (by simp; omega) (fun er => by have := hrow k er.symm; omega), Below.heap_alloc _ _ _ (by simp; omega), Below.heap_alloc _ _ _ (by omega)]
    exact h.block k hk hne

theorem mk_head {c : Nat} {l : List Pl.Tk} (h : (Pl.mk c l).1 = true) : ∃ t r, l = t :: r ∧ t.k = c := by
  cases l with
  | nil => cases h
  | cons t r =>
    by_cases hk : t.k = c
    · exact ⟨t, r, rfl, hk⟩
    · simp [Pl.mk, hk] at h

def RingPost (pb tb cap : Nat) (A : List Pl.Tk) (T : Bool × List Pl.Tk × List (Int × Int)) (w : World) (e : Ending) (w' : World) : Prop :=
  ∃ v, e = .returned v ∧ PS pb tb cap A T.2.1 (!T.1) w' ∧ Fp pb w w' ∧ (∃ ps, w'.ownsRow w.heap.size 65 2 v ps.length (pairRow ps) ∧ (T.1 = true → ps = T.2.2))

theorem pairInfo : (Tryz.prog.info? 65).map (fun i => (i.zero, i.size, i.bytes)) = some (some (.agg #[.int .i64 0, .int .i64 0]), 2, 16) := by kernel_rfl

/-- The loop of ring. -/
def RingIn (pb tb cap : Nat) (s : List UInt8) (A : List Pl.Tk) (T : Bool × List Pl.Tk × List (Int × Int)) (w : World) (g : Nat) (lv : Value) (more : Bool) (wr : World) : Prop :=
  ∃ l acc bad, PS pb tb cap A l bad wr ∧ Fp pb w wr ∧ Pl.Chain s l ∧ wr.ownsRow w.heap.size 65 2 lv acc.length (pairRow acc) ∧ acc.length ≤ 1000 - g ∧ g ≤ 402 ∧
    (more = true → bad = false ∧ Pl.pRow Pl.pPt g l acc = T ∧ l.length ≤ g) ∧ (more = false → Fin T l bad acc)

set_option maxRecDepth 100000 in
set_option maxHeartbeats 2000000 in
theorem ring_any (pb tb cap : Nat) (s : List UInt8) (A l : List Pl.Tk) (w : World) (hch : Pl.Chain s l) (hP : PS pb tb cap A l false w) (hl : A.length ≤ 402) (hll : l.length ≤ 402) :
    Calls Tryz.prog 58 #[.pointer (some ⟨pb, 0, none⟩)] w (RingPost pb tb cap A (Pl.pRing l) w) := by
  obtain ⟨i0, hi, hz0, hz1, hz2⟩ := info_parts pairInfo
  generalize hT : Pl.pRing l = T
  have hpb := hP.lt
  -- the opening sign
  have HM : Hid (Calls Tryz.prog 42 #[.pointer (some ⟨pb, 0, none⟩), .int .u8 40] w fun e w' => e = .returned (.tuple #[]) ∧ Fp pb w w' ∧ ∃ l1 bad, PS pb tb cap A l1 bad w' ∧ Pl.Chain s l1 ∧ l1.length ≤ l.length ∧
      ((bad = true ∧ Fin T l1 true ([] : List (Int × Int))) ∨ (bad = false ∧ (Pl.mk 41 l1).1 = true ∧ Fin T l1 false ([] : List (Int × Int))) ∨ (bad = false ∧ (Pl.mk 41 l1).1 = false ∧ Pl.pRow Pl.pPt l.length l1 [] = T))) := by
    have hg := Pl.mk_goes (c := 40) hch (by omega)
    cases l with
    | nil => exact hch.elim
    | cons t r =>
      by_cases hk : t.k = 40
      · have e : Pl.mk 40 (t :: r) = (true, r) := by simp [Pl.mk, hk]
        refine (mark_yes pb tb cap A r t w 40 hP hl hk (by omega)).mono ?_
        rintro e' w' ⟨rfl, h1, h2⟩
        rw [e] at hg
        refine ⟨rfl, h2, r, false, h1, hg.2, by simp, ?_⟩
        unfold Pl.pRing at hT
        rw [e] at hT
        simp only [if_true] at hT
        by_cases hm : (Pl.mk 41 r).1 = true
        · rw [if_pos hm] at hT
          exact Or.inr (Or.inl ⟨rfl, hm, Or.inl ⟨rfl, by rw [← hT, hm]⟩⟩)
        · rw [if_neg hm] at hT
          exact Or.inr (Or.inr ⟨rfl, by simpa using hm, hT⟩)
      · have e : Pl.mk 40 (t :: r) = (false, t :: r) := by simp [Pl.mk, hk]
        refine (mark_no pb tb cap A r t w 40 hP hl hk).mono ?_
        rintro e' w' ⟨rfl, h1, h2⟩
        refine ⟨rfl, h2, t :: r, true, h1, hch, Nat.le_refl _, Or.inl ⟨rfl, Or.inr ⟨rfl, ?_⟩⟩⟩
        unfold Pl.pRing at hT
        rw [e] at hT
        simp only [Bool.false_eq_true, if_false] at hT
        rw [← hT]; exact ⟨rfl, rfl⟩
  clear hT
  go_enter Tryz.func58, Tryz.ntmps58
  go_wp2_with fail
  refine HM.out.mono ?_
  rintro e w1 ⟨rfl, hf1, l1, bad, hP1, hch1, hl1, hcase⟩
  go_wp2_with fail
  refine (is_any 41 hch1 hP1 hl).mono ?_
  rintro e w2 ⟨rfl, n, rfl⟩
  have HIN : Hid (RingIn pb tb cap s A T w l.length (.slice none 0 0) (!bad && !(!bad && (Pl.mk 41 l1).1)) (w1.drewN n)) := by
    refine ⟨l1, [], bad, hP1.drewN n, hf1.drewN n, hch1, World.ownsRow_nil _ _ _ _, by simp, hll, fun hm => ?_, fun hm => ?_⟩
    · rcases hcase with ⟨rfl, _⟩ | ⟨rfl, h, _⟩ | ⟨rfl, h, h2⟩
      · cases hm
      · rw [h] at hm; cases hm
      · exact ⟨rfl, h2, hl1⟩
    · rcases hcase with ⟨rfl, h⟩ | ⟨rfl, h, h2⟩ | ⟨rfl, h, h2⟩
      · exact h
      · exact h2
      · rw [h] at hm; cases hm
  have hb2 : (w1.drewN n).cell? ⟨pb, 2, none⟩ = some (.bool bad) := by
    obtain ⟨c, _, hb⟩ := hP1.box
    exact cell_of (w := w1.drewN n) hb 2
  clear hcase
  generalize (Pl.mk 41 l1).1 = m at *
  generalize w1.drewN n = w3 at *
  clear HM hl1 hch1 hP1 hf1 hch hP
  cases bad <;> cases m
  all_goals
    go_wp2_with fail
    go_loopg [3, 5] l.length (fun g lv mv wr => ∃ more : Bool, mv = .bool more ∧ Hid (RingIn pb tb cap s A T w g lv more wr))
    case atStart => exact ⟨_, rfl, HIN⟩
    case round =>
      obtain ⟨more, rfl, HR⟩ := hrel
      obtain ⟨l2, acc, bad, hP2, hf2, hch2, hown, hacc, hgk, hmore, hfin⟩ := HR.out
      have hs2 := hf2.size
      clear HR HIN hb2
      cases more
      · have hF := hfin rfl
        clear hfin hmore
        go_wp2_with fail
        refine (mark_fin hF hch2 hP2 hl).mono ?_
        rintro e w4 ⟨rfl, hP4, hf4, hacc4⟩
        go_wp2_with fail
        go_ret
        refine ⟨_, rfl, hP4, hf2.trans hf4, acc, own_fp hown hf4 hP2, fun h => (hacc4 h).symm⟩
      · obtain ⟨rfl, hrow, hlen⟩ := hmore rfl
        clear hfin hmore
        have hne : l2 ≠ [] := fun e => by rw [e] at hch2; exact hch2
        obtain ⟨g1, rfl⟩ : ∃ g1, gk = g1 + 1 := ⟨gk - 1, by have := List.length_pos_iff.2 hne; omega⟩
        have HROW : Hid (Pl.pRow Pl.pPt (g1 + 1) l2 acc = T) := hrow
        have HLEN : Hid (l2.length ≤ g1 + 1) := hlen
        clear hrow hne hlen
        go_wp2_with fail
        refine (pair_any pb tb cap s A l2 _ hch2 hP2 hl).mono ?_
        rintro e w4 ⟨X, Y, rfl, hP4, hf4, hXY⟩
        have hs4 := hf4.size
        have hown4 := own_fp hown hf4 hP2
        have hpb4 := hP4.lt
        have HXY : Hid ((Pl.pPt l2).1 = true → (X, Y) = (Pl.pPt l2).2.2) := hXY
        clear hXY
        go_wp2_with (at_builtin; refine wpList_append_lies _ rfl (.tmp 23) (.tmp 25) 63 rfl w.heap.size 65 i0 _ 2 16 Tryz.underlying63 hi hz0 hz1 hz2 rfl (by decide) u3 acc.length (pairRow acc) rfl (own_kept hown4 (fun k hk => (Below.heap_alloc _ _ _ (by have := (own_lt hown4 k hk).2; simp; omega)).trans (Below.heap_alloc _ _ _ (own_lt hown4 k hk).2))) ⟨w4.heap.size + 1, 0, none⟩ 1 1 [.int .i64 X, .int .i64 Y] rfl rfl (World.news_of_block (cs := #[.int .i64 X, .int .i64 Y]) (t := 65) (fr := (0, 0)) (by have := heap_alloc_new (w4.alloc (.cells #[.int .i64 X, .int .i64 Y] 65)) (.cells #[.int .i64 X, .int .i64 Y] 65); simpa using this)) (by simp [Value.oneCell']) (by decide) (by unfold maxLen; omega) (by omega) (by simp; omega) (w4.heap.size + 2) (by simp) ?_; intro g cap' w5 ho hgrow hat hlt5)
        have hP5 := hP4.grown2 hgrow (fun k hk => heap_of_own hown4 hk) (by decide)
        have hf5 := (hf2.trans hf4).grown2 hgrow (fun k hk => (own_lt hown4 k hk).1)
        have hg3 := Pl.pPt_goes l2 hch2
        have ho' : w5.ownsRow w.heap.size 65 2 (.slice (some ⟨g, 0, none⟩) (acc.length + 1) cap') (acc ++ [(X, Y)]).length (pairRow (acc ++ [(X, Y)])) := by
          rw [pairRow_snoc]; simpa using ho
        have hP5lt := hP5.lt
        clear hgrow ho hat hown4 hown hP4 hf4 hP2 hf2
        refine (is_any 44 hg3.2 hP5 hl).mono ?_
        rintro e w6 ⟨rfl, n6, rfl⟩
        cases hb : (Pl.pPt l2).1
        · rw [hb] at hP5
          have HN : Hid (RingIn pb tb cap s A T w g1 (.slice (some ⟨g, 0, none⟩) (acc.length + 1) cap') false (w5.drewN n6)) := by
            refine ⟨_, acc ++ [(X, Y)], true, hP5.drewN n6, hf5.drewN n6, hg3.2, ho', by simp; omega, by omega, fun h => (by cases h), fun _ => Or.inr ⟨rfl, ?_⟩⟩
            rw [← HROW.out, row_stop hb]; exact ⟨rfl, rfl⟩
          clear HROW HXY hP5 hf5 hg3 ho' hch2
          go_wp2_with fail
          go_roundg g1
          case measure => omega
          case rel => exact ⟨_, rfl, HN⟩
        · rw [hb] at hP5
          have hxy := HXY.out hb
          cases hm : (Pl.mk 44 (Pl.pPt l2).2.1).1
          · have HN : Hid (RingIn pb tb cap s A T w g1 (.slice (some ⟨g, 0, none⟩) (acc.length + 1) cap') false (w5.drewN n6)) := by
              refine ⟨_, acc ++ [(X, Y)], false, hP5.drewN n6, hf5.drewN n6, hg3.2, ho', by simp; omega, by omega, fun h => (by cases h), fun _ => Or.inl ⟨rfl, ?_⟩⟩
              rw [← HROW.out, row_end hb hm, hxy]
            clear HROW HXY hP5 hf5 hg3 ho' hch2 hxy
            go_wp2_with fail
            go_roundg g1
            case measure => omega
            case rel => exact ⟨_, rfl, HN⟩
          · obtain ⟨t3, r3, hl3, hk3⟩ : ∃ t3 r3, (Pl.pPt l2).2.1 = t3 :: r3 ∧ t3.k = 44 := mk_head hm
            rw [hl3] at hP5
            obtain ⟨c3, hc3, hbk3⟩ := hP5.box
            have hPn := (hP5.drewN n6).next (by omega) c3 hc3 hbk3
            have HN : Hid (RingIn pb tb cap s A T w g1 (.slice (some ⟨g, 0, none⟩) (acc.length + 1) cap') true ((w5.drewN n6).setCell ⟨pb, 1, none⟩ (.int .i64 ((c3.length : Int) + 1)))) := by
              have hch3 := hg3.2
              have hlt := Pl.pPt_lt l2 hb
              have hle := HLEN.out
              rw [hl3] at hch3 hlt
              simp only [List.length_cons] at hlt
              refine ⟨r3, acc ++ [(X, Y)], false, hPn, (hf5.drewN n6).set 1 _, (Pl.Goes.tail hch3 (by omega)).2, own_kept ho' (fun k hk => heap_set_ne (fun e => own_elem (w := w5) ho' hbk3 (by decide) (by rw [hk, e])) _), by simp; omega, by omega, fun _ => ⟨rfl, ?_, by omega⟩, fun h => (by cases h)⟩
              rw [← HROW.out, row_more hb hm, hxy, hl3]
              simp [Pl.mk, hk3]
            have b1 : (w5.drewN n6).cell? ⟨pb, 1, none⟩ = some (.int .i64 c3.length) := cell_of (w := w5.drewN n6) hbk3 1
            have g1' : (w5.drewN n6).frozen? ⟨pb, 1, none⟩ = false := frozen_of (w := w5.drewN n6) hbk3 1
            have hcl : c3.length ≤ 402 := by have h := congrArg List.length hc3; simp at h; omega
            clear HROW HXY hP5 hf5 hg3 ho' hch2 hxy hPn hc3 hbk3 hl3
            generalize w5.drewN n6 = w7 at *
            go_wp2_with fail
            go_roundg g1
            case measure => omega
            case rel => exact ⟨_, rfl, HN⟩

end Go.Proofs.YtkjhhooecopolaaGreatDoor

namespace Go.Proofs.YtkjhhooecopolaaGreatDoor
open Go.RowKit

/-- A reading that only looks at rows of the listed types. -/
def Keeps {α : Type} (ts : List Nat) (R : World → Value → α → Prop) : Prop :=
  ∀ (w w' : World) v x, R w v x → (∀ (k : Nat) (cur : Array Value) (e : TypeId), w.heap[k]? = some (Obj.cells cur e (0, 0)) → e ∈ ts → w'.heap[k]? = w.heap[k]?) → R w' v x

def RdRing (w : World) (v : Value) (g : List (Int × Int)) : Prop := w.ownsRow 0 65 2 v g.length (pairRow g)
def RdRow {α : Type} (T : Nat) (R : World → Value → α → Prop) (w : World) (v : Value) (xs : List α) : Prop :=
  ∃ vs : List Value, vs.length = xs.length ∧ w.ownsRow 0 T 1 v xs.length vs ∧ ∀ (i : Nat) u x, vs[i]? = some u → xs[i]? = some x → R w u x
def RdPoly (w : World) (v : Value) (gs : List (List (Int × Int))) : Prop := RdRow 63 RdRing w v gs
def RdMulti (w : World) (v : Value) (ps : List (List (List (Int × Int)))) : Prop := RdRow 57 RdPoly w v ps

theorem own_zero {w : World} {b : Nat} {e : TypeId} {size : Nat} {v : Value} {n : Nat} {xs : List Value} (h : w.ownsRow b e size v n xs) : w.ownsRow 0 e size v n xs := by
  obtain ⟨h1, h2⟩ := h
  rcases h2 with h2 | ⟨g, cap, cur, hv, _, r⟩
  · exact ⟨h1, Or.inl h2⟩
  · exact ⟨h1, Or.inr ⟨g, cap, cur, hv, Nat.zero_le _, r⟩⟩

theorem keeps_own {w w' : World} {b : Nat} {e : TypeId} {size : Nat} {v : Value} {n : Nat} {xs : List Value} (h : w.ownsRow b e size v n xs)
    (hk : ∀ (k : Nat) (cur : Array Value), w.heap[k]? = some (Obj.cells cur e (0, 0)) → w'.heap[k]? = w.heap[k]?) : w'.ownsRow b e size v n xs :=
  own_kept h fun k hk' => by
    obtain ⟨c, hc⟩ := heap_of_own h hk'
    exact hk k c hc

theorem keeps_ring : Keeps [65] RdRing := fun w w' v x h hk => keeps_own h fun k cur hc => hk k cur _ hc (by simp)
theorem keeps_row {α : Type} {T : Nat} {ts : List Nat} {R : World → Value → α → Prop} (hR : Keeps ts R) : Keeps (T :: ts) (RdRow T R) := by
  intro w w' v xs h hk
  obtain ⟨vs, h1, h2, h3⟩ := h
  exact ⟨vs, h1, keeps_own h2 fun k cur hc => hk k cur _ hc (by simp), fun i u x hi hx => hR w w' u x (h3 i u x hi hx) fun k cur e hc he => hk k cur e hc (by simp [he])⟩
theorem keeps_poly : Keeps [63, 65] RdPoly := keeps_row keeps_ring
theorem keeps_multi : Keeps [57, 63, 65] RdMulti := keeps_row keeps_poly

theorem keeps_fp {α : Type} {ts : List Nat} {R : World → Value → α → Prop} (hR : Keeps ts R) (hts : 55 ∉ ts) {pb tb cap : Nat} {A l : List Pl.Tk} {bad : Bool} {w w' : World} {v : Value} {x : α} (h : R w v x) (hf : Fp pb w w') (hP : PS pb tb cap A l bad w) : R w' v x := by
  obtain ⟨c, _, hb⟩ := hP.box
  refine hR w w' v x h fun k cur e hc he => hf.block k (lt_of_heap hc) fun ek => ?_
  rw [ek, hb] at hc
  injection hc with hc
  injection hc with _ hc _
  exact hts (by rw [hc]; exact he)

def ItPost {α : Type} (R : World → Value → α → Prop) (pb tb cap : Nat) (A : List Pl.Tk) (T : Bool × List Pl.Tk × α) (w : World) (e : Ending) (w' : World) : Prop :=
  ∃ v, e = .returned v ∧ PS pb tb cap A T.2.1 (!T.1) w' ∧ Fp pb w w' ∧ (∃ so n c, v = .slice so n c) ∧ ∃ x, R w' v x ∧ (T.1 = true → x = T.2.2)

theorem ring_it (pb tb cap : Nat) (s : List UInt8) (A l : List Pl.Tk) (w : World) (hch : Pl.Chain s l) (hP : PS pb tb cap A l false w) (hl : A.length ≤ 402) (hll : l.length ≤ 402) :
    Calls Tryz.prog 58 #[.pointer (some ⟨pb, 0, none⟩)] w (ItPost RdRing pb tb cap A (Pl.pRing l) w) := by
  refine (ring_any pb tb cap s A l w hch hP hl hll).mono ?_
  rintro e w' ⟨v, rfl, h1, h2, ps, h3, h4⟩
  refine ⟨v, rfl, h1, h2, ?_, ps, own_zero h3, h4⟩
  rcases h3.2 with ⟨hv, _⟩ | ⟨g, cap, cur, hv, _⟩
  · exact ⟨_, _, _, hv⟩
  · exact ⟨_, _, _, hv⟩

theorem rSlInfo1 : (Tryz.prog.info? 63).map (fun i => (i.zero, i.size, i.bytes)) = some (some (.slice none 0 0), 1, 24) := by kernel_rfl
theorem rSlInfo2 : (Tryz.prog.info? 57).map (fun i => (i.zero, i.size, i.bytes)) = some (some (.slice none 0 0), 1, 24) := by kernel_rfl

/-- The loop over items. -/
def RowIn {α : Type} (ET : Nat) (R : World → Value → α → Prop) (item : List Pl.Tk → Bool × List Pl.Tk × α) (pb tb cap : Nat) (s : List UInt8) (A : List Pl.Tk) (T : Bool × List Pl.Tk × List α) (w : World) (g : Nat) (lv : Value) (more : Bool) (wr : World) : Prop :=
  ∃ l acc bad vs, PS pb tb cap A l bad wr ∧ Fp pb w wr ∧ Pl.Chain s l ∧ vs.length = acc.length ∧ wr.ownsRow w.heap.size ET 1 lv acc.length vs ∧ (∀ (i : Nat) u x, vs[i]? = some u → acc[i]? = some x → R wr u x) ∧ acc.length ≤ 1000 - g ∧ g ≤ 402 ∧
    (more = true → bad = false ∧ Pl.pRow item g l acc = T ∧ l.length ≤ g) ∧ (more = false → Fin T l bad acc)

theorem grown_one {w1 w2 : World} {o1 : Obj} {row : Option Nat} (hg : (w1.alloc o1).grownBy w2 row) : ∀ k, k < w1.heap.size → row ≠ some k → w2.heap[k]? = w1.heap[k]? := fun k hk hr => grown_heap hg k hk hr

theorem PS.grown1 {pb tb cap : Nat} {A l : List Pl.Tk} {bad : Bool} {w4 w5 : World} {o1 : Obj} {row : Option Nat} {e : TypeId} (h : PS pb tb cap A l bad w4) (hg : (w4.alloc o1).grownBy w5 row)
    (hrow : ∀ k, row = some k → ∃ cur, w4.heap[k]? = some (.cells cur e (0, 0))) (he : e ≠ 61 ∧ e ≠ 55) : PS pb tb cap A l bad w5 := by
  obtain ⟨hne, ⟨cur, hcur, hr⟩, c, hc, hb⟩ := h
  have key : ∀ (k : Nat) (cur' : Array Value) (e' : TypeId), w4.heap[k]? = some (Obj.cells cur' e' (0, 0)) → e ≠ e' → w5.heap[k]? = some (Obj.cells cur' e' (0, 0)) := fun k cur' e' hk hee => by
    rw [grown_one hg k (lt_of_heap hk) (fun er => by
      obtain ⟨c2, h2⟩ := hrow k er
      rw [hk] at h2
      injection h2 with h2
      injection h2 with _ h2 _
      exact hee h2.symm)]
    exact hk
  exact ⟨hne, ⟨cur, key _ _ _ hcur he.1, hr⟩, c, hc, key _ _ _ hb he.2⟩

theorem Fp.grown1 {pb : Nat} {w w4 w5 : World} {o1 : Obj} {row : Option Nat} (h : Fp pb w w4) (hg : (w4.alloc o1).grownBy w5 row) (hrow : ∀ k, row = some k → w.heap.size ≤ k) : Fp pb w w5 := by
  refine ⟨hg.os.trans h.os, hg.tape.trans h.tape, hg.output.trans h.output, ?_, fun k hk hne => ?_⟩
  · have h1 := hg.size; have h2 := h.size; simp at h1; omega
  · have h2 := h.size
    rw [grown_one hg k (by omega) (fun er => by have := hrow k er; omega)]
    exact h.block k hk hne

theorem keeps_grown1 {α : Type} {ts : List Nat} {R : World → Value → α → Prop} (hR : Keeps ts R) {w4 w5 : World} {o1 : Obj} {row : Option Nat} {e : TypeId} (hg : (w4.alloc o1).grownBy w5 row)
    (hrow : ∀ k, row = some k → ∃ cur, w4.heap[k]? = some (.cells cur e (0, 0))) (he : e ∉ ts) {v : Value} {x : α} (h : R w4 v x) : R w5 v x :=
  hR w4 w5 v x h fun k cur e' hc he' => grown_one hg k (lt_of_heap hc) fun er => by
    obtain ⟨c2, h2⟩ := hrow k er
    rw [hc] at h2
    injection h2 with h2
    injection h2 with _ h2 _
    exact he (by rw [← h2]; exact he')

/-- One item more. -/
theorem reads_snoc {α : Type} {R : World → Value → α → Prop} {w : World} {vs : List Value} {acc : List α} {v : Value} {x : α} (hlen : vs.length = acc.length) (h : ∀ (i : Nat) u x, vs[i]? = some u → acc[i]? = some x → R w u x) (hv : R w v x) :
    ∀ (i : Nat) u y, (vs ++ [v])[i]? = some u → (acc ++ [x])[i]? = some y → R w u y := by
  intro i u y hu hy
  by_cases hi : i < vs.length
  · rw [List.getElem?_append_left hi] at hu
    rw [List.getElem?_append_left (by omega)] at hy
    exact h i u y hu hy
  · have hi2 : i = vs.length := by
      have := (List.getElem?_eq_some_iff.1 hu).1
      simp at this; omega
    subst hi2
    have e1 : u = v := by simpa using hu.symm
    have e2 : y = x := by rw [hlen] at hy; simpa using hy.symm
    subst e1 e2
    exact hv

end Go.Proofs.YtkjhhooecopolaaGreatDoor
