import Derived.Test.YtkjhhooecopolaaGreatDoorVj16
import Derived.Test.YtkjhhooecopolaaGreatDoorVj14
namespace Go.Proofs.YtkjhhooecopolaaGreatDoor
open Go.RowKit

namespace Pl
/-- A step of the grammar: it leaves a row of tokens that is behind the first. -/
def Goes (s : List UInt8) (l l' : List Tk) : Prop := (∃ c, c ++ l' = l) ∧ Chain s l'

theorem Goes.refl {s : List UInt8} {l : List Tk} (h : Chain s l) : Goes s l l := ⟨⟨[], rfl⟩, h⟩
theorem Goes.trans {s : List UInt8} {a b c : List Tk} (h : Goes s a b) (k : Goes s b c) : Goes s a c := by
  obtain ⟨⟨x, hx⟩, _⟩ := h
  obtain ⟨⟨y, hy⟩, hc⟩ := k
  exact ⟨⟨x ++ y, by rw [List.append_assoc, hy, hx]⟩, hc⟩
theorem Goes.tail {s : List UInt8} {t : Tk} {r : List Tk} (h : Chain s (t :: r)) (hk : ¬ (t.k = 101 ∨ t.k = 120)) : Goes s (t :: r) r := by
  obtain ⟨u, r', _, _, hc⟩ := chain_next s t r h hk
  exact ⟨⟨[t], rfl⟩, hc⟩

theorem mk_goes {s : List UInt8} {c : Nat} {l : List Tk} (h : Chain s l) (hc : c ≠ 101 ∧ c ≠ 120) : Goes s l (mk c l).2 := by
  cases l with
  | nil => exact h.elim
  | cons t r =>
    by_cases hk : t.k = c
    · have e : mk c (t :: r) = (true, r) := by simp [mk, hk]
      rw [e]; exact Goes.tail h (by omega)
    · have e : mk c (t :: r) = (false, t :: r) := by simp [mk, hk]
      rw [e]; exact Goes.refl h

theorem wd_goes {s : List UInt8} {q : List UInt8} {l : List Tk} (h : Chain s l) : Goes s l (wd q l).2 := by
  cases l with
  | nil => exact h.elim
  | cons t r =>
    by_cases hk : t.k = 119 ∧ t.raw = q
    · have e : wd q (t :: r) = (true, r) := by simp only [wd]; rw [if_pos hk]
      rw [e]; exact Goes.tail h (by omega)
    · have e : wd q (t :: r) = (false, t :: r) := by simp only [wd]; rw [if_neg hk]
      rw [e]; exact Goes.refl h

theorem pPt_goes {s : List UInt8} (l : List Tk) (h : Chain s l) : Goes s l (pPt l).2.1 := by
  match l, h with
  | [], h => exact h.elim
  | [x], h => exact Goes.refl h
  | x :: y :: r, h =>
    by_cases hx : x.k = 110
    · have g1 := Goes.tail h (by omega)
      by_cases hy : y.k = 110
      · have e : pPt (x :: y :: r) = (true, r, (x.n, y.n)) := by simp [pPt, hx, hy]
        rw [e]; exact g1.trans (Goes.tail g1.2 (by omega))
      · have e : pPt (x :: y :: r) = (false, y :: r, (0, 0)) := by simp [pPt, hx, hy]
        rw [e]; exact g1
    · have e : pPt (x :: y :: r) = (false, x :: y :: r, (0, 0)) := by simp [pPt, hx]
      rw [e]; exact Goes.refl h

theorem pRow_goes {s : List UInt8} {α : Type} (item : List Tk → Bool × List Tk × α) (hi : ∀ l, Chain s l → Goes s l (item l).2.1) :
    ∀ (f : Nat) (l : List Tk) (acc : List α), Chain s l → Goes s l (pRow item f l acc).2.1
  | 0, l, acc, h => Goes.refl h
  | f + 1, l, acc, h => by
    have g1 := hi l h
    cases h1 : (item l).1
    · rw [row_stop h1]; exact g1
    · cases h2 : (mk 44 (item l).2.1).1
      · rw [row_end h1 h2]; exact g1.trans (mk_goes g1.2 (by omega))
      · rw [row_more h1 h2]
        have g2 := mk_goes (c := 44) g1.2 (by omega)
        exact (g1.trans g2).trans (pRow_goes item hi f _ _ g2.2)

theorem pRing_goes {s : List UInt8} (l : List Tk) (h : Chain s l) : Goes s l (pRing l).2.1 := by
  unfold pRing
  have g1 := mk_goes (c := 40) h (by omega)
  split
  · split
    · exact g1.trans (mk_goes g1.2 (by omega))
    · exact g1.trans (pRow_goes pPt pPt_goes _ _ _ g1.2)
  · exact Goes.refl h

theorem pPoly_goes {s : List UInt8} (l : List Tk) (h : Chain s l) : Goes s l (pPoly l).2.1 := by
  unfold pPoly
  split
  · exact wd_goes h
  · have g1 := mk_goes (c := 40) h (by omega)
    split
    · exact g1.trans (pRow_goes pRing pRing_goes _ _ _ g1.2)
    · exact Goes.refl h

theorem pMulti_goes {s : List UInt8} (l : List Tk) (h : Chain s l) : Goes s l (pMulti l).2.1 := by
  unfold pMulti
  split
  · exact wd_goes h
  · have g1 := mk_goes (c := 40) h (by omega)
    split
    · exact g1.trans (pRow_goes pPoly pPoly_goes _ _ _ g1.2)
    · exact Goes.refl h

theorem pWhole_goes {s : List UInt8} (l : List Tk) (h : Chain s l) : Goes s l (pWhole l).2.1 := by
  unfold pWhole
  split
  · have g1 := wd_goes (q := POLYGON) h
    exact g1.trans (pPoly_goes _ g1.2)
  · split
    · have g1 := wd_goes (q := MULTI) h
      exact g1.trans (pMulti_goes _ g1.2)
    · exact Goes.refl h

theorem pWhole_lt (l : List Tk) (h : (pWhole l).1 = true) : (pWhole l).2.1.length < l.length := by
  unfold pWhole at h ⊢
  by_cases h1 : (wd POLYGON l).1 = true
  · rw [if_pos h1] at h ⊢
    have := wd_lt h1
    have := (pPoly_lt _ h).1
    simp only; omega
  · rw [if_neg h1] at h ⊢
    by_cases h2 : (wd MULTI l).1 = true
    · rw [if_pos h2] at h ⊢
      have := wd_lt h2
      have := pMulti_lt _ h
      omega
    · rw [if_neg h2] at h; cases h

def hk (l : List Tk) : Nat := match l with | [] => 0 | t :: _ => t.k
def hpl (l : List Tk) : Nat := match l with | [] => 0 | t :: _ => t.pl
/-- The tokens that were taken. -/
def took (s : List UInt8) : List Tk := (all s).take ((all s).length - (pWhole (all s)).2.1.length)

/-- What Read answers: the error and its place. -/
def err (s : List UInt8) : Nat × Nat :=
  if 400 < s.length then (1, 0)
  else if (pWhole (all s)).1 = true ∧ hk (pWhole (all s)).2.1 = 101 then
    (match (took s).find? outT with
     | some u => (3, u.pl)
     | none => (0, 0))
  else (2, hpl (pWhole (all s)).2.1)

theorem took_append (s : List UInt8) : took s ++ (pWhole (all s)).2.1 = all s := by
  obtain ⟨⟨c, hc⟩, _⟩ := pWhole_goes (all s) (all_chain s)
  unfold took
  have : (all s).length = c.length + (pWhole (all s)).2.1.length := by
    conv => lhs; rw [← hc]
    simp
  rw [this, Nat.add_sub_cancel]
  conv => lhs; lhs; rw [← hc]
  rw [List.take_left]
  exact hc
end Pl

/-- readText, whole. -/
def ReadPost (s : ByteArray) (w : World) (e : Ending) (w' : World) : Prop :=
  Below w.heap.size w w' ∧ ∃ pv, e = .returned (.tuple #[.pointer pv, .int .i64 (Pl.err s.data.toList).1, .int .i64 (Pl.err s.data.toList).2]) ∧
    ((Pl.err s.data.toList).1 = 0 → ∃ rb, pv = some ⟨rb, 0, none⟩ ∧ w.heap.size ≤ rb ∧ RD rb s (Pl.all s.data.toList) (Pl.pWhole (Pl.all s.data.toList)).2.1 (Pl.pWhole (Pl.all s.data.toList)).2.2.flatten w')

theorem readText_any (s : ByteArray) (w : World) (hm : s.size ≤ maxLen) (hG : Gl w) :
    Calls Tryz.prog 33 #[.string s] w (ReadPost s w) := by
  have hsz : s.data.toList.length = s.size := by simp
  by_cases hs : 400 < s.size
  · refine (readText_long s w hs hm).mono ?_
    rintro e w' ⟨rfl, rfl⟩
    have he : Pl.err s.data.toList = (1, 0) := by unfold Pl.err; rw [if_pos (by omega)]
    refine ⟨Below.refl _ _, none, ?_, ?_⟩
    · rw [he]; rfl
    · rw [he]; intro h; cases h
  · have hs' : s.size ≤ 400 := by omega
    have hg := Pl.pWhole_goes (Pl.all s.data.toList) (Pl.all_chain s.data.toList)
    have happ := Pl.took_append s.data.toList
    have herr : Pl.err s.data.toList = if (Pl.pWhole (Pl.all s.data.toList)).1 = true ∧ Pl.hk (Pl.pWhole (Pl.all s.data.toList)).2.1 = 101 then
        (match (Pl.took s.data.toList).find? outT with | some u => (3, u.pl) | none => (0, 0)) else (2, Pl.hpl (Pl.pWhole (Pl.all s.data.toList)).2.1) := by
      unfold Pl.err; rw [if_neg (by omega)]
    have hlt := Pl.pWhole_lt (Pl.all s.data.toList)
    unfold ReadPost
    rcases hp : Pl.pWhole (Pl.all s.data.toList) with ⟨b, l', v⟩
    rw [hp] at hg happ herr hlt
    simp only at hg happ herr hlt ⊢
    obtain ⟨t, r, rfl⟩ : ∃ t r, l' = t :: r := by
      cases l' with
      | nil => exact hg.2.elim
      | cons t r => exact ⟨t, r, rfl⟩
    by_cases hok : b = true ∧ t.k = 101
    · obtain ⟨rfl, ht⟩ := hok
      have hc0 : 0 < (Pl.took s.data.toList).length := by
        have h1 := hlt rfl
        have h2 := congrArg List.length happ
        simp only [List.length_append] at h2
        omega
      refine (readText_ok s w hs' hG t r (Pl.took s.data.toList) v hp ht happ hc0).mono ?_
      rintro e w' ⟨hbel, hr⟩
      rw [if_pos ⟨rfl, ht⟩] at herr
      refine ⟨hbel, ?_⟩
      rcases hr with ⟨u, hu, rfl⟩ | ⟨hu, rb, rfl, h1, h2⟩
      · rw [hu] at herr
        simp only at herr
        refine ⟨none, by rw [herr]; rfl, ?_⟩
        rw [herr]; intro h; cases h
      · rw [hu] at herr
        simp only at herr
        exact ⟨_, by rw [herr]; rfl, fun _ => ⟨rb, rfl, h1, h2⟩⟩
    · rw [if_neg (by exact hok)] at herr
      refine (readText_form s w hs' hG (t :: r) t r b v hp rfl (by
        by_cases hb : b = true
        · exact Or.inr (fun h => hok ⟨hb, h⟩)
        · exact Or.inl (by simpa using hb))).mono ?_
      rintro e w' ⟨rfl, hbel⟩
      refine ⟨hbel, none, by rw [herr]; rfl, ?_⟩
      rw [herr]; intro h; cases h

end Go.Proofs.YtkjhhooecopolaaGreatDoor

namespace Go.Proofs.YtkjhhooecopolaaGreatDoor
open Go.RowKit

theorem PS.lt {pb tb cap : Nat} {A l : List Pl.Tk} {bad : Bool} {w : World} (h : PS pb tb cap A l bad w) : pb < w.heap.size := by
  obtain ⟨_, _, c, _, hb⟩ := h
  exact lt_of_heap hb
theorem PS.alloc {pb tb cap : Nat} {A l : List Pl.Tk} {bad : Bool} {w : World} (h : PS pb tb cap A l bad w) (o : Obj) : PS pb tb cap A l bad (w.alloc o) :=
  h.mono fun _ hk => Below.heap_alloc _ _ _ hk
theorem PS.drewN {pb tb cap : Nat} {A l : List Pl.Tk} {bad : Bool} {w : World} (h : PS pb tb cap A l bad w) (n : Nat) : PS pb tb cap A l bad (w.drewN n) := h
theorem PS.box {pb tb cap : Nat} {A l : List Pl.Tk} {bad : Bool} {w : World} (h : PS pb tb cap A l bad w) :
    ∃ c : List Pl.Tk, c ++ l = A ∧ w.heap[pb]? = some (.cells #[.slice (some ⟨tb, 0, none⟩) A.length cap, .int .i64 c.length, .bool bad, .int .i64 (outOf c)] 55 (0, 0)) := by
  obtain ⟨_, _, c, hc, hb⟩ := h
  exact ⟨c, hc, hb⟩

/-- A store into another block than the parser's and the tokens'. -/
theorem PS.setNe {pb tb cap : Nat} {A l : List Pl.Tk} {bad : Bool} {w : World} {T : TypeId} {cs : Array Value} {X Y : Value} (h : PS pb tb cap A l bad w) (b : Nat) (hb : b ≠ pb) (hT : T = 61 → False) (hbx : w.heap[b]? = some (.cells cs T (0, 0))) :
    PS pb tb cap A l bad ((w.setCell ⟨b, 0, none⟩ X).setCell ⟨b, 1, none⟩ Y) := by
  obtain ⟨hne, ⟨cur, hcur, hrow⟩, c, hc, hbk⟩ := h
  have htb : tb ≠ b := fun e => by
    rw [e, hbx] at hcur
    injection hcur with hcur
    injection hcur with _ hcur _
    exact hT hcur
  exact ⟨hne, ⟨cur, ((heap_set_ne htb _).trans (heap_set_ne htb _)).trans hcur, hrow⟩, c, hc, ((heap_set_ne (Ne.symm hb) _).trans (heap_set_ne (Ne.symm hb) _)).trans hbk⟩

def PairPost (pb tb cap : Nat) (A : List Pl.Tk) (b : Bool) (l' : List Pl.Tk) (p : Int × Int) (w : World) (e : Ending) (w' : World) : Prop :=
  ∃ X Y : Int, e = .returned (.agg #[.int .i64 X, .int .i64 Y]) ∧ PS pb tb cap A l' (!b) w' ∧ Fp pb w w' ∧ (b = true → (X, Y) = p)

theorem pair_end {pb : Nat} {w w1 w2 : World} {X Y : Value} {o : Obj} (h1 : Fp pb (w.alloc o) w1) (h2 : Fp pb w1 w2) (_hpb : pb < w.heap.size) :
    Fp pb w ((w2.setCell ⟨w.heap.size, 0, none⟩ X).setCell ⟨w.heap.size, 1, none⟩ Y) := by
  have h := h1.trans h2
  refine ⟨h.os, h.tape, h.output, ?_, fun k hk hne => ?_⟩
  · have := h.size; simp at this ⊢; omega
  · rw [heap_set_ne (by omega), heap_set_ne (by omega), h.block k (by simp; omega) hne]
    exact Below.heap_alloc _ _ _ hk

set_option maxRecDepth 100000 in
set_option maxHeartbeats 1000000 in
theorem pair_ok (pb tb cap : Nat) (A r : List Pl.Tk) (x y : Pl.Tk) (w : World) (hP : PS pb tb cap A (x :: y :: r) false w) (hl : A.length ≤ 402) (hx : x.k = 110) (hy : y.k = 110) :
    Calls Tryz.prog 87 #[.pointer (some ⟨pb, 0, none⟩)] w fun e w' => e = .returned (.agg #[.int .i64 (x.n), .int .i64 (y.n)]) ∧ PS pb tb cap A r (!true) w' ∧ Fp pb w w' := by
  have hpb := hP.lt
  go_enter Tryz.func87, Tryz.ntmps87
  go_wp2_with fail
  refine (number_yes pb tb cap A _ x _ (hP.alloc _) hl hx).mono ?_
  rintro e w1 ⟨rfl, hP1, hf1⟩
  go_wp2_with fail
  refine (number_yes pb tb cap A _ y _ hP1 hl hy).mono ?_
  rintro e w2 ⟨rfl, hP2, hf2⟩
  have hbx : w2.heap[w.heap.size]? = some (.cells #[.int .i64 0, .int .i64 0] 65 (0, 0)) := ((hf1.trans hf2).block w.heap.size (by simp) (by omega)).trans (heap_alloc_new w _)
  have b0 : w2.cell? ⟨w.heap.size, 0, none⟩ = some (.int .i64 0) := cell_of hbx 0
  have b1 : w2.cell? ⟨w.heap.size, 1, none⟩ = some (.int .i64 0) := cell_of hbx 1
  have g0 : w2.frozen? ⟨w.heap.size, 0, none⟩ = false := frozen_of hbx 0
  have g1 : w2.frozen? ⟨w.heap.size, 1, none⟩ = false := frozen_of hbx 1
  go_wp2_with fail
  refine bodyPost_ret (v := .agg #[.int .i64 (x.n), .int .i64 (y.n)]) (by simp [results, Tryz.results87, go_sem, b0, b1]) rfl ⟨rfl, ?_, pair_end hf1 hf2 hpb⟩
  exact hP2.setNe w.heap.size (by omega) (fun h => by cases h) hbx

set_option maxRecDepth 100000 in
set_option maxHeartbeats 1000000 in
theorem pair_n2 (pb tb cap : Nat) (A r : List Pl.Tk) (x y : Pl.Tk) (w : World) (hP : PS pb tb cap A (x :: y :: r) false w) (hl : A.length ≤ 402) (hx : x.k = 110) (hy : y.k ≠ 110) :
    Calls Tryz.prog 87 #[.pointer (some ⟨pb, 0, none⟩)] w fun e w' => e = .returned (.agg #[.int .i64 (x.n), .int .i64 0]) ∧ PS pb tb cap A (y :: r) (!false) w' ∧ Fp pb w w' := by
  have hpb := hP.lt
  go_enter Tryz.func87, Tryz.ntmps87
  go_wp2_with fail
  refine (number_yes pb tb cap A _ x _ (hP.alloc _) hl hx).mono ?_
  rintro e w1 ⟨rfl, hP1, hf1⟩
  go_wp2_with fail
  refine (number_no pb tb cap A _ y _ hP1 hl hy).mono ?_
  rintro e w2 ⟨rfl, hP2, hf2⟩
  have hbx : w2.heap[w.heap.size]? = some (.cells #[.int .i64 0, .int .i64 0] 65 (0, 0)) := ((hf1.trans hf2).block w.heap.size (by simp) (by omega)).trans (heap_alloc_new w _)
  have b0 : w2.cell? ⟨w.heap.size, 0, none⟩ = some (.int .i64 0) := cell_of hbx 0
  have b1 : w2.cell? ⟨w.heap.size, 1, none⟩ = some (.int .i64 0) := cell_of hbx 1
  have g0 : w2.frozen? ⟨w.heap.size, 0, none⟩ = false := frozen_of hbx 0
  have g1 : w2.frozen? ⟨w.heap.size, 1, none⟩ = false := frozen_of hbx 1
  go_wp2_with fail
  refine bodyPost_ret (v := .agg #[.int .i64 (x.n), .int .i64 0]) (by simp [results, Tryz.results87, go_sem, b0, b1]) rfl ⟨rfl, ?_, pair_end hf1 hf2 hpb⟩
  exact hP2.setNe w.heap.size (by omega) (fun h => by cases h) hbx

set_option maxRecDepth 100000 in
set_option maxHeartbeats 1000000 in
theorem pair_n1 (pb tb cap : Nat) (A r : List Pl.Tk) (x : Pl.Tk) (w : World) (hP : PS pb tb cap A (x :: r) false w) (hl : A.length ≤ 402) (hx : x.k ≠ 110) :
    Calls Tryz.prog 87 #[.pointer (some ⟨pb, 0, none⟩)] w fun e w' => e = .returned (.agg #[.int .i64 0, .int .i64 0]) ∧ PS pb tb cap A (x :: r) (!false) w' ∧ Fp pb w w' := by
  have hpb := hP.lt
  go_enter Tryz.func87, Tryz.ntmps87
  go_wp2_with fail
  refine (number_no pb tb cap A _ x _ (hP.alloc _) hl hx).mono ?_
  rintro e w1 ⟨rfl, hP1, hf1⟩
  go_wp2_with fail
  refine (number_bad pb tb cap A _ x _ hP1 hl).mono ?_
  rintro e w2 ⟨rfl, hP2, hf2⟩
  have hbx : w2.heap[w.heap.size]? = some (.cells #[.int .i64 0, .int .i64 0] 65 (0, 0)) := ((hf1.trans hf2).block w.heap.size (by simp) (by omega)).trans (heap_alloc_new w _)
  have b0 : w2.cell? ⟨w.heap.size, 0, none⟩ = some (.int .i64 0) := cell_of hbx 0
  have b1 : w2.cell? ⟨w.heap.size, 1, none⟩ = some (.int .i64 0) := cell_of hbx 1
  have g0 : w2.frozen? ⟨w.heap.size, 0, none⟩ = false := frozen_of hbx 0
  have g1 : w2.frozen? ⟨w.heap.size, 1, none⟩ = false := frozen_of hbx 1
  go_wp2_with fail
  refine bodyPost_ret (v := .agg #[.int .i64 0, .int .i64 0]) (by simp [results, Tryz.results87, go_sem, b0, b1]) rfl ⟨rfl, ?_, pair_end hf1 hf2 hpb⟩
  exact hP2.setNe w.heap.size (by omega) (fun h => by cases h) hbx

theorem pair_any (pb tb cap : Nat) (s : List UInt8) (A l : List Pl.Tk) (w : World) (hch : Pl.Chain s l) (hP : PS pb tb cap A l false w) (hl : A.length ≤ 402) :
    Calls Tryz.prog 87 #[.pointer (some ⟨pb, 0, none⟩)] w (PairPost pb tb cap A (Pl.pPt l).1 (Pl.pPt l).2.1 (Pl.pPt l).2.2 w) := by
  match l, hP, hch with
  | [], hP, hch => exact hch.elim
  | [x], hP, hch =>
    have hx : x.k ≠ 110 := by
      have : x.k = 101 ∨ x.k = 120 := hch
      omega
    refine (pair_n1 pb tb cap A [] x w hP hl hx).mono ?_
    rintro e w' ⟨rfl, h1, h2⟩
    exact ⟨_, _, rfl, h1, h2, fun h => by cases h⟩
  | x :: y :: r, hP, hch =>
    by_cases hx : x.k = 110
    · by_cases hy : y.k = 110
      · have e : Pl.pPt (x :: y :: r) = (true, r, (x.n, y.n)) := by simp [Pl.pPt, hx, hy]
        rw [e]
        refine (pair_ok pb tb cap A r x y w hP hl hx hy).mono ?_
        rintro e w' ⟨rfl, h1, h2⟩
        exact ⟨_, _, rfl, h1, h2, fun _ => rfl⟩
      · have e : Pl.pPt (x :: y :: r) = (false, y :: r, (0, 0)) := by simp [Pl.pPt, hx, hy]
        rw [e]
        refine (pair_n2 pb tb cap A r x y w hP hl hx hy).mono ?_
        rintro e w' ⟨rfl, h1, h2⟩
        exact ⟨_, _, rfl, h1, h2, fun h => by cases h⟩
    · have e : Pl.pPt (x :: y :: r) = (false, x :: y :: r, (0, 0)) := by simp [Pl.pPt, hx]
      rw [e]
      refine (pair_n1 pb tb cap A _ x w hP hl hx).mono ?_
      rintro e w' ⟨rfl, h1, h2⟩
      exact ⟨_, _, rfl, h1, h2, fun h => by cases h⟩

end Go.Proofs.YtkjhhooecopolaaGreatDoor
