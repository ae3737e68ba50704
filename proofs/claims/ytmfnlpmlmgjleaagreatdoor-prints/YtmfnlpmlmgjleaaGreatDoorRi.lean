import Derived.Test.YtmfnlpmlmgjleaaGreatDoorRh
namespace Go.Proofs.YtmfnlpmlmgjleaaGreatDoor
open Go.RowKit

/-- A reading that only looks at rows of the listed types. -/
def Keeps {α : Type} (ts : List Nat) (R : World → Value → α → Prop) : Prop :=
  ∀ (w w' : World) v x, R w v x → (∀ (k : Nat) (cur : Array Value) (e : TypeId), w.heap[k]? = some (Obj.cells cur e (0, 0)) → e ∈ ts → w'.heap[k]? = w.heap[k]?) → R w' v x

def RdRing (w : World) (v : Value) (g : List (Int × Int)) : Prop := w.ownsRow 0 77 2 v g.length (pairRow g)
def RdRow {α : Type} (T : Nat) (R : World → Value → α → Prop) (w : World) (v : Value) (xs : List α) : Prop :=
  ∃ vs : List Value, vs.length = xs.length ∧ w.ownsRow 0 T 1 v xs.length vs ∧ ∀ (i : Nat) u x, vs[i]? = some u → xs[i]? = some x → R w u x
def RdPoly (w : World) (v : Value) (gs : List (List (Int × Int))) : Prop := RdRow 117 RdRing w v gs
def RdMulti (w : World) (v : Value) (ps : List (List (List (Int × Int)))) : Prop := RdRow 98 RdPoly w v ps

theorem own_zero {w : World} {b : Nat} {e : TypeId} {size : Nat} {v : Value} {n : Nat} {xs : List Value} (h : w.ownsRow b e size v n xs) : w.ownsRow 0 e size v n xs := by
  obtain ⟨h1, h2⟩ := h
  rcases h2 with h2 | ⟨g, cap, cur, hv, _, r⟩
  · exact ⟨h1, Or.inl h2⟩
  · exact ⟨h1, Or.inr ⟨g, cap, cur, hv, Nat.zero_le _, r⟩⟩

theorem keeps_own {w w' : World} {b : Nat} {e : TypeId} {size : Nat} {v : Value} {n : Nat} {xs : List Value} (h : w.ownsRow b e size v n xs)
    (hk : ∀ (k : Nat) (cur : Array Value), w.heap[k]? = some (Obj.cells cur e (0, 0)) → w'.heap[k]? = w.heap[k]?) : w'.ownsRow b e size v n xs :=
  own_kept h fun k hk' => by
    obtain ⟨c, hc⟩ := heap_of_own h hk'
    exact hk k c hc

theorem keeps_ring : Keeps [77] RdRing := fun w w' v x h hk => keeps_own h fun k cur hc => hk k cur _ hc (by simp)
theorem keeps_row {α : Type} {T : Nat} {ts : List Nat} {R : World → Value → α → Prop} (hR : Keeps ts R) : Keeps (T :: ts) (RdRow T R) := by
  intro w w' v xs h hk
  obtain ⟨vs, h1, h2, h3⟩ := h
  exact ⟨vs, h1, keeps_own h2 fun k cur hc => hk k cur _ hc (by simp), fun i u x hi hx => hR w w' u x (h3 i u x hi hx) fun k cur e hc he => hk k cur e hc (by simp [he])⟩
theorem keeps_poly : Keeps [117, 77] RdPoly := keeps_row keeps_ring
theorem keeps_multi : Keeps [98, 117, 77] RdMulti := keeps_row keeps_poly

theorem keeps_fp {α : Type} {ts : List Nat} {R : World → Value → α → Prop} (hR : Keeps ts R) (hts : 96 ∉ ts) {pb tb cap : Nat} {A l : List Pl.Tk} {bad : Bool} {w w' : World} {v : Value} {x : α} (h : R w v x) (hf : Fp pb w w') (hP : PS pb tb cap A l bad w) : R w' v x := by
  obtain ⟨c, _, hb⟩ := hP.box
  refine hR w w' v x h fun k cur e hc he => hf.block k (lt_of_heap hc) fun ek => ?_
  rw [ek, hb] at hc
  injection hc with hc
  injection hc with _ hc _
  exact hts (by rw [hc]; exact he)

def ItPost {α : Type} (R : World → Value → α → Prop) (pb tb cap : Nat) (A : List Pl.Tk) (T : Bool × List Pl.Tk × α) (w : World) (e : Ending) (w' : World) : Prop :=
  ∃ v, e = .returned v ∧ PS pb tb cap A T.2.1 (!T.1) w' ∧ Fp pb w w' ∧ (∃ so n c, v = .slice so n c) ∧ ∃ x, R w' v x ∧ (T.1 = true → x = T.2.2)

theorem ring_it (pb tb cap : Nat) (s : List UInt8) (A l : List Pl.Tk) (w : World) (hch : Pl.Chain s l) (hP : PS pb tb cap A l false w) (hl : A.length ≤ 402) (hll : l.length ≤ 402) :
    Calls Tryz.prog 70 #[.pointer (some ⟨pb, 0, none⟩)] w (ItPost RdRing pb tb cap A (Pl.pRing l) w) := by
  refine (ring_any pb tb cap s A l w hch hP hl hll).mono ?_
  rintro e w' ⟨v, rfl, h1, h2, ps, h3, h4⟩
  refine ⟨v, rfl, h1, h2, ?_, ps, own_zero h3, h4⟩
  rcases h3.2 with ⟨hv, _⟩ | ⟨g, cap, cur, hv, _⟩
  · exact ⟨_, _, _, hv⟩
  · exact ⟨_, _, _, hv⟩

theorem rSlInfo1 : (Tryz.prog.info? 117).map (fun i => (i.zero, i.size, i.bytes)) = some (some (.slice none 0 0), 1, 24) := by kernel_rfl
theorem rSlInfo2 : (Tryz.prog.info? 98).map (fun i => (i.zero, i.size, i.bytes)) = some (some (.slice none 0 0), 1, 24) := by kernel_rfl

/-- The loop over items. -/
def RowIn {α : Type} (ET : Nat) (R : World → Value → α → Prop) (item : List Pl.Tk → Bool × List Pl.Tk × α) (pb tb cap : Nat) (s : List UInt8) (A : List Pl.Tk) (T : Bool × List Pl.Tk × List α) (w : World) (g : Nat) (lv : Value) (more : Bool) (wr : World) : Prop :=
  ∃ l acc bad vs, PS pb tb cap A l bad wr ∧ Fp pb w wr ∧ Pl.Chain s l ∧ vs.length = acc.length ∧ wr.ownsRow w.heap.size ET 1 lv acc.length vs ∧ (∀ (i : Nat) u x, vs[i]? = some u → acc[i]? = some x → R wr u x) ∧ acc.length ≤ 1000 - g ∧ g ≤ 402 ∧
    (more = true → bad = false ∧ Pl.pRow item g l acc = T ∧ l.length ≤ g) ∧ (more = false → Fin T l bad acc)

theorem grown_one {w1 w2 : World} {o1 : Obj} {row : Option Nat} (hg : (w1.alloc o1).grownBy w2 row) : ∀ k, k < w1.heap.size → row ≠ some k → w2.heap[k]? = w1.heap[k]? := fun k hk hr => grown_heap hg k hk hr

theorem PS.grown1 {pb tb cap : Nat} {A l : List Pl.Tk} {bad : Bool} {w4 w5 : World} {o1 : Obj} {row : Option Nat} {e : TypeId} (h : PS pb tb cap A l bad w4) (hg : (w4.alloc o1).grownBy w5 row)
    (hrow : ∀ k, row = some k → ∃ cur, w4.heap[k]? = some (.cells cur e (0, 0))) (he : e ≠ 102 ∧ e ≠ 96) : PS pb tb cap A l bad w5 := by
  obtain ⟨hne, ⟨cur, hcur, hr⟩, c, hc, hb⟩ := h
  have key : ∀ (k : Nat) (cur' : Array Value) (e' : TypeId), w4.heap[k]? = some (Obj.cells cur' e' (0, 0)) → e ≠ e' → w5.heap[k]? = some (Obj.cells cur' e' (0, 0)) := fun k cur' e' hk hee => by
    rw [grown_one hg k (lt_of_heap hk) (fun er => by
      obtain ⟨c2, h2⟩ := hrow k er
      rw [hk] at h2
      injection h2 with h2
      injection h2 with _ h2 _
      exact hee h2.symm)]
    exact hk
  exact ⟨hne, ⟨cur, key _ _ _ hcur he.1, hr⟩, c, hc, key _ _ _ hb he.2⟩

theorem Fp.grown1 {pb : Nat} {w w4 w5 : World} {o1 : Obj} {row : Option Nat} (h : Fp pb w w4) (hg : (w4.alloc o1).grownBy w5 row) (hrow : ∀ k, row = some k → w.heap.size ≤ k) : Fp pb w w5 := by
  refine ⟨hg.os.trans h.os, hg.tape.trans h.tape, hg.output.trans h.output, ?_, fun k hk hne => ?_⟩
  · have h1 := hg.size; have h2 := h.size; simp at h1; omega
  · have h2 := h.size
    rw [grown_one hg k (by omega) (fun er => by have := hrow k er; omega)]
    exact h.block k hk hne

theorem keeps_grown1 {α : Type} {ts : List Nat} {R : World → Value → α → Prop} (hR : Keeps ts R) {w4 w5 : World} {o1 : Obj} {row : Option Nat} {e : TypeId} (hg : (w4.alloc o1).grownBy w5 row)
    (hrow : ∀ k, row = some k → ∃ cur, w4.heap[k]? = some (.cells cur e (0, 0))) (he : e ∉ ts) {v : Value} {x : α} (h : R w4 v x) : R w5 v x :=
  hR w4 w5 v x h fun k cur e' hc he' => grown_one hg k (lt_of_heap hc) fun er => by
    obtain ⟨c2, h2⟩ := hrow k er
    rw [hc] at h2
    injection h2 with h2
    injection h2 with _ h2 _
    exact he (by rw [← h2]; exact he')

/-- One item more. -/
theorem reads_snoc {α : Type} {R : World → Value → α → Prop} {w : World} {vs : List Value} {acc : List α} {v : Value} {x : α} (hlen : vs.length = acc.length) (h : ∀ (i : Nat) u x, vs[i]? = some u → acc[i]? = some x → R w u x) (hv : R w v x) :
    ∀ (i : Nat) u y, (vs ++ [v])[i]? = some u → (acc ++ [x])[i]? = some y → R w u y := by
  intro i u y hu hy
  by_cases hi : i < vs.length
  · rw [List.getElem?_append_left hi] at hu
    rw [List.getElem?_append_left (by omega)] at hy
    exact h i u y hu hy
  · have hi2 : i = vs.length := by
      have := (List.getElem?_eq_some_iff.1 hu).1
      simp at this; omega
    subst hi2
    have e1 : u = v := by simpa using hu.symm
    have e2 : y = x := by rw [hlen] at hy; simpa using hy.symm
    subst e1 e2
    exact hv

end Go.Proofs.YtmfnlpmlmgjleaaGreatDoor
