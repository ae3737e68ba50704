import Derived.Test.YtmfnlpmlmgjleaaGreatDoorWf
import Derived.Deep.AppendLies
namespace Go.Proofs.YtmfnlpmlmgjleaaGreatDoor
open Go.RowKit

theorem own_kept {w w' : World} {base : Nat} {e : TypeId} {size : Nat} {v : Value} {n : Nat} {xs : List Value} (h : w.ownsRow base e size v n xs)
    (hk : ∀ k, v.ownBlock = some k → w'.heap[k]? = w.heap[k]?) : w'.ownsRow base e size v n xs := by
  obtain ⟨h1, h2⟩ := h
  refine ⟨h1, ?_⟩
  rcases h2 with h2 | ⟨g, cap, cur, hv, hg, hh, r⟩
  · exact Or.inl h2
  · exact Or.inr ⟨g, cap, cur, hv, hg, by rw [hk g (by rw [hv]; rfl)]; exact hh, r⟩

theorem own_ne {w : World} {b1 b2 : Nat} {e1 e2 : TypeId} {z1 z2 : Nat} {v1 v2 : Value} {n1 n2 : Nat} {x1 x2 : List Value}
    (h1 : w.ownsRow b1 e1 z1 v1 n1 x1) (h2 : w.ownsRow b2 e2 z2 v2 n2 x2) (he : e1 ≠ e2) : ∀ k, v2.ownBlock = some k → some k ≠ v1.ownBlock := by
  intro k hk hk1
  rcases h1.2 with ⟨ha, _⟩ | ⟨g, cap, cur, hv, hg, hh, r⟩
  · rw [ha] at hk1; cases hk1
  · rcases h2.2 with ⟨ha, _⟩ | ⟨g', cap', cur', hv', hg', hh', r'⟩
    · rw [ha] at hk; cases hk
    · rw [hv] at hk1; rw [hv'] at hk
      have e1' : k = g := by simpa [Value.ownBlock] using hk1
      have e2' : g' = k := by simpa [Value.ownBlock] using hk
      rw [e2', e1', hh] at hh'
      injection hh' with hh'
      injection hh' with _ hh' _
      exact he hh'

theorem own_lt {w : World} {base : Nat} {e : TypeId} {size : Nat} {v : Value} {n : Nat} {xs : List Value} (h : w.ownsRow base e size v n xs) :
    ∀ k, v.ownBlock = some k → base ≤ k ∧ k < w.heap.size := h.lt

/-- A block of a struct that the call made. -/
theorem cell_of {w : World} {b : Nat} {c : Array Value} {T : TypeId} (h : w.heap[b]? = some (.cells c T (0, 0))) (o : Nat) : w.cell? ⟨b, o, none⟩ = c[o]? := by
  simp [World.cell?, h]
theorem frozen_of {w : World} {b : Nat} {c : Array Value} {T : TypeId} (h : w.heap[b]? = some (.cells c T (0, 0))) (o : Nat) : w.frozen? ⟨b, o, none⟩ = false := by
  simp [World.frozen?, h]
theorem lt_of_heap {w : World} {b : Nat} {o : Obj} (h : w.heap[b]? = some o) : b < w.heap.size := by
  rcases Nat.lt_or_ge b w.heap.size with h1 | h1
  · exact h1
  · rw [Array.getElem?_eq_none h1] at h; cases h
theorem heap_set {w : World} {b o : Nat} {c : Array Value} {T : TypeId} (h : w.heap[b]? = some (.cells c T (0, 0))) (v : Value) :
    (w.setCell ⟨b, o, none⟩ v).heap[b]? = some (.cells (c.setIfInBounds o v) T (0, 0)) := by
  simp [World.setCell, Array.getElem?_modify, h]
theorem heap_set_ne {w : World} {b k o : Nat} (h : k ≠ b) (v : Value) : (w.setCell ⟨b, o, none⟩ v).heap[k]? = w.heap[k]? := Below.heap_setCell _ _ _ _ h
theorem heap_drew (w : World) (k : Nat) : w.drew.heap[k]? = w.heap[k]? := rfl

def ptVal (p : Int × Int) : Value := .complex .f64 (floatOfInt .f64 p.1) (floatOfInt .f64 p.2)
def ptCells (g : List (Int × Int)) : List Value := g.map ptVal

def tokRow (c : List Pl.Tk) : List Value := c.flatMap fun t => (tokCells t).toList

theorem tokRow_length (c : List Pl.Tk) : (tokRow c).length = c.length * 4 := by
  induction c with
  | nil => rfl
  | cons t r ih => simp only [tokRow, List.flatMap_cons, List.length_append] at ih ⊢; rw [ih]; simp [tokCells]; omega

theorem tokRow_snoc (c : List Pl.Tk) (t : Pl.Tk) : tokRow (c ++ [t]) = tokRow c ++ (tokCells t).toList := by simp [tokRow]

/-- The rings that have been read: a row of rows. -/
def Rings (rb : Nat) (rv : Value) (rg : List (List (Int × Int))) (w : World) : Prop :=
  ∃ vs : List Value, vs.length = rg.length ∧ w.ownsRow (rb + 1) 114 1 rv rg.length vs ∧
    (∀ (i : Nat) v g, vs[i]? = some v → rg[i]? = some g → w.ownsRow (rb + 1) 64 1 v g.length (ptCells g)) ∧
    (∀ (i j : Nat) v u k, vs[i]? = some v → vs[j]? = some u → v.ownBlock = some k → u.ownBlock = some k → i = j)

theorem Rings.kept {rb : Nat} {rv : Value} {rg : List (List (Int × Int))} {w w' : World} (h : Rings rb rv rg w)
    (hk : ∀ k cur e, w.heap[k]? = some (.cells cur e (0, 0)) → (e = 114 ∨ e = 64) → rb < k → w'.heap[k]? = w.heap[k]?) : Rings rb rv rg w' := by
  obtain ⟨vs, h1, h2, h3, h4⟩ := h
  have key : ∀ e v n xs, (e = 114 ∨ e = 64) → w.ownsRow (rb + 1) e 1 v n xs → w'.ownsRow (rb + 1) e 1 v n xs := fun e v n xs he ho => by
    refine own_kept ho fun k hv => ?_
    rcases ho.2 with ⟨ha, _⟩ | ⟨g, cap, cur, hv', hg, hh, r⟩
    · rw [ha] at hv; cases hv
    · rw [hv'] at hv
      have : g = k := by simpa [Value.ownBlock] using hv
      subst this
      exact hk g cur e hh he hg
  exact ⟨vs, h1, key _ _ _ _ (Or.inl rfl) h2, fun i v g a b => key _ _ _ _ (Or.inr rfl) (h3 i v g a b), h4⟩

def rdCells (s : ByteArray) (t : Pl.Tk) (tv rv : Value) : Array Value := #[.string s, .int .i64 (Pl.pk t), .string ⟨(Pl.praw t).toArray⟩, .int .i64 t.n, .int .i64 t.pl, tv, rv]

/-- The reader at block rb: all tokens are A; l are those that are not taken yet. -/
def RD (rb : Nat) (s : ByteArray) (A l : List Pl.Tk) (rg : List (List (Int × Int))) (w : World) : Prop :=
  ∃ c t r tv rv, c ++ l = A ∧ l = t :: r ∧ w.heap[rb]? = some (.cells (rdCells s t tv rv) 63 (0, 0)) ∧
    w.ownsRow (rb + 1) 59 4 tv c.length (tokRow c) ∧ Rings rb rv rg w

/-- Behind an append: what lies below the row that was appended to is as it was. -/
theorem grown_heap {w w1 : World} {o : Obj} {row : Option Nat} (hg : (w.alloc o).grownBy w1 row) (k : Nat) (hk : k < w.heap.size) (hne : row ≠ some k) : w1.heap[k]? = w.heap[k]? :=
  (hg.block k (by simp; omega) (fun e => hne e.symm)).trans (Below.heap_alloc _ _ _ hk)
theorem grown_heap_drew {w w1 : World} {o : Obj} {row : Option Nat} (hg : (w.alloc o).drew.grownBy w1 row) (k : Nat) (hk : k < w.heap.size) (hne : row ≠ some k) : w1.heap[k]? = w.heap[k]? :=
  (hg.block k (by show k < (w.alloc o).heap.size; simp; omega) (fun e => hne e.symm)).trans (Below.heap_alloc _ _ _ hk)
theorem own_base_ne {w : World} {base : Nat} {e : TypeId} {size : Nat} {v : Value} {n : Nat} {xs : List Value} (h : w.ownsRow base e size v n xs) (k : Nat) (hk : k < base) : v.ownBlock ≠ some k :=
  fun e => by have := (own_lt h k e).1; omega

end Go.Proofs.YtmfnlpmlmgjleaaGreatDoor
