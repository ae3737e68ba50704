import Derived.Test.YtmfnlpmlmgjleaaGreatDoorMe
namespace Go.Proofs.YtmfnlpmlmgjleaaGreatDoor
open Go.RowKit

/-- What stays the same while a text is read. -/
structure Cx (rb : Nat) (s : ByteArray) (A : List Pl.Tk) : Prop where
  hs : s.size ≤ 400
  ch : Pl.Chain s.data.toList A
  len : A.length ≤ 402
  pl : ∀ t ∈ A, Pl.Place s.data.toList t
  rb : 6 ≤ rb

theorem own_elem {w : World} {base : Nat} {e e' : TypeId} {size : Nat} {v : Value} {n k : Nat} {xs : List Value} {cur : Array Value} (h : w.ownsRow base e size v n xs)
    (hk : w.heap[k]? = some (.cells cur e' (0, 0))) (hne : e' ≠ e) : v.ownBlock ≠ some k := by
  intro hv
  rcases h.2 with ⟨ha, _⟩ | ⟨g, cap, cur', hv', hg, hh, r⟩
  · rw [ha] at hv; cases hv
  · rw [hv'] at hv
    have : g = k := by simpa [Value.ownBlock] using hv
    subst this
    rw [hh] at hk
    injection hk with hk
    injection hk with _ hk _
    exact hne hk.symm

/-- The tokens' row does not lie at block k. -/
def NT (rb k : Nat) (w : World) : Prop := ∃ tv, w.cell? ⟨rb, 5, none⟩ = some tv ∧ tv.ownBlock ≠ some k
/-- What is not the reader's stays. -/
def Kp (rb : Nat) (w w' : World) : Prop := ∀ k o, k ≠ rb → NT rb k w → w.heap[k]? = some o → w'.heap[k]? = some o ∧ NT rb k w'

def GoOnSaid : Prop := ∀ (rb : Nat) (s : ByteArray) (A r : List Pl.Tk) (t : Pl.Tk) (rg : List (List (Int × Int))) (w : World), Cx rb s A → RD rb s A (t :: r) rg w → Gl w →
    (t.k = 119 ∨ t.k = 110 ∨ t.k = 40 ∨ t.k = 41 ∨ t.k = 44) →
    Calls Tryz.prog 111 #[.pointer (some ⟨rb, 0, none⟩)] w fun e w' => e = .returned (.tuple #[]) ∧ RD rb s A r rg w' ∧ Below rb w w' ∧ Kp rb w w'

theorem RD.cells {rb : Nat} {s : ByteArray} {A l : List Pl.Tk} {rg : List (List (Int × Int))} {w : World} (h : RD rb s A l rg w) :
    ∃ t r, l = t :: r ∧ w.cell? ⟨rb, 0, none⟩ = some (.string s) ∧ w.cell? ⟨rb, 1, none⟩ = some (.int .i64 (Pl.pk t)) ∧ w.cell? ⟨rb, 2, none⟩ = some (.string ⟨(Pl.praw t).toArray⟩) ∧ w.cell? ⟨rb, 3, none⟩ = some (.int .i64 t.n) ∧ w.cell? ⟨rb, 4, none⟩ = some (.int .i64 t.pl) := by
  obtain ⟨c, t, r, tv, rv, hc, hl, hb, hown, hrg⟩ := h
  exact ⟨t, r, hl, cell_of hb 0, cell_of hb 1, cell_of hb 2, cell_of hb 3, cell_of hb 4⟩

theorem RD.below {rb : Nat} {s : ByteArray} {A l : List Pl.Tk} {rg : List (List (Int × Int))} {w w' : World} (h : RD rb s A l rg w) (hb : Below w.heap.size w w') : RD rb s A l rg w' := by
  obtain ⟨c, t, r, tv, rv, hc, hl, hbk, hown, hrg⟩ := h
  refine ⟨c, t, r, tv, rv, hc, hl, (hb.block rb (lt_of_heap hbk)).trans hbk, own_kept hown fun k hk => hb.block k (own_lt hown k hk).2, hrg.kept fun k cur e hk _ _ => hb.block k (lt_of_heap hk)⟩

theorem RD.alloc {rb : Nat} {s : ByteArray} {A l : List Pl.Tk} {rg : List (List (Int × Int))} {w : World} (h : RD rb s A l rg w) (o : Obj) : RD rb s A l rg (w.alloc o) :=
  h.below ((Below.refl _ _).alloc (Nat.le_refl _) o)

theorem RD.lt {rb : Nat} {s : ByteArray} {A l : List Pl.Tk} {rg : List (List (Int × Int))} {w : World} (h : RD rb s A l rg w) : rb < w.heap.size := by
  obtain ⟨c, t, r, tv, rv, hc, hl, hbk, hown, hrg⟩ := h
  exact lt_of_heap hbk

theorem RD.nt {rb : Nat} {s : ByteArray} {A l : List Pl.Tk} {rg : List (List (Int × Int))} {w : World} (h : RD rb s A l rg w) (k : Nat) (hk : w.heap.size ≤ k) : NT rb k w := by
  obtain ⟨c, t, r, tv, rv, hc, hl, hbk, hown, hrg⟩ := h
  exact ⟨tv, cell_of hbk 5, fun e => by have := (own_lt hown k e).2; omega⟩

theorem NT.below {rb k : Nat} {w w' : World} (h : NT rb k w) (hrb : rb < w.heap.size) (hb : Below w.heap.size w w') : NT rb k w' := by
  obtain ⟨tv, h1, h2⟩ := h
  exact ⟨tv, (hb.cell (p := ⟨rb, 5, none⟩) hrb).trans h1, h2⟩

end Go.Proofs.YtmfnlpmlmgjleaaGreatDoor
