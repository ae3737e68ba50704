import Derived.Test.YtmfnlpmlmgjleaaGreatDoorWj
namespace Go.Proofs.YtmfnlpmlmgjleaaGreatDoor
open Go.RowKit

set_option maxRecDepth 100000 in
set_option maxHeartbeats 400000 in
theorem readPoint_no1 (rb : Nat) (s : ByteArray) (A r : List Pl.Tk) (x : Pl.Tk) (rg : List (List (Int × Int))) (w : World) (hR : RD rb s A (x :: r) rg w) (hx : x.k ≠ 110) :
    Calls Tryz.prog 134 #[.pointer (some ⟨rb, 0, none⟩)] w fun e w' => e = .returned (.bool false) ∧ RD rb s A (x :: r) rg w' ∧ Below rb w w' := by
  have hlt := hR.lt
  obtain ⟨t', r', hl, c0, c1, c2, c3, c4⟩ := hR.cells
  injection hl with h1 h2
  subst h1 h2
  go_enter Tryz.func134, Tryz.ntmps134
  go_wp2_with fail
  refine (takeNumber_no rb s A r x _ _ (hR.alloc _) hx).mono ?_
  rintro e w1 ⟨rfl, rfl⟩
  go_wp2_with fail
  go_ret
  exact ⟨rfl, hR.alloc _, (Below.refl rb w).alloc (by omega) _⟩

set_option maxRecDepth 100000 in
set_option maxHeartbeats 400000 in
theorem readPoint_no2 (hO : GoOnSaid) (rb : Nat) (s : ByteArray) (A r : List Pl.Tk) (x y : Pl.Tk) (rg : List (List (Int × Int))) (w : World) (cx : Cx rb s A) (hR : RD rb s A (x :: y :: r) rg w) (hG : Gl w) (hx : x.k = 110) (hy : y.k ≠ 110) :
    Calls Tryz.prog 134 #[.pointer (some ⟨rb, 0, none⟩)] w fun e w' => e = .returned (.bool false) ∧ RD rb s A (y :: r) rg w' ∧ Below rb w w' := by
  have hlt := hR.lt
  obtain ⟨t', r', hl, c0, c1, c2, c3, c4⟩ := hR.cells
  injection hl with h1 h2
  subst h1 h2
  go_enter Tryz.func134, Tryz.ntmps134
  go_wp2_with fail
  refine (takeNumber_yes hO rb s A (y :: r) x _ _ cx (hR.alloc _) (hG.alloc _) hx).mono ?_
  rintro e w1 ⟨rfl, hR1, hb1, hk1⟩
  clear c0 c1 c2 c3 c4
  obtain ⟨t', r', hl, c0, c1, c2, c3, c4⟩ := hR1.cells
  injection hl with h1 h2
  subst h1 h2
  have hlt1 := hR1.lt
  go_wp2_with fail
  refine (takeNumber_no rb s A r y _ _ (hR1.alloc _) hy).mono ?_
  rintro e w2 ⟨rfl, rfl⟩
  go_wp2_with fail
  go_ret
  exact ⟨rfl, hR1.alloc _, (((Below.refl rb w).alloc (by omega) _).trans hb1).alloc (by omega) _⟩

theorem RD.chain {rb : Nat} {s : ByteArray} {A l : List Pl.Tk} {rg : List (List (Int × Int))} {w : World} (cx : Cx rb s A) (h : RD rb s A l rg w) : Pl.Chain s.data.toList l := by
  obtain ⟨c, t, r, hc, hl⟩ := h.suffix
  exact Pl.chain_suffix _ c l (by rw [hc]; exact cx.ch) (by rw [hl]; simp)

theorem RD.le {rb : Nat} {s : ByteArray} {A l : List Pl.Tk} {rg : List (List (Int × Int))} {w : World} (h : RD rb s A l rg w) : l.length ≤ A.length := by
  obtain ⟨c, t, r, hc, hl⟩ := h.suffix
  rw [← hc]; simp

/-- What an item's reading leaves: the state behind it; if it was read, the rings with it. -/
def ItemPost (rb : Nat) (s : ByteArray) (A : List Pl.Tk) (b : Bool) (l' : List Pl.Tk) (rg' : List (List (Int × Int))) (w : World) (e : Ending) (w' : World) : Prop :=
  e = .returned (.bool b) ∧ (∃ rg, RD rb s A l' rg w' ∧ (b = true → rg = rg')) ∧ Below rb w w'

theorem readPoint_any (hO : GoOnSaid) (rb : Nat) (s : ByteArray) (A l : List Pl.Tk) (rg : List (List (Int × Int))) (q : List (Int × Int)) (w : World) (cx : Cx rb s A) (hR : RD rb s A l (rg ++ [q]) w) (hG : Gl w) (hq : q.length ≤ 1000) (hrg : rg.length ≤ 1000) :
    Calls Tryz.prog 134 #[.pointer (some ⟨rb, 0, none⟩)] w (ItemPost rb s A (Pl.pPt l).1 (Pl.pPt l).2.1 (rg ++ [q ++ [(Pl.pPt l).2.2]]) w) := by
  have hch := hR.chain cx
  match l, hR, hch with
  | [], hR, hch => exact hch.elim
  | [x], hR, hch =>
    have hx : x.k ≠ 110 := by
      have : x.k = 101 ∨ x.k = 120 := hch
      omega
    refine (readPoint_no1 rb s A [] x _ w hR hx).mono ?_
    rintro e w' ⟨rfl, h1, h2⟩
    exact ⟨rfl, ⟨_, h1, fun h => (by cases h)⟩, h2⟩
  | x :: y :: r, hR, hch =>
    by_cases hx : x.k = 110
    · by_cases hy : y.k = 110
      · have e : Pl.pPt (x :: y :: r) = (true, r, (x.n, y.n)) := by simp [Pl.pPt, hx, hy]
        rw [e]
        refine (readPoint_ok hO rb s A r x y rg q w cx hR hG hx hy hq hrg).mono ?_
        rintro e w' ⟨rfl, h1, h2⟩
        exact ⟨rfl, ⟨_, h1, fun _ => rfl⟩, h2⟩
      · have e : Pl.pPt (x :: y :: r) = (false, y :: r, (0, 0)) := by simp [Pl.pPt, hx, hy]
        rw [e]
        refine (readPoint_no2 hO rb s A r x y _ w cx hR hG hx hy).mono ?_
        rintro e w' ⟨rfl, h1, h2⟩
        exact ⟨rfl, ⟨_, h1, fun h => (by cases h)⟩, h2⟩
    · have e : Pl.pPt (x :: y :: r) = (false, x :: y :: r, (0, 0)) := by simp [Pl.pPt, hx]
      rw [e]
      refine (readPoint_no1 rb s A _ x _ w hR hx).mono ?_
      rintro e w' ⟨rfl, h1, h2⟩
      exact ⟨rfl, ⟨_, h1, fun h => (by cases h)⟩, h2⟩

end Go.Proofs.YtmfnlpmlmgjleaaGreatDoor
