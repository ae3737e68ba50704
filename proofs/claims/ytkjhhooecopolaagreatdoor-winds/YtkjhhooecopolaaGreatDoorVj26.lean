import Derived.Test.YtkjhhooecopolaaGreatDoorVj25
namespace Go.Proofs.YtkjhhooecopolaaGreatDoor.Ge

theorem sign_scale {k z : Int} (hk : 0 < k) : (k * z).sign = z.sign := by
  rw [Int.sign_mul, Int.sign_eq_one_of_pos hk, Int.one_mul]

theorem side_sign {XN XD YN YD x y d g1 g2 : Int} (a b : Pt) (h1 : x = g1 * XN) (h2 : d = g1 * XD) (h3 : y = g2 * YN) (h4 : d = g2 * YD) (p1 : 0 < g1) (p2 : 0 < g2) :
    ((b.1 - a.1) * (YN - a.2 * YD) * XD - (b.2 - a.2) * (XN - a.1 * XD) * YD).sign = (cr (rel (x, y) d a) (rel (x, y) d b)).sign := by
  rw [← sign_scale (Int.mul_pos p1 p2)]
  congr 1
  simp only [cr, rel]
  have e1 : d * a.1 - x = g1 * (XD * a.1 - XN) := by rw [h1, h2]; grind
  have e2 : d * b.2 - y = g2 * (YD * b.2 - YN) := by rw [h3, h4]; grind
  have e3 : d * a.2 - y = g2 * (YD * a.2 - YN) := by rw [h3, h4]; grind
  have e4 : d * b.1 - x = g1 * (XD * b.1 - XN) := by rw [h1, h2]; grind
  rw [e1, e2, e3, e4]
  clear e1 e2 e3 e4 h1 h2 h3 h4
  grind

theorem cmp_sign {XN XD x d g a : Int} (h1 : x = g * XN) (h2 : d = g * XD) (p : 0 < g) : (XN * 1 - a * XD).sign = -(d * a - x).sign := by
  rw [← sign_scale p, ← Int.sign_neg]
  congr 1
  rw [h1, h2]
  grind

end Go.Proofs.YtkjhhooecopolaaGreatDoor.Ge

namespace Go.Proofs.YtkjhhooecopolaaGreatDoor.Ge

theorem closing_length (g : List Pt) : (closing g).length = g.length := by
  cases g with
  | nil => rfl
  | cons a r => simp [closing]

/-- Where a ring's way from its n-th point goes to. -/
def nextOf (g : List Pt) (n : Nat) : Option Pt := if n + 1 < g.length then g[n + 1]? else g[0]?

theorem closing_get {g : List Pt} {n : Nat} {p q : Pt} (hp : g[n]? = some p) (hq : nextOf g n = some q) : (closing g)[n]? = some (p, q) := by
  cases g with
  | nil => simp at hp
  | cons a r =>
    show ((a :: r).zip (r ++ [a]))[n]? = _
    rw [List.getElem?_zip_eq_some]
    refine ⟨hp, ?_⟩
    unfold nextOf at hq
    by_cases h : n + 1 < (a :: r).length
    · rw [if_pos h] at hq
      simp only [List.length_cons] at h
      rw [List.getElem?_append_left (by omega)]
      simpa using hq
    · rw [if_neg h] at hq
      have hn : n < (a :: r).length := (List.getElem?_eq_some_iff.1 hp).1
      simp only [List.length_cons] at h hn
      have e : n = r.length := by omega
      rw [e, List.getElem?_append_right (Nat.le_refl _)]
      simpa using hq

/-- The ways of the ring's first n points. -/
def edT (g : List Pt) (n : Nat) : List (Pt × Pt) := ((closing g).take n).filter fun e => decide (e.1 ≠ e.2)

theorem edT_zero (g : List Pt) : edT g 0 = [] := by simp [edT]
theorem edT_all (g : List Pt) : edT g g.length = edges g := by
  unfold edT edges
  rw [← closing_length g, List.take_length]
theorem edT_eq {g : List Pt} {n : Nat} {p q : Pt} (hp : g[n]? = some p) (hq : nextOf g n = some q) (h : p = q) : edT g (n + 1) = edT g n := by
  obtain ⟨hlt, he⟩ := List.getElem?_eq_some_iff.1 (closing_get hp hq)
  unfold edT
  rw [List.take_succ_eq_append_getElem hlt, he, List.filter_append]
  simp [h]
theorem edT_ne {g : List Pt} {n : Nat} {p q : Pt} (hp : g[n]? = some p) (hq : nextOf g n = some q) (h : p ≠ q) : edT g (n + 1) = edT g n ++ [(p, q)] := by
  obtain ⟨hlt, he⟩ := List.getElem?_eq_some_iff.1 (closing_get hp hq)
  unfold edT
  rw [List.take_succ_eq_append_getElem hlt, he, List.filter_append]
  simp [h]
theorem edT_le (g : List Pt) (n : Nat) : (edT g n).length ≤ g.length := by
  unfold edT
  refine Nat.le_trans (List.length_filter_le _ _) ?_
  rw [List.length_take, closing_length]
  omega

theorem all_append (a b : List (List Pt)) : allEdges (a ++ b) = allEdges a ++ allEdges b := by simp [allEdges]
theorem all_take {p : List (List Pt)} {k : Nat} {g : List Pt} (h : p[k]? = some g) : allEdges (p.take (k + 1)) = allEdges (p.take k) ++ edges g := by
  obtain ⟨hlt, he⟩ := List.getElem?_eq_some_iff.1 h
  rw [List.take_succ_eq_append_getElem hlt, he, all_append]
  simp [allEdges]
theorem flat_take {ps : List (List (List Pt))} {i : Nat} {p : List (List Pt)} (h : ps[i]? = some p) : allEdges (ps.take (i + 1)).flatten = allEdges (ps.take i).flatten ++ allEdges p := by
  obtain ⟨hlt, he⟩ := List.getElem?_eq_some_iff.1 h
  rw [List.take_succ_eq_append_getElem hlt, he, List.flatten_append, all_append]
  simp

theorem all_le (B : Nat) : ∀ (p : List (List Pt)), (∀ g ∈ p, g.length ≤ B) → (allEdges p).length ≤ p.length * B
  | [], _ => by simp [allEdges]
  | g :: p, h => by
    have e : allEdges (g :: p) = edges g ++ allEdges p := List.flatMap_cons
    have h1 := all_le B p (fun x hx => h x (by simp [hx]))
    have h2 := h g (by simp)
    have h3 : (edges g).length ≤ g.length := by rw [← edT_all]; exact edT_le g _
    rw [e, List.length_append, List.length_cons, Nat.add_mul]
    omega
theorem flat_le (B C : Nat) : ∀ (ps : List (List (List Pt))), (∀ p ∈ ps, p.length ≤ C ∧ ∀ g ∈ p, g.length ≤ B) → (allEdges ps.flatten).length ≤ ps.length * (C * B)
  | [], _ => by simp [allEdges]
  | p :: ps, h => by
    rw [List.flatten_cons, all_append, List.length_append, List.length_cons, Nat.add_mul]
    have h1 := flat_le B C ps (fun x hx => h x (by simp [hx]))
    have h2 := h p (by simp)
    have h3 := all_le B p h2.2
    have h4 := Nat.mul_le_mul_right B h2.1
    omega

theorem edges_mem {g : List Pt} {e : Pt × Pt} (h : e ∈ edges g) : e.1 ∈ g ∧ e.2 ∈ g := by
  unfold edges at h
  have h1 := (List.mem_filter.1 h).1
  cases g with
  | nil => simp [closing] at h1
  | cons a r =>
    obtain ⟨x, y⟩ := e
    have h2 := List.of_mem_zip h1
    refine ⟨h2.1, ?_⟩
    have := h2.2
    simp at this ⊢
    rcases this with h | h
    · exact Or.inr h
    · exact Or.inl h
theorem all_mem {rg : List (List Pt)} {e : Pt × Pt} (h : e ∈ allEdges rg) : ∃ g ∈ rg, e.1 ∈ g ∧ e.2 ∈ g := by
  unfold allEdges at h
  obtain ⟨g, hg, he⟩ := List.mem_flatMap.1 h
  exact ⟨g, hg, edges_mem he⟩
theorem edges_ne {rg : List (List Pt)} {e : Pt × Pt} (h : e ∈ allEdges rg) : e.1 ≠ e.2 := by
  unfold allEdges at h
  obtain ⟨g, hg, he⟩ := List.mem_flatMap.1 h
  unfold edges at he
  simpa using (List.mem_filter.1 he).2

end Go.Proofs.YtkjhhooecopolaaGreatDoor.Ge
