import Derived.Test.YtmfnlpmlmgjleaaGreatDoorMf
namespace Go.Proofs.YtmfnlpmlmgjleaaGreatDoor
open Go.RowKit

theorem heap_of_own {w : World} {base : Nat} {e : TypeId} {size : Nat} {v : Value} {n : Nat} {xs : List Value} (h : w.ownsRow base e size v n xs) {k : Nat} (hk : v.ownBlock = some k) :
    ∃ cur, w.heap[k]? = some (.cells cur e (0, 0)) := by
  rcases h.2 with ⟨ha, _⟩ | ⟨g, cap, cur, hv, hg, hh, r⟩
  · rw [ha] at hk; cases hk
  · rw [hv] at hk
    have : g = k := by simpa [Value.ownBlock] using hk
    subst this
    exact ⟨cur, hh⟩

/-- The last ring gets a point. -/
theorem Rings.push {rb : Nat} {rv : Value} {rg0 : List (List (Int × Int))} {q : List (Int × Int)} {w : World} (h : Rings rb rv (rg0 ++ [q]) w) :
    ∃ gr cap qv, rv = .slice (some ⟨gr, 0, none⟩) (rg0.length + 1) cap ∧ rb < gr ∧ (∃ cur, w.heap[gr]? = some (.cells cur 114 (0, 0)) ∧ cur[rg0.length]? = some qv) ∧
      w.ownsRow (rb + 1) 64 1 qv q.length (ptCells q) ∧
      ∀ (w5 : World) (g cap' : Nat) (o : Obj) (p : Int × Int), (w.alloc o).drew.grownBy w5 qv.ownBlock →
        w5.ownsRow (rb + 1) 64 1 (.slice (some ⟨g, 0, none⟩) (q.length + 1) cap') (q.length + 1) (ptCells q ++ [ptVal p]) →
        (qv.ownBlock = some g ∨ g = w.heap.size + 1) →
        Rings rb rv (rg0 ++ [q ++ [p]]) (w5.setCell ⟨gr, rg0.length, none⟩ (.slice (some ⟨g, 0, none⟩) (q.length + 1) cap')) := by
  obtain ⟨vs, h1, h2, h3, h4⟩ := h
  simp only [List.length_append, List.length_cons, List.length_nil, Nat.zero_add] at h1 h2
  obtain ⟨hl, h2'⟩ := id h2
  rcases h2' with ⟨_, h0⟩ | ⟨gr, cap, cur, hv, hg, hh, hnc, hcm, hcs, htake⟩
  · omega
  have hn : rg0.length < vs.length := by omega
  obtain ⟨qv, hqv⟩ : ∃ qv, vs[rg0.length]? = some qv := ⟨_, List.getElem?_eq_getElem hn⟩
  have hq : w.ownsRow (rb + 1) 64 1 qv q.length (ptCells q) := h3 rg0.length qv q hqv (by simp)
  have hcur : cur[rg0.length]? = some qv := by
    rw [← htake] at hqv
    rw [List.getElem?_take] at hqv
    simp only [Nat.mul_one] at hqv
    rw [if_pos (by omega)] at hqv
    simpa using hqv
  refine ⟨gr, cap, qv, hv, hg, ⟨cur, hh, hcur⟩, hq, ?_⟩
  intro w5 g cap' o p hgrow hown5 hat
  have hltg := lt_of_heap hh
  have hne : qv.ownBlock ≠ some gr := own_elem hq hh (by decide)
  have hh5 : w5.heap[gr]? = some (.cells cur 114 (0, 0)) := (grown_heap_drew hgrow gr hltg hne).trans hh
  have hggr : g ≠ gr := fun e => by
    obtain ⟨c5, hc5⟩ := heap_of_own hown5 (k := g) rfl
    rw [e, hh5] at hc5
    injection hc5 with hc5
    injection hc5 with _ hc5 _
    cases hc5
  refine ⟨vs.set rg0.length (.slice (some ⟨g, 0, none⟩) (q.length + 1) cap'), by simp [h1], ?_, ?_, ?_⟩
  · simp only [List.length_append, List.length_cons, List.length_nil, Nat.zero_add]
    refine ⟨by simpa using hl, Or.inr ⟨gr, cap, cur.setIfInBounds rg0.length (.slice (some ⟨g, 0, none⟩) (q.length + 1) cap'), hv, hg, heap_set hh5 _, hnc, hcm, by simpa using hcs, ?_⟩⟩
    rw [← htake]
    simp [List.take_set]
  · intro i v g' hi hg'
    by_cases hin : i = rg0.length
    · subst hin
      rw [List.getElem?_set_self hn] at hi
      injection hi with hi
      subst hi
      have e : g' = q ++ [p] := by simpa using hg'.symm
      subst e
      have e2 : ptCells (q ++ [p]) = ptCells q ++ [ptVal p] := by simp [ptCells]
      rw [e2]
      simp only [List.length_append, List.length_cons, List.length_nil, Nat.zero_add]
      refine own_kept hown5 fun k hk => heap_set_ne ?_ _
      have : g = k := by simpa [Value.ownBlock] using hk
      omega
    · rw [List.getElem?_set_ne (fun e => hin e.symm)] at hi
      have hilt : i < rg0.length := by
        have := (List.getElem?_eq_some_iff.1 hi).1
        omega
      have hg2 : (rg0 ++ [q])[i]? = some g' := by
        rw [List.getElem?_append_left hilt] at hg' ⊢; exact hg'
      have ho := h3 i v g' hi hg2
      refine own_kept ho fun k hk => ?_
      obtain ⟨c, hc⟩ := heap_of_own ho hk
      have hkgr : k ≠ gr := fun e => by
        rw [e, hh] at hc
        injection hc with hc
        injection hc with _ hc _
        cases hc
      rw [heap_set_ne hkgr]
      refine grown_heap_drew hgrow k (own_lt ho k hk).2 fun e => ?_
      exact hin (h4 i rg0.length v qv k hi hqv hk e)
  · intro i j v u k hi hj hv' hu'
    by_cases hin : i = rg0.length
    · by_cases hjn : j = rg0.length
      · omega
      · subst hin
        rw [List.getElem?_set_self hn] at hi
        injection hi with hi
        subst hi
        rw [List.getElem?_set_ne (fun e => hjn e.symm)] at hj
        have hgk : g = k := by simpa [Value.ownBlock] using hv'
        rcases hat with h | h
        · exact (h4 j rg0.length u qv k hj hqv hu' (by rw [h, hgk])).symm
        · have hjlt : j < rg0.length := by
            have := (List.getElem?_eq_some_iff.1 hj).1
            omega
          obtain ⟨gj, hgj⟩ : ∃ gj, (rg0 ++ [q])[j]? = some gj := ⟨_, List.getElem?_eq_getElem (by simp; omega)⟩
          have := (own_lt (h3 j u gj hj hgj) k hu').2
          omega
    · rw [List.getElem?_set_ne (fun e => hin e.symm)] at hi
      by_cases hjn : j = rg0.length
      · subst hjn
        rw [List.getElem?_set_self hn] at hj
        injection hj with hj
        subst hj
        have hgk : g = k := by simpa [Value.ownBlock] using hu'
        rcases hat with h | h
        · exact h4 i rg0.length v qv k hi hqv hv' (by rw [h, hgk])
        · have hilt : i < rg0.length := by
            have := (List.getElem?_eq_some_iff.1 hi).1
            omega
          obtain ⟨gi, hgi⟩ : ∃ gi, (rg0 ++ [q])[i]? = some gi := ⟨_, List.getElem?_eq_getElem (by simp; omega)⟩
          have := (own_lt (h3 i v gi hi hgi) k hv').2
          omega
      · rw [List.getElem?_set_ne (fun e => hjn e.symm)] at hj
        exact h4 i j v u k hi hj hv' hu'

end Go.Proofs.YtmfnlpmlmgjleaaGreatDoor
