import Derived.Test.YtmfnlpmlmgjleaaGreatDoorPl
namespace Go.Proofs.YtmfnlpmlmgjleaaGreatDoor
namespace Pl

/-- What a token looks like. -/
def Form (t : Tk) : Prop := ((t.k = 101 ∨ t.k = 120) ∧ t.raw = []) ∨ (∃ c : UInt8, t.raw = [c] ∧ t.k = c.toNat ∧ (c.toNat = 40 ∨ c.toNat = 41 ∨ c.toNat = 44 ∨ c.toNat = 47)) ∨
  (t.k = 119 ∧ ∃ c r, t.raw = c :: r ∧ isLet c = true) ∨ (t.k = 110 ∧ ∃ c r, t.raw = c :: r ∧ (isDig c = true ∨ c.toNat = 45))

theorem tkBody_form (l : List UInt8) (i : Nat) : Form (tkBody l i) := by
  unfold tkBody
  split
  · exact Or.inl ⟨Or.inl rfl, rfl⟩
  · rename_i c r
    split
    · rename_i h; exact Or.inr (Or.inl ⟨c, rfl, rfl, h⟩)
    · split
      · rename_i h
        exact Or.inr (Or.inr (Or.inl ⟨rfl, c, r.takeWhile isLet, by simp [h], h⟩))
      · split
        · rename_i h
          split
          · exact Or.inl ⟨Or.inr rfl, rfl⟩
          · exact Or.inr (Or.inr (Or.inr ⟨rfl, c, _, rfl, Or.inr h⟩))
        · split
          · exact Or.inl ⟨Or.inr rfl, rfl⟩
          · rename_i h
            by_cases hd : isDig c = true
            · exact Or.inr (Or.inr (Or.inr ⟨rfl, c, r.takeWhile isDig, by simp [hd], Or.inl hd⟩))
            · exact absurd (Or.inl (by simp [hd])) h

theorem place_form {s : List UInt8} {t : Tk} (h : Place s t) : Form t := by
  obtain ⟨_, i, _, rfl⟩ := h
  exact tkBody_form _ _

theorem sign_iff {t : Tk} (h : Form t) (c : UInt8) (hc : c.toNat = 40 ∨ c.toNat = 41 ∨ c.toNat = 44) : praw t = [c] ↔ t.k = c.toNat := by
  unfold praw
  rcases h with ⟨hk, hr⟩ | ⟨d, hr, hk, hd⟩ | ⟨hk, d, r, hr, hd⟩ | ⟨hk, d, r, hr, hd⟩
  · rw [if_neg (by omega), hr]
    constructor
    · intro h; cases h
    · intro h; omega
  · by_cases h47 : t.k = 47
    · rw [if_pos h47]
      constructor
      · intro h; cases h
      · intro h; omega
    · rw [if_neg h47, hr, hk]
      constructor
      · intro h; injection h with h; rw [h]
      · intro h; rw [UInt8.toNat_inj.1 h]
  · rw [if_neg (by omega), hr]
    constructor
    · intro h; injection h with h; have := of_decide_eq_true hd; rw [h] at this; omega
    · intro h; omega
  · rw [if_neg (by omega), hr]
    constructor
    · intro h; injection h with h
      rcases hd with hd | hd
      · have := of_decide_eq_true hd; rw [h] at this; omega
      · rw [h] at hd; omega
    · intro h; omega

theorem word_iff {t : Tk} (h : Form t) (q : List UInt8) (a : UInt8) (b : List UInt8) (hq : q = a :: b) (ha : isLet a = true) : praw t = q ↔ (t.k = 119 ∧ t.raw = q) := by
  have ha' := of_decide_eq_true ha
  unfold praw
  rcases h with ⟨hk, hr⟩ | ⟨d, hr, hk, hd⟩ | ⟨hk, d, r, hr, hd⟩ | ⟨hk, d, r, hr, hd⟩
  · rw [if_neg (by omega), hr, hq]
    constructor
    · intro h; cases h
    · intro h; cases h.2
  · by_cases h47 : t.k = 47
    · rw [if_pos h47, hq]
      constructor
      · intro h; cases h
      · intro h; omega
    · rw [if_neg h47, hr, hq]
      constructor
      · intro h; injection h with h; rw [h] at hd; omega
      · intro h; omega
  · rw [if_neg (by omega)]
    exact ⟨fun h => ⟨hk, h⟩, fun h => h.2⟩
  · rw [if_neg (by omega), hr, hq]
    constructor
    · intro h; injection h with h
      rcases hd with hd | hd
      · have := of_decide_eq_true hd; rw [h] at this; omega
      · rw [h] at hd; omega
    · intro h; omega

theorem pk_num {t : Tk} : pk t = 3 ↔ t.k = 110 := by
  unfold pk
  constructor
  · intro h
    repeat' split at h
    all_goals first | assumption | omega
  · intro h
    rw [if_neg (by omega), if_neg (by omega), if_pos h]

theorem pk_end {t : Tk} : pk t = 1 ↔ t.k = 101 := by
  unfold pk
  constructor
  · intro h
    repeat' split at h
    all_goals first | assumption | omega
  · intro h
    rw [if_pos h]

end Pl
end Go.Proofs.YtmfnlpmlmgjleaaGreatDoor
