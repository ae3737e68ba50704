import Derived.Test.YtkjhhooecopolaaGreatDoorPj00
import Derived.Test.YtkjhhooecopolaaGreatDoorPj07
namespace Go.Proofs.YtkjhhooecopolaaGreatDoor
namespace Pl

/-- What a token looks like. -/
def Form (t : Tk) : Prop := ((t.k = 101 ∨ t.k = 120) ∧ t.raw = []) ∨ (∃ c : UInt8, t.raw = [c] ∧ t.k = c.toNat ∧ (c.toNat = 40 ∨ c.toNat = 41 ∨ c.toNat = 44 ∨ c.toNat = 47)) ∨
  (t.k = 119 ∧ ∃ c r, t.raw = c :: r ∧ isLet c = true) ∨ (t.k = 110 ∧ ∃ c r, t.raw = c :: r ∧ (isDig c = true ∨ c.toNat = 45))

theorem tkBody_form (l : List UInt8) (i : Nat) : Form (tkBody l i) := by
  unfold tkBody
  split
  · exact Or.inl ⟨Or.inl rfl, rfl⟩
  · rename_i c r
    split
    · rename_i h; exact Or.inr (Or.inl ⟨c, rfl, rfl, h⟩)
    · split
      · rename_i h
        exact Or.inr (Or.inr (Or.inl ⟨rfl, c, r.takeWhile isLet, by simp [h], h⟩))
      · split
        · rename_i h
          split
          · exact Or.inl ⟨Or.inr rfl, rfl⟩
          · exact Or.inr (Or.inr (Or.inr ⟨rfl, c, _, rfl, Or.inr h⟩))
        · split
          · exact Or.inl ⟨Or.inr rfl, rfl⟩
          · rename_i h
            by_cases hd : isDig c = true
            · exact Or.inr (Or.inr (Or.inr ⟨rfl, c, r.takeWhile isDig, by simp [hd], Or.inl hd⟩))
            · exact absurd (Or.inl (by simp [hd])) h

theorem place_form {s : List UInt8} {t : Tk} (h : Place s t) : Form t := by
  obtain ⟨_, i, _, rfl⟩ := h
  exact tkBody_form _ _

theorem sign_iff {t : Tk} (h : Form t) (c : UInt8) (hc : c.toNat = 40 ∨ c.toNat = 41 ∨ c.toNat = 44) : praw t = [c] ↔ t.k = c.toNat := by
  unfold praw
  rcases h with ⟨hk, hr⟩ | ⟨d, hr, hk, hd⟩ | ⟨hk, d, r, hr, hd⟩ | ⟨hk, d, r, hr, hd⟩
  · rw [if_neg (by omega), hr]
    constructor
    · intro h; cases h
    · intro h; omega
  · by_cases h47 : t.k = 47
    · rw [if_pos h47]
      constructor
      · intro h; cases h
      · intro h; omega
    · rw [if_neg h47, hr, hk]
      constructor
      · intro h; injection h with h; rw [h]
      · intro h; rw [UInt8.toNat_inj.1 h]
  · rw [if_neg (by omega), hr]
    constructor
    · intro h; injection h with h; have := of_decide_eq_true hd; rw [h] at this; omega
    · intro h; omega
  · rw [if_neg (by omega), hr]
    constructor
    · intro h; injection h with h
      rcases hd with hd | hd
      · have := of_decide_eq_true hd; rw [h] at this; omega
      · rw [h] at hd; omega
    · intro h; omega

theorem word_iff {t : Tk} (h : Form t) (q : List UInt8) (a : UInt8) (b : List UInt8) (hq : q = a :: b) (ha : isLet a = true) : praw t = q ↔ (t.k = 119 ∧ t.raw = q) := by
  have ha' := of_decide_eq_true ha
  unfold praw
  rcases h with ⟨hk, hr⟩ | ⟨d, hr, hk, hd⟩ | ⟨hk, d, r, hr, hd⟩ | ⟨hk, d, r, hr, hd⟩
  · rw [if_neg (by omega), hr, hq]
    constructor
    · intro h; cases h
    · intro h; cases h.2
  · by_cases h47 : t.k = 47
    · rw [if_pos h47, hq]
      constructor
      · intro h; cases h
      · intro h; omega
    · rw [if_neg h47, hr, hq]
      constructor
      · intro h; injection h with h; rw [h] at hd; omega
      · intro h; omega
  · rw [if_neg (by omega)]
    exact ⟨fun h => ⟨hk, h⟩, fun h => h.2⟩
  · rw [if_neg (by omega), hr, hq]
    constructor
    · intro h; injection h with h
      rcases hd with hd | hd
      · have := of_decide_eq_true hd; rw [h] at this; omega
      · rw [h] at hd; omega
    · intro h; omega

theorem pk_num {t : Tk} : pk t = 3 ↔ t.k = 110 := by
  unfold pk
  constructor
  · intro h
    repeat' split at h
    all_goals first | assumption | omega
  · intro h
    rw [if_neg (by omega), if_neg (by omega), if_pos h]

theorem pk_end {t : Tk} : pk t = 1 ↔ t.k = 101 := by
  unfold pk
  constructor
  · intro h
    repeat' split at h
    all_goals first | assumption | omega
  · intro h
    rw [if_pos h]

end Pl
end Go.Proofs.YtkjhhooecopolaaGreatDoor

namespace Go.Proofs.YtkjhhooecopolaaGreatDoor
open Go.RowKit

set_option maxRecDepth 100000 in
set_option maxHeartbeats 400000 in
theorem take_yes (hO : GoOnSaid) (rb : Nat) (s q : ByteArray) (A r : List Pl.Tk) (t : Pl.Tk) (rg : List (List (Int × Int))) (w : World) (cx : Cx rb s A) (hR : RD rb s A (t :: r) rg w) (hG : Gl w)
    (hk : t.k = 119 ∨ t.k = 110 ∨ t.k = 40 ∨ t.k = 41 ∨ t.k = 44) (hq : (⟨(Pl.praw t).toArray⟩ : ByteArray) = q) :
    Calls Tryz.prog 94 #[.pointer (some ⟨rb, 0, none⟩), .string q] w fun e w' => e = .returned (.bool true) ∧ RD rb s A r rg w' ∧ Below rb w w' := by
  obtain ⟨t', r', hl, c0, c1, c2, c3, c4⟩ := hR.cells
  injection hl with h1 h2
  subst h1 h2
  rw [hq] at c2
  clear hq
  have HO : Hid (Calls Tryz.prog 148 #[.pointer (some ⟨rb, 0, none⟩)] w fun e w' => e = .returned (.tuple #[]) ∧ RD rb s A r rg w' ∧ Below rb w w' ∧ Kp rb w w') := hO rb s A r t rg w cx hR hG hk
  clear hO hR hk
  go_enter Tryz.func94, Tryz.ntmps94
  go_wp2_with fail
  refine HO.out.mono ?_
  rintro e w1 ⟨rfl, h1, h2, h3⟩
  go_wp2_with fail
  go_ret
  exact ⟨rfl, h1, h2⟩

set_option maxRecDepth 100000 in
set_option maxHeartbeats 400000 in
theorem take_no (rb : Nat) (s q : ByteArray) (A r : List Pl.Tk) (t : Pl.Tk) (rg : List (List (Int × Int))) (w : World) (hR : RD rb s A (t :: r) rg w)
    (hq : ((⟨(Pl.praw t).toArray⟩ : ByteArray).toList == q.toList) = false) :
    Calls Tryz.prog 94 #[.pointer (some ⟨rb, 0, none⟩), .string q] w fun e w' => e = .returned (.bool false) ∧ w' = w := by
  obtain ⟨t', r', hl, c0, c1, c2, c3, c4⟩ := hR.cells
  injection hl with h1 h2
  subst h1 h2
  generalize (⟨(Pl.praw t).toArray⟩ : ByteArray) = a at *
  clear hR
  go_enter Tryz.func94, Tryz.ntmps94
  go_wp2_with fail
  go_ret
  exact ⟨rfl, rfl⟩

theorem RD.suffix {rb : Nat} {s : ByteArray} {A l : List Pl.Tk} {rg : List (List (Int × Int))} {w : World} (h : RD rb s A l rg w) : ∃ c t r, c ++ l = A ∧ l = t :: r := by
  obtain ⟨c, t, r, tv, rv, hc, hl, _⟩ := h
  exact ⟨c, t, r, hc, hl⟩

theorem RD.form {rb : Nat} {s : ByteArray} {A r : List Pl.Tk} {t : Pl.Tk} {rg : List (List (Int × Int))} {w : World} (cx : Cx rb s A) (h : RD rb s A (t :: r) rg w) : Pl.Form t := by
  obtain ⟨c, _, _, hc, _⟩ := h.suffix
  exact Pl.place_form (cx.pl t (by rw [← hc]; simp))

/-- Go past a sign, if it stands there. -/
theorem take_sign (hO : GoOnSaid) (c : UInt8) (hc : c.toNat = 40 ∨ c.toNat = 41 ∨ c.toNat = 44) (rb : Nat) (s : ByteArray) (A l : List Pl.Tk) (rg : List (List (Int × Int))) (w : World) (cx : Cx rb s A) (hR : RD rb s A l rg w) (hG : Gl w) :
    Calls Tryz.prog 94 #[.pointer (some ⟨rb, 0, none⟩), .string ⟨#[c]⟩] w fun e w' => e = .returned (.bool (Pl.mk c.toNat l).1) ∧ RD rb s A (Pl.mk c.toNat l).2 rg w' ∧ Below rb w w' := by
  obtain ⟨_, t, r, _, rfl⟩ := hR.suffix
  have hf := hR.form cx
  by_cases hk : t.k = c.toNat
  · have e : Pl.mk c.toNat (t :: r) = (true, r) := by simp [Pl.mk, hk]
    rw [e]
    exact take_yes hO rb s ⟨#[c]⟩ A r t rg w cx hR hG (by omega) (by rw [(Pl.sign_iff hf c hc).2 hk])
  · have e : Pl.mk c.toNat (t :: r) = (false, t :: r) := by simp [Pl.mk, hk]
    rw [e]
    refine (take_no rb s ⟨#[c]⟩ A r t rg w hR ?_).mono ?_
    · rw [ByteArray.toList_eq, ByteArray.toList_eq, beq_eq_false_iff_ne]
      intro h
      exact hk ((Pl.sign_iff hf c hc).1 (by simpa using h))
    · rintro e w' ⟨rfl, rfl⟩
      exact ⟨rfl, hR, Below.refl _ _⟩

theorem take_word (hO : GoOnSaid) (q : List UInt8) (a : UInt8) (b : List UInt8) (hq : q = a :: b) (ha : Pl.isLet a = true) (rb : Nat) (s : ByteArray) (A l : List Pl.Tk) (rg : List (List (Int × Int))) (w : World) (cx : Cx rb s A) (hR : RD rb s A l rg w) (hG : Gl w) :
    Calls Tryz.prog 94 #[.pointer (some ⟨rb, 0, none⟩), .string ⟨q.toArray⟩] w fun e w' => e = .returned (.bool (Pl.wd q l).1) ∧ RD rb s A (Pl.wd q l).2 rg w' ∧ Below rb w w' := by
  obtain ⟨_, t, r, _, rfl⟩ := hR.suffix
  have hf := hR.form cx
  by_cases hk : t.k = 119 ∧ t.raw = q
  · have e : Pl.wd q (t :: r) = (true, r) := by simp [Pl.wd, hk]
    rw [e]
    exact take_yes hO rb s ⟨q.toArray⟩ A r t rg w cx hR hG (by omega) (by rw [(Pl.word_iff hf q a b hq ha).2 hk])
  · have e : Pl.wd q (t :: r) = (false, t :: r) := by simp only [Pl.wd]; rw [if_neg hk]
    rw [e]
    refine (take_no rb s ⟨q.toArray⟩ A r t rg w hR ?_).mono ?_
    · rw [ByteArray.toList_eq, ByteArray.toList_eq, beq_eq_false_iff_ne]
      intro h
      exact hk ((Pl.word_iff hf q a b hq ha).1 (by simpa using h))
    · rintro e w' ⟨rfl, rfl⟩
      exact ⟨rfl, hR, Below.refl _ _⟩

set_option maxRecDepth 100000 in
set_option maxHeartbeats 400000 in
theorem takeNumber_yes (hO : GoOnSaid) (rb : Nat) (s : ByteArray) (A r : List Pl.Tk) (t : Pl.Tk) (rg : List (List (Int × Int))) (w : World) (cx : Cx rb s A) (hR : RD rb s A (t :: r) rg w) (hG : Gl w) (hk : t.k = 110) :
    Calls Tryz.prog 238 #[.pointer (some ⟨rb, 0, none⟩)] w fun e w' => e = .returned (.bool true) ∧ RD rb s A r rg w' ∧ Below rb w w' ∧ Kp rb w w' := by
  obtain ⟨t', r', hl, c0, c1, c2, c3, c4⟩ := hR.cells
  injection hl with h1 h2
  subst h1 h2
  rw [Pl.pk_num.2 hk] at c1
  have HO : Hid (Calls Tryz.prog 148 #[.pointer (some ⟨rb, 0, none⟩)] w fun e w' => e = .returned (.tuple #[]) ∧ RD rb s A r rg w' ∧ Below rb w w' ∧ Kp rb w w') := hO rb s A r t rg w cx hR hG (by omega)
  clear hO hR hk
  go_enter Tryz.func238, Tryz.ntmps238
  go_wp2_with fail
  refine HO.out.mono ?_
  rintro e w1 ⟨rfl, h1, h2, h3⟩
  go_wp2_with fail
  go_ret
  exact ⟨rfl, h1, h2, h3⟩

set_option maxRecDepth 100000 in
set_option maxHeartbeats 400000 in
theorem takeNumber_no (rb : Nat) (s : ByteArray) (A r : List Pl.Tk) (t : Pl.Tk) (rg : List (List (Int × Int))) (w : World) (hR : RD rb s A (t :: r) rg w) (hk : t.k ≠ 110) :
    Calls Tryz.prog 238 #[.pointer (some ⟨rb, 0, none⟩)] w fun e w' => e = .returned (.bool false) ∧ w' = w := by
  obtain ⟨t', r', hl, c0, c1, c2, c3, c4⟩ := hR.cells
  injection hl with h1 h2
  subst h1 h2
  have hp : (Pl.pk t != 3) = true := by
    rw [bne_iff_ne]; intro h; exact hk (Pl.pk_num.1 h)
  generalize Pl.pk t = a at *
  clear hR hk
  go_enter Tryz.func238, Tryz.ntmps238
  go_wp2_with fail
  go_ret
  exact ⟨rfl, rfl⟩

end Go.Proofs.YtkjhhooecopolaaGreatDoor
