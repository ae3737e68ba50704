import Derived.Test.YtmfnlpmlmgjleaaGreatDoorMf
import Derived.Test.YtmfnlpmlmgjleaaGreatDoorPm
namespace Go.Proofs.YtmfnlpmlmgjleaaGreatDoor
open Go.RowKit

set_option maxRecDepth 100000 in
set_option maxHeartbeats 400000 in
theorem take_yes (hO : GoOnSaid) (rb : Nat) (s q : ByteArray) (A r : List Pl.Tk) (t : Pl.Tk) (rg : List (List (Int × Int))) (w : World) (cx : Cx rb s A) (hR : RD rb s A (t :: r) rg w) (hG : Gl w)
    (hk : t.k = 119 ∨ t.k = 110 ∨ t.k = 40 ∨ t.k = 41 ∨ t.k = 44) (hq : (⟨(Pl.praw t).toArray⟩ : ByteArray) = q) :
    Calls Tryz.prog 83 #[.pointer (some ⟨rb, 0, none⟩), .string q] w fun e w' => e = .returned (.bool true) ∧ RD rb s A r rg w' ∧ Below rb w w' := by
  obtain ⟨t', r', hl, c0, c1, c2, c3, c4⟩ := hR.cells
  injection hl with h1 h2
  subst h1 h2
  rw [hq] at c2
  clear hq
  have HO : Hid (Calls Tryz.prog 111 #[.pointer (some ⟨rb, 0, none⟩)] w fun e w' => e = .returned (.tuple #[]) ∧ RD rb s A r rg w' ∧ Below rb w w' ∧ Kp rb w w') := hO rb s A r t rg w cx hR hG hk
  clear hO hR hk
  go_enter Tryz.func83, Tryz.ntmps83
  go_wp2_with fail
  refine HO.out.mono ?_
  rintro e w1 ⟨rfl, h1, h2, h3⟩
  go_wp2_with fail
  go_ret
  exact ⟨rfl, h1, h2⟩

set_option maxRecDepth 100000 in
set_option maxHeartbeats 400000 in
theorem take_no (rb : Nat) (s q : ByteArray) (A r : List Pl.Tk) (t : Pl.Tk) (rg : List (List (Int × Int))) (w : World) (hR : RD rb s A (t :: r) rg w)
    (hq : ((⟨(Pl.praw t).toArray⟩ : ByteArray).toList == q.toList) = false) :
    Calls Tryz.prog 83 #[.pointer (some ⟨rb, 0, none⟩), .string q] w fun e w' => e = .returned (.bool false) ∧ w' = w := by
  obtain ⟨t', r', hl, c0, c1, c2, c3, c4⟩ := hR.cells
  injection hl with h1 h2
  subst h1 h2
  generalize (⟨(Pl.praw t).toArray⟩ : ByteArray) = a at *
  clear hR
  go_enter Tryz.func83, Tryz.ntmps83
  go_wp2_with fail
  go_ret
  exact ⟨rfl, rfl⟩

theorem RD.suffix {rb : Nat} {s : ByteArray} {A l : List Pl.Tk} {rg : List (List (Int × Int))} {w : World} (h : RD rb s A l rg w) : ∃ c t r, c ++ l = A ∧ l = t :: r := by
  obtain ⟨c, t, r, tv, rv, hc, hl, _⟩ := h
  exact ⟨c, t, r, hc, hl⟩

theorem RD.form {rb : Nat} {s : ByteArray} {A r : List Pl.Tk} {t : Pl.Tk} {rg : List (List (Int × Int))} {w : World} (cx : Cx rb s A) (h : RD rb s A (t :: r) rg w) : Pl.Form t := by
  obtain ⟨c, _, _, hc, _⟩ := h.suffix
  exact Pl.place_form (cx.pl t (by rw [← hc]; simp))

/-- Go past a sign, if it stands there. -/
theorem take_sign (hO : GoOnSaid) (c : UInt8) (hc : c.toNat = 40 ∨ c.toNat = 41 ∨ c.toNat = 44) (rb : Nat) (s : ByteArray) (A l : List Pl.Tk) (rg : List (List (Int × Int))) (w : World) (cx : Cx rb s A) (hR : RD rb s A l rg w) (hG : Gl w) :
    Calls Tryz.prog 83 #[.pointer (some ⟨rb, 0, none⟩), .string ⟨#[c]⟩] w fun e w' => e = .returned (.bool (Pl.mk c.toNat l).1) ∧ RD rb s A (Pl.mk c.toNat l).2 rg w' ∧ Below rb w w' := by
  obtain ⟨_, t, r, _, rfl⟩ := hR.suffix
  have hf := hR.form cx
  by_cases hk : t.k = c.toNat
  · have e : Pl.mk c.toNat (t :: r) = (true, r) := by simp [Pl.mk, hk]
    rw [e]
    exact take_yes hO rb s ⟨#[c]⟩ A r t rg w cx hR hG (by omega) (by rw [(Pl.sign_iff hf c hc).2 hk])
  · have e : Pl.mk c.toNat (t :: r) = (false, t :: r) := by simp [Pl.mk, hk]
    rw [e]
    refine (take_no rb s ⟨#[c]⟩ A r t rg w hR ?_).mono ?_
    · rw [ByteArray.toList_eq, ByteArray.toList_eq, beq_eq_false_iff_ne]
      intro h
      exact hk ((Pl.sign_iff hf c hc).1 (by simpa using h))
    · rintro e w' ⟨rfl, rfl⟩
      exact ⟨rfl, hR, Below.refl _ _⟩

theorem take_word (hO : GoOnSaid) (q : List UInt8) (a : UInt8) (b : List UInt8) (hq : q = a :: b) (ha : Pl.isLet a = true) (rb : Nat) (s : ByteArray) (A l : List Pl.Tk) (rg : List (List (Int × Int))) (w : World) (cx : Cx rb s A) (hR : RD rb s A l rg w) (hG : Gl w) :
    Calls Tryz.prog 83 #[.pointer (some ⟨rb, 0, none⟩), .string ⟨q.toArray⟩] w fun e w' => e = .returned (.bool (Pl.wd q l).1) ∧ RD rb s A (Pl.wd q l).2 rg w' ∧ Below rb w w' := by
  obtain ⟨_, t, r, _, rfl⟩ := hR.suffix
  have hf := hR.form cx
  by_cases hk : t.k = 119 ∧ t.raw = q
  · have e : Pl.wd q (t :: r) = (true, r) := by simp [Pl.wd, hk]
    rw [e]
    exact take_yes hO rb s ⟨q.toArray⟩ A r t rg w cx hR hG (by omega) (by rw [(Pl.word_iff hf q a b hq ha).2 hk])
  · have e : Pl.wd q (t :: r) = (false, t :: r) := by simp only [Pl.wd]; rw [if_neg hk]
    rw [e]
    refine (take_no rb s ⟨q.toArray⟩ A r t rg w hR ?_).mono ?_
    · rw [ByteArray.toList_eq, ByteArray.toList_eq, beq_eq_false_iff_ne]
      intro h
      exact hk ((Pl.word_iff hf q a b hq ha).1 (by simpa using h))
    · rintro e w' ⟨rfl, rfl⟩
      exact ⟨rfl, hR, Below.refl _ _⟩

set_option maxRecDepth 100000 in
set_option maxHeartbeats 400000 in
theorem takeNumber_yes (hO : GoOnSaid) (rb : Nat) (s : ByteArray) (A r : List Pl.Tk) (t : Pl.Tk) (rg : List (List (Int × Int))) (w : World) (cx : Cx rb s A) (hR : RD rb s A (t :: r) rg w) (hG : Gl w) (hk : t.k = 110) :
    Calls Tryz.prog 155 #[.pointer (some ⟨rb, 0, none⟩)] w fun e w' => e = .returned (.bool true) ∧ RD rb s A r rg w' ∧ Below rb w w' ∧ Kp rb w w' := by
  obtain ⟨t', r', hl, c0, c1, c2, c3, c4⟩ := hR.cells
  injection hl with h1 h2
  subst h1 h2
  rw [Pl.pk_num.2 hk] at c1
  have HO : Hid (Calls Tryz.prog 111 #[.pointer (some ⟨rb, 0, none⟩)] w fun e w' => e = .returned (.tuple #[]) ∧ RD rb s A r rg w' ∧ Below rb w w' ∧ Kp rb w w') := hO rb s A r t rg w cx hR hG (by omega)
  clear hO hR hk
  go_enter Tryz.func155, Tryz.ntmps155
  go_wp2_with fail
  refine HO.out.mono ?_
  rintro e w1 ⟨rfl, h1, h2, h3⟩
  go_wp2_with fail
  go_ret
  exact ⟨rfl, h1, h2, h3⟩

set_option maxRecDepth 100000 in
set_option maxHeartbeats 400000 in
theorem takeNumber_no (rb : Nat) (s : ByteArray) (A r : List Pl.Tk) (t : Pl.Tk) (rg : List (List (Int × Int))) (w : World) (hR : RD rb s A (t :: r) rg w) (hk : t.k ≠ 110) :
    Calls Tryz.prog 155 #[.pointer (some ⟨rb, 0, none⟩)] w fun e w' => e = .returned (.bool false) ∧ w' = w := by
  obtain ⟨t', r', hl, c0, c1, c2, c3, c4⟩ := hR.cells
  injection hl with h1 h2
  subst h1 h2
  have hp : (Pl.pk t != 3) = true := by
    rw [bne_iff_ne]; intro h; exact hk (Pl.pk_num.1 h)
  generalize Pl.pk t = a at *
  clear hR hk
  go_enter Tryz.func155, Tryz.ntmps155
  go_wp2_with fail
  go_ret
  exact ⟨rfl, rfl⟩

end Go.Proofs.YtmfnlpmlmgjleaaGreatDoor
