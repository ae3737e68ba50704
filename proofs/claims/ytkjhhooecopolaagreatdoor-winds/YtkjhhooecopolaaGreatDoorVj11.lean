import Derived.Test.YtkjhhooecopolaaGreatDoorVj10
import Derived.Deep.LoopGhost
namespace Go.Proofs.YtkjhhooecopolaaGreatDoor
open Go.RowKit

theorem mk_true {c : Nat} {l : List Pl.Tk} (h : (Pl.mk c l).1 = true) : (Pl.mk c l).2.length + 1 = l.length := by
  cases l with
  | nil => simp [Pl.mk] at h
  | cons t r =>
    by_cases hk : t.k = c
    · simp [Pl.mk, hk]
    · simp [Pl.mk, hk] at h

theorem mk_false {c : Nat} {l : List Pl.Tk} (h : (Pl.mk c l).1 = false) : (Pl.mk c l).2 = l := by
  cases l with
  | nil => rfl
  | cons t r =>
    by_cases hk : t.k = c
    · simp [Pl.mk, hk] at h
    · simp [Pl.mk, hk]

/-- The three ways of a round. -/
theorem row_stop {α : Type} {item : List Pl.Tk → Bool × List Pl.Tk × α} {g : Nat} {l : List Pl.Tk} {acc : List α} (h : (item l).1 = false) : Pl.pRow item (g + 1) l acc = (false, (item l).2.1, acc) := by
  rw [Pl.pRow, if_neg (by rw [h]; simp)]
theorem row_more {α : Type} {item : List Pl.Tk → Bool × List Pl.Tk × α} {g : Nat} {l : List Pl.Tk} {acc : List α} (h : (item l).1 = true) (h2 : (Pl.mk 44 (item l).2.1).1 = true) :
    Pl.pRow item (g + 1) l acc = Pl.pRow item g (Pl.mk 44 (item l).2.1).2 (acc ++ [(item l).2.2]) := by
  rw [Pl.pRow, if_pos h, if_pos h2]
theorem row_end {α : Type} {item : List Pl.Tk → Bool × List Pl.Tk × α} {g : Nat} {l : List Pl.Tk} {acc : List α} (h : (item l).1 = true) (h2 : (Pl.mk 44 (item l).2.1).1 = false) :
    Pl.pRow item (g + 1) l acc = ((Pl.mk 41 (item l).2.1).1, (Pl.mk 41 (item l).2.1).2, acc ++ [(item l).2.2]) := by
  rw [Pl.pRow, if_pos h, if_neg (by rw [h2]; simp)]

set_option maxRecDepth 100000 in
set_option maxHeartbeats 1000000 in
theorem readRow_readPoint {α : Type} (item : List Pl.Tk → Bool × List Pl.Tk × α) (E : List α → List (List (Int × Int))) (B : List Pl.Tk → List α → Prop) (hO : GoOnSaid) (rb : Nat) (s : ByteArray) (A : List Pl.Tk) (cx : Cx rb s A)
    (hI : ∀ l acc w, RD rb s A l (E acc) w → Gl w → B l acc → Calls Tryz.prog 196 #[.pointer (some ⟨rb, 0, none⟩)] w (ItemPost rb s A (item l).1 (item l).2.1 (E (acc ++ [(item l).2.2])) w))
    (hd : ∀ l, (item l).1 = true → (item l).2.1.length < l.length)
    (hB : ∀ l acc, B l acc → (item l).1 = true → B (Pl.mk 44 (item l).2.1).2 (acc ++ [(item l).2.2]))
    (f : Nat) (l : List Pl.Tk) (acc : List α) (w : World) (hR : RD rb s A l (E acc) w) (hG : Gl w) (hBl : B l acc) (hf : l.length ≤ f) :
    Calls Tryz.prog 149 #[.pointer (some ⟨rb, 0, none⟩), .func (.func 196) #[.pointer (some ⟨rb, 0, none⟩)] #[]] w (ItemPost rb s A (Pl.pRow item f l acc).1 (Pl.pRow item f l acc).2.1 (E (Pl.pRow item f l acc).2.2) w) := by
  generalize hT : Pl.pRow item f l acc = T
  have HI : Hid (∀ l acc w, RD rb s A l (E acc) w → Gl w → B l acc → Calls Tryz.prog 196 #[.pointer (some ⟨rb, 0, none⟩)] w (ItemPost rb s A (item l).1 (item l).2.1 (E (acc ++ [(item l).2.2])) w)) := hI
  have HD : Hid (∀ l, (item l).1 = true → (item l).2.1.length < l.length) := hd
  have HB : Hid (∀ l acc, B l acc → (item l).1 = true → B (Pl.mk 44 (item l).2.1).2 (acc ++ [(item l).2.2])) := hB
  have HS : Hid (∃ l acc, l.length ≤ f ∧ RD rb s A l (E acc) w ∧ Gl w ∧ B l acc ∧ Below rb w w ∧ Pl.pRow item f l acc = T) := ⟨l, acc, hf, hR, hG, hBl, Below.refl _ _, hT⟩
  clear hI hd hB hT hR hG hBl hf
  go_enter Tryz.func149, Tryz.ntmps149
  go_wp2_with fail
  go_loopg [6] f (fun g s6 wr => Hid (∃ l acc, l.length ≤ g ∧ RD rb s A l (E acc) wr ∧ Gl wr ∧ B l acc ∧ Below rb w wr ∧ Pl.pRow item g l acc = T))
  case atStart => exact HS
  case round =>
    obtain ⟨l, acc, hlen, hR, hG, hBl, hbel, hT⟩ := hrel.out
    have hne : l ≠ [] := by
      obtain ⟨_, _, _, _, h⟩ := hR.suffix
      rw [h]; simp
    obtain ⟨g1, rfl⟩ : ∃ g1, gk = g1 + 1 := ⟨gk - 1, by have := List.length_pos_iff.2 hne; omega⟩
    clear hne
    have HR : Hid (Pl.pRow item (g1 + 1) l acc = T) := hT
    have HL : Hid (l.length ≤ g1 + 1) := hlen
    clear hT hlen
    go_wp2_with fail
    refine (HI.out l acc wr hR hG hBl).mono ?_
    rintro e w1 ⟨rfl, ⟨rg1, hR1, hrg1⟩, hb1⟩
    have hG1 : Gl w1 := hG.below hb1 cx.rb
    have HE : Hid ((item l).1 = true → rg1 = E (acc ++ [(item l).2.2])) := hrg1
    clear hrg1
    cases hi : (item l).1
    · have hT := HR.out
      rw [row_stop hi] at hT
      subst hT
      clear HR HE HB HD HI HS hrel
      go_wp2_with fail
      go_ret
      exact ⟨rfl, ⟨rg1, hR1, fun h => (by cases h)⟩, hbel.trans hb1⟩
    · have hrg := HE.out hi
      subst hrg
      clear HE
      go_wp2_with fail
      refine (take_sign hO 44 (by decide) rb s A _ _ w1 cx hR1 hG1).mono ?_
      rintro e w2 ⟨rfl, hR2, hb2⟩
      have hG2 : Gl w2 := hG1.below hb2 cx.rb
      simp only [show (44 : UInt8).toNat = 44 from rfl] at hR2 ⊢
      cases hm : (Pl.mk 44 (item l).2.1).1
      · have hT := HR.out
        rw [row_end hi hm] at hT
        subst hT
        rw [mk_false hm] at hR2
        clear HR HB HD HI HS hrel
        go_wp2_with fail
        refine (take_sign hO 41 (by decide) rb s A _ _ w2 cx hR2 hG2).mono ?_
        rintro e w3 ⟨rfl, hR3, hb3⟩
        simp only [show (41 : UInt8).toNat = 41 from rfl] at hR3 ⊢
        go_wp2_with fail
        go_ret
        exact ⟨rfl, ⟨_, hR3, fun _ => rfl⟩, ((hbel.trans hb1).trans hb2).trans hb3⟩
      · have hT := HR.out
        rw [row_more hi hm] at hT
        have HN : Hid (∃ l acc, l.length ≤ g1 ∧ RD rb s A l (E acc) w2 ∧ Gl w2 ∧ B l acc ∧ Below rb w w2 ∧ Pl.pRow item g1 l acc = T) := by
          refine ⟨_, _, ?_, hR2, hG2, HB.out l acc hBl hi, (hbel.trans hb1).trans hb2, hT⟩
          have q1 := HD.out l hi
          have q2 := mk_true hm
          have q3 := HL.out
          omega
        clear hT HR
        go_wp2_with fail
        go_roundg g1
        case measure => omega
        case rel => exact HN

set_option maxRecDepth 100000 in
set_option maxHeartbeats 1000000 in
theorem readRow_readRing {α : Type} (item : List Pl.Tk → Bool × List Pl.Tk × α) (E : List α → List (List (Int × Int))) (B : List Pl.Tk → List α → Prop) (hO : GoOnSaid) (rb : Nat) (s : ByteArray) (A : List Pl.Tk) (cx : Cx rb s A)
    (hI : ∀ l acc w, RD rb s A l (E acc) w → Gl w → B l acc → Calls Tryz.prog 150 #[.pointer (some ⟨rb, 0, none⟩)] w (ItemPost rb s A (item l).1 (item l).2.1 (E (acc ++ [(item l).2.2])) w))
    (hd : ∀ l, (item l).1 = true → (item l).2.1.length < l.length)
    (hB : ∀ l acc, B l acc → (item l).1 = true → B (Pl.mk 44 (item l).2.1).2 (acc ++ [(item l).2.2]))
    (f : Nat) (l : List Pl.Tk) (acc : List α) (w : World) (hR : RD rb s A l (E acc) w) (hG : Gl w) (hBl : B l acc) (hf : l.length ≤ f) :
    Calls Tryz.prog 149 #[.pointer (some ⟨rb, 0, none⟩), .func (.func 150) #[.pointer (some ⟨rb, 0, none⟩)] #[]] w (ItemPost rb s A (Pl.pRow item f l acc).1 (Pl.pRow item f l acc).2.1 (E (Pl.pRow item f l acc).2.2) w) := by
  generalize hT : Pl.pRow item f l acc = T
  have HI : Hid (∀ l acc w, RD rb s A l (E acc) w → Gl w → B l acc → Calls Tryz.prog 150 #[.pointer (some ⟨rb, 0, none⟩)] w (ItemPost rb s A (item l).1 (item l).2.1 (E (acc ++ [(item l).2.2])) w)) := hI
  have HD : Hid (∀ l, (item l).1 = true → (item l).2.1.length < l.length) := hd
  have HB : Hid (∀ l acc, B l acc → (item l).1 = true → B (Pl.mk 44 (item l).2.1).2 (acc ++ [(item l).2.2])) := hB
  have HS : Hid (∃ l acc, l.length ≤ f ∧ RD rb s A l (E acc) w ∧ Gl w ∧ B l acc ∧ Below rb w w ∧ Pl.pRow item f l acc = T) := ⟨l, acc, hf, hR, hG, hBl, Below.refl _ _, hT⟩
  clear hI hd hB hT hR hG hBl hf
  go_enter Tryz.func149, Tryz.ntmps149
  go_wp2_with fail
  go_loopg [6] f (fun g s6 wr => Hid (∃ l acc, l.length ≤ g ∧ RD rb s A l (E acc) wr ∧ Gl wr ∧ B l acc ∧ Below rb w wr ∧ Pl.pRow item g l acc = T))
  case atStart => exact HS
  case round =>
    obtain ⟨l, acc, hlen, hR, hG, hBl, hbel, hT⟩ := hrel.out
    have hne : l ≠ [] := by
      obtain ⟨_, _, _, _, h⟩ := hR.suffix
      rw [h]; simp
    obtain ⟨g1, rfl⟩ : ∃ g1, gk = g1 + 1 := ⟨gk - 1, by have := List.length_pos_iff.2 hne; omega⟩
    clear hne
    have HR : Hid (Pl.pRow item (g1 + 1) l acc = T) := hT
    have HL : Hid (l.length ≤ g1 + 1) := hlen
    clear hT hlen
    go_wp2_with fail
    refine (HI.out l acc wr hR hG hBl).mono ?_
    rintro e w1 ⟨rfl, ⟨rg1, hR1, hrg1⟩, hb1⟩
    have hG1 : Gl w1 := hG.below hb1 cx.rb
    have HE : Hid ((item l).1 = true → rg1 = E (acc ++ [(item l).2.2])) := hrg1
    clear hrg1
    cases hi : (item l).1
    · have hT := HR.out
      rw [row_stop hi] at hT
      subst hT
      clear HR HE HB HD HI HS hrel
      go_wp2_with fail
      go_ret
      exact ⟨rfl, ⟨rg1, hR1, fun h => (by cases h)⟩, hbel.trans hb1⟩
    · have hrg := HE.out hi
      subst hrg
      clear HE
      go_wp2_with fail
      refine (take_sign hO 44 (by decide) rb s A _ _ w1 cx hR1 hG1).mono ?_
      rintro e w2 ⟨rfl, hR2, hb2⟩
      have hG2 : Gl w2 := hG1.below hb2 cx.rb
      simp only [show (44 : UInt8).toNat = 44 from rfl] at hR2 ⊢
      cases hm : (Pl.mk 44 (item l).2.1).1
      · have hT := HR.out
        rw [row_end hi hm] at hT
        subst hT
        rw [mk_false hm] at hR2
        clear HR HB HD HI HS hrel
        go_wp2_with fail
        refine (take_sign hO 41 (by decide) rb s A _ _ w2 cx hR2 hG2).mono ?_
        rintro e w3 ⟨rfl, hR3, hb3⟩
        simp only [show (41 : UInt8).toNat = 41 from rfl] at hR3 ⊢
        go_wp2_with fail
        go_ret
        exact ⟨rfl, ⟨_, hR3, fun _ => rfl⟩, ((hbel.trans hb1).trans hb2).trans hb3⟩
      · have hT := HR.out
        rw [row_more hi hm] at hT
        have HN : Hid (∃ l acc, l.length ≤ g1 ∧ RD rb s A l (E acc) w2 ∧ Gl w2 ∧ B l acc ∧ Below rb w w2 ∧ Pl.pRow item g1 l acc = T) := by
          refine ⟨_, _, ?_, hR2, hG2, HB.out l acc hBl hi, (hbel.trans hb1).trans hb2, hT⟩
          have q1 := HD.out l hi
          have q2 := mk_true hm
          have q3 := HL.out
          omega
        clear hT HR
        go_wp2_with fail
        go_roundg g1
        case measure => omega
        case rel => exact HN

set_option maxRecDepth 100000 in
set_option maxHeartbeats 1000000 in
theorem readRow_readPoly {α : Type} (item : List Pl.Tk → Bool × List Pl.Tk × α) (E : List α → List (List (Int × Int))) (B : List Pl.Tk → List α → Prop) (hO : GoOnSaid) (rb : Nat) (s : ByteArray) (A : List Pl.Tk) (cx : Cx rb s A)
    (hI : ∀ l acc w, RD rb s A l (E acc) w → Gl w → B l acc → Calls Tryz.prog 95 #[.pointer (some ⟨rb, 0, none⟩)] w (ItemPost rb s A (item l).1 (item l).2.1 (E (acc ++ [(item l).2.2])) w))
    (hd : ∀ l, (item l).1 = true → (item l).2.1.length < l.length)
    (hB : ∀ l acc, B l acc → (item l).1 = true → B (Pl.mk 44 (item l).2.1).2 (acc ++ [(item l).2.2]))
    (f : Nat) (l : List Pl.Tk) (acc : List α) (w : World) (hR : RD rb s A l (E acc) w) (hG : Gl w) (hBl : B l acc) (hf : l.length ≤ f) :
    Calls Tryz.prog 149 #[.pointer (some ⟨rb, 0, none⟩), .func (.func 95) #[.pointer (some ⟨rb, 0, none⟩)] #[]] w (ItemPost rb s A (Pl.pRow item f l acc).1 (Pl.pRow item f l acc).2.1 (E (Pl.pRow item f l acc).2.2) w) := by
  generalize hT : Pl.pRow item f l acc = T
  have HI : Hid (∀ l acc w, RD rb s A l (E acc) w → Gl w → B l acc → Calls Tryz.prog 95 #[.pointer (some ⟨rb, 0, none⟩)] w (ItemPost rb s A (item l).1 (item l).2.1 (E (acc ++ [(item l).2.2])) w)) := hI
  have HD : Hid (∀ l, (item l).1 = true → (item l).2.1.length < l.length) := hd
  have HB : Hid (∀ l acc, B l acc → (item l).1 = true → B (Pl.mk 44 (item l).2.1).2 (acc ++ [(item l).2.2])) := hB
  have HS : Hid (∃ l acc, l.length ≤ f ∧ RD rb s A l (E acc) w ∧ Gl w ∧ B l acc ∧ Below rb w w ∧ Pl.pRow item f l acc = T) := ⟨l, acc, hf, hR, hG, hBl, Below.refl _ _, hT⟩
  clear hI hd hB hT hR hG hBl hf
  go_enter Tryz.func149, Tryz.ntmps149
  go_wp2_with fail
  go_loopg [6] f (fun g s6 wr => Hid (∃ l acc, l.length ≤ g ∧ RD rb s A l (E acc) wr ∧ Gl wr ∧ B l acc ∧ Below rb w wr ∧ Pl.pRow item g l acc = T))
  case atStart => exact HS
  case round =>
    obtain ⟨l, acc, hlen, hR, hG, hBl, hbel, hT⟩ := hrel.out
    have hne : l ≠ [] := by
      obtain ⟨_, _, _, _, h⟩ := hR.suffix
      rw [h]; simp
    obtain ⟨g1, rfl⟩ : ∃ g1, gk = g1 + 1 := ⟨gk - 1, by have := List.length_pos_iff.2 hne; omega⟩
    clear hne
    have HR : Hid (Pl.pRow item (g1 + 1) l acc = T) := hT
    have HL : Hid (l.length ≤ g1 + 1) := hlen
    clear hT hlen
    go_wp2_with fail
    refine (HI.out l acc wr hR hG hBl).mono ?_
    rintro e w1 ⟨rfl, ⟨rg1, hR1, hrg1⟩, hb1⟩
    have hG1 : Gl w1 := hG.below hb1 cx.rb
    have HE : Hid ((item l).1 = true → rg1 = E (acc ++ [(item l).2.2])) := hrg1
    clear hrg1
    cases hi : (item l).1
    · have hT := HR.out
      rw [row_stop hi] at hT
      subst hT
      clear HR HE HB HD HI HS hrel
      go_wp2_with fail
      go_ret
      exact ⟨rfl, ⟨rg1, hR1, fun h => (by cases h)⟩, hbel.trans hb1⟩
    · have hrg := HE.out hi
      subst hrg
      clear HE
      go_wp2_with fail
      refine (take_sign hO 44 (by decide) rb s A _ _ w1 cx hR1 hG1).mono ?_
      rintro e w2 ⟨rfl, hR2, hb2⟩
      have hG2 : Gl w2 := hG1.below hb2 cx.rb
      simp only [show (44 : UInt8).toNat = 44 from rfl] at hR2 ⊢
      cases hm : (Pl.mk 44 (item l).2.1).1
      · have hT := HR.out
        rw [row_end hi hm] at hT
        subst hT
        rw [mk_false hm] at hR2
        clear HR HB HD HI HS hrel
        go_wp2_with fail
        refine (take_sign hO 41 (by decide) rb s A _ _ w2 cx hR2 hG2).mono ?_
        rintro e w3 ⟨rfl, hR3, hb3⟩
        simp only [show (41 : UInt8).toNat = 41 from rfl] at hR3 ⊢
        go_wp2_with fail
        go_ret
        exact ⟨rfl, ⟨_, hR3, fun _ => rfl⟩, ((hbel.trans hb1).trans hb2).trans hb3⟩
      · have hT := HR.out
        rw [row_more hi hm] at hT
        have HN : Hid (∃ l acc, l.length ≤ g1 ∧ RD rb s A l (E acc) w2 ∧ Gl w2 ∧ B l acc ∧ Below rb w w2 ∧ Pl.pRow item g1 l acc = T) := by
          refine ⟨_, _, ?_, hR2, hG2, HB.out l acc hBl hi, (hbel.trans hb1).trans hb2, hT⟩
          have q1 := HD.out l hi
          have q2 := mk_true hm
          have q3 := HL.out
          omega
        clear hT HR
        go_wp2_with fail
        go_roundg g1
        case measure => omega
        case rel => exact HN

end Go.Proofs.YtkjhhooecopolaaGreatDoor

namespace Go.Proofs.YtkjhhooecopolaaGreatDoor
open Go.RowKit

namespace Pl
theorem mk_len (c : Nat) (l : List Tk) : (mk c l).2.length ≤ l.length := by
  cases l with
  | nil => simp [mk]
  | cons t r => by_cases hk : t.k = c <;> simp [mk, hk]
theorem mk_lt {c : Nat} {l : List Tk} (h : (mk c l).1 = true) : (mk c l).2.length < l.length := by
  have := mk_true h; omega
theorem wd_lt {q : List UInt8} {l : List Tk} (h : (wd q l).1 = true) : (wd q l).2.length < l.length := by
  cases l with
  | nil => simp [wd] at h
  | cons t r =>
    by_cases hk : t.k = 119 ∧ t.raw = q
    · simp only [wd]; rw [if_pos hk]; simp
    · simp only [wd] at h; rw [if_neg hk] at h; cases h

theorem pPt_lt (l : List Tk) (h : (pPt l).1 = true) : (pPt l).2.1.length < l.length := by
  match l, h with
  | [], h => cases h
  | [x], h => cases h
  | x :: y :: r, h =>
    by_cases hx : x.k = 110
    · by_cases hy : y.k = 110
      · simp [pPt, hx, hy]; omega
      · simp [pPt, hx, hy] at h
    · simp [pPt, hx] at h

theorem pRow_lt {α : Type} (item : List Tk → Bool × List Tk × α) (hd : ∀ l, (item l).1 = true → (item l).2.1.length < l.length) :
    ∀ (f : Nat) (l : List Tk) (acc : List α), (pRow item f l acc).1 = true → (pRow item f l acc).2.1.length < l.length ∧ (pRow item f l acc).2.2.length + (pRow item f l acc).2.1.length ≤ acc.length + l.length
  | 0, l, acc, h => by cases h
  | f + 1, l, acc, h => by
    cases hi : (item l).1
    · rw [row_stop hi] at h; cases h
    · have h1 := hd l hi
      cases hm : (mk 44 (item l).2.1).1
      · rw [row_end hi hm] at h ⊢
        have h2 := mk_lt h
        simp only [List.length_append, List.length_cons, List.length_nil]
        omega
      · rw [row_more hi hm] at h ⊢
        have ih := pRow_lt item hd f _ _ h
        have h2 := mk_lt hm
        simp only [List.length_append, List.length_cons, List.length_nil] at ih
        omega

theorem pRing_lt (l : List Tk) (h : (pRing l).1 = true) : (pRing l).2.1.length < l.length := by
  unfold pRing at h ⊢
  by_cases h1 : (mk 40 l).1 = true
  · have q := mk_lt h1
    rw [if_pos h1] at h ⊢
    by_cases h2 : (mk 41 (mk 40 l).2).1 = true
    · rw [if_pos h2] at h ⊢
      have := mk_lt h2
      simp only; omega
    · rw [if_neg h2] at h ⊢
      have := (pRow_lt pPt pPt_lt _ _ _ h).1
      omega
  · rw [if_neg h1] at h; cases h

theorem pPoly_lt (l : List Tk) (h : (pPoly l).1 = true) : (pPoly l).2.1.length < l.length ∧ (pPoly l).2.2.length + (pPoly l).2.1.length ≤ l.length := by
  unfold pPoly at h ⊢
  by_cases h0 : (wd EMPTY l).1 = true
  · rw [if_pos h0]
    have := wd_lt h0
    simp only [List.length_nil]; omega
  · rw [if_neg h0] at h ⊢
    by_cases h1 : (mk 40 l).1 = true
    · have q := mk_lt h1
      rw [if_pos h1] at h ⊢
      have := pRow_lt pRing pRing_lt _ _ _ h
      simp only [List.length_nil] at this
      omega
    · rw [if_neg h1] at h; cases h

theorem pMulti_lt (l : List Tk) (h : (pMulti l).1 = true) : (pMulti l).2.1.length < l.length := by
  unfold pMulti at h ⊢
  by_cases h0 : (wd EMPTY l).1 = true
  · rw [if_pos h0]
    exact wd_lt h0
  · rw [if_neg h0] at h ⊢
    by_cases h1 : (mk 40 l).1 = true
    · have q := mk_lt h1
      rw [if_pos h1] at h ⊢
      have := (pRow_lt pPoly (fun l h => (pPoly_lt l h).1) _ _ _ h).1
      omega
    · rw [if_neg h1] at h; cases h
end Pl

/-- A new ring, with no point. -/
theorem Rings.snoc {rb : Nat} {rv : Value} {rg : List (List (Int × Int))} {w w1 : World} {o : Obj} {g cap : Nat} {vs : List Value}
    (h1 : vs.length = rg.length) (h2 : w.ownsRow (rb + 1) 127 1 rv rg.length vs)
    (h3 : ∀ (i : Nat) v g, vs[i]? = some v → rg[i]? = some g → w.ownsRow (rb + 1) 81 1 v g.length (ptCells g))
    (h4 : ∀ (i j : Nat) v u k, vs[i]? = some v → vs[j]? = some u → v.ownBlock = some k → u.ownBlock = some k → i = j)
    (hgrow : (w.alloc o).grownBy w1 rv.ownBlock) (ho : w1.ownsRow (rb + 1) 127 1 (.slice (some ⟨g, 0, none⟩) (rg.length + 1) cap) (rg.length + 1) (vs ++ [.slice none 0 0])) :
    Rings rb (.slice (some ⟨g, 0, none⟩) (rg.length + 1) cap) (rg ++ [[]]) (w1.setCell ⟨rb, 6, none⟩ (.slice (some ⟨g, 0, none⟩) (rg.length + 1) cap)) := by
  refine ⟨vs ++ [.slice none 0 0], by simp [h1], ?_, ?_, ?_⟩
  · simp only [List.length_append, List.length_cons, List.length_nil, Nat.zero_add]
    refine own_kept ho fun k hk => heap_set_ne ?_ _
    have := (own_lt ho k hk).1
    omega
  · intro i v g' hi hg'
    by_cases hin : i < vs.length
    · rw [List.getElem?_append_left hin] at hi
      rw [List.getElem?_append_left (by omega)] at hg'
      have hq := h3 i v g' hi hg'
      refine own_kept hq fun k hk => ?_
      have := (own_lt hq k hk)
      obtain ⟨c, hc⟩ := heap_of_own hq hk
      rw [heap_set_ne (by omega)]
      exact grown_heap hgrow k this.2 (own_elem h2 hc (by decide))
    · have hi2 : i = vs.length := by
        have := (List.getElem?_eq_some_iff.1 hi).1
        simp at this; omega
      subst hi2
      have e1 : v = .slice none 0 0 := by simpa using hi.symm
      have e2 : g' = [] := by rw [h1] at hg'; simpa using hg'.symm
      subst e1 e2
      exact World.ownsRow_nil _ _ _ _
  · intro i j v u k hi hj hv hu
    have key : ∀ (i : Nat) v, (vs ++ [Value.slice none 0 0])[i]? = some v → v.ownBlock = some k → vs[i]? = some v := fun i v hi hv => by
      by_cases hin : i < vs.length
      · rwa [List.getElem?_append_left hin] at hi
      · have hi2 : i = vs.length := by
          have := (List.getElem?_eq_some_iff.1 hi).1
          simp at this; omega
        subst hi2
        have e1 : v = .slice none 0 0 := by simpa using hi.symm
        subst e1
        cases hv
    exact h4 i j v u k (key i v hi hv) (key j u hj hu) hv hu

theorem slInfo : (Tryz.prog.info? 127).map (fun i => (i.zero, i.size, i.bytes)) = some (some (.slice none 0 0), 1, 24) := by kernel_rfl

set_option maxRecDepth 100000 in
set_option maxHeartbeats 1000000 in
theorem readRing_any (hO : GoOnSaid) (rb : Nat) (s : ByteArray) (A l : List Pl.Tk) (rg : List (List (Int × Int))) (w : World) (cx : Cx rb s A) (hR : RD rb s A l rg w) (hG : Gl w) (hrg : rg.length ≤ 1000) :
    Calls Tryz.prog 150 #[.pointer (some ⟨rb, 0, none⟩)] w (ItemPost rb s A (Pl.pRing l).1 (Pl.pRing l).2.1 (rg ++ [(Pl.pRing l).2.2]) w) := by
  generalize hT : Pl.pRing l = T
  have HT : Hid (Pl.pRing l = T) := hT
  clear hT
  obtain ⟨i0, hi, hz0, hz1, hz2⟩ := info_parts slInfo
  have hlt := hR.lt
  obtain ⟨c, t, r0, tv, rv, hc, hl, hbk, hown, vs, h1, h2, h3, h4⟩ := id hR
  have c6 : w.cell? ⟨rb, 6, none⟩ = some rv := cell_of hbk 6
  have HH : Hid (∀ w1 g cap o, (w.alloc o).grownBy w1 rv.ownBlock → w1.ownsRow (rb + 1) 127 1 (.slice (some ⟨g, 0, none⟩) (rg.length + 1) cap) (rg.length + 1) (vs ++ [.slice none 0 0]) →
      RD rb s A l (rg ++ [[]]) (w1.setCell ⟨rb, 6, none⟩ (.slice (some ⟨g, 0, none⟩) (rg.length + 1) cap)) ∧ Below rb w (w1.setCell ⟨rb, 6, none⟩ (.slice (some ⟨g, 0, none⟩) (rg.length + 1) cap))) := by
    intro w1 g cap o hgrow ho
    have k6 := (grown_heap hgrow rb hlt (own_base_ne h2 rb (by omega))).trans hbk
    refine ⟨⟨c, t, r0, tv, _, hc, hl, heap_set k6 _, own_kept hown fun k hk => ?_, Rings.snoc h1 h2 h3 h4 hgrow ho⟩, ?_⟩
    · obtain ⟨c9, hc9⟩ := heap_of_own hown hk
      have := (own_lt hown k hk)
      rw [heap_set_ne (by omega)]
      exact grown_heap hgrow k this.2 (own_elem h2 hc9 (by decide))
    · exact (((Below.refl rb w).alloc (Nat.le_of_lt hlt) _).grown hgrow (by simp; omega) (fun k hk => by have := (own_lt h2 k hk).1; omega)).setCell (Nat.le_refl _) _
  clear h1 h3 h4
  go_enter Tryz.func150, Tryz.ntmps150
  go_wp2_with (at_builtin; refine wpList_append_lies _ rfl (.tmp 7) (.tmp 8) 78 rfl (rb + 1) 127 i0 _ 1 24 Tryz.underlying78 hi hz0 hz1 hz2 rfl (by decide) rv rg.length vs rfl (own_kept h2 (fun k hk => Below.heap_alloc _ _ _ (own_lt h2 k hk).2)) ⟨w.heap.size, 0, none⟩ 1 1 [.slice none 0 0] rfl rfl (World.news_of_block (cs := #[.slice none 0 0]) (t := 127) (fr := (0, 0)) (heap_alloc_new w _)) (by simp [Value.oneCell']) (by decide) (by unfold maxLen; omega) (by omega) (by simp; omega) (w.heap.size + 1) (by simp) ?_; intro g cap w1 ho hgrow hat hlt1; have hb1 := (grown_heap hgrow rb hlt (own_base_ne h2 rb (by omega))).trans hbk; have d6 : w1.cell? ⟨rb, 6, none⟩ = some rv := cell_of hb1 6; have f6 : w1.frozen? ⟨rb, 6, none⟩ = false := frozen_of hb1 6)
  obtain ⟨hR1, hbel⟩ := HH.out w1 g cap _ hgrow ho
  have hG1 := hG.below hbel cx.rb
  have hlA := hR1.le
  have hcl := cx.len
  clear HH hgrow ho hat hlt1 hb1 d6 f6 c6 h2 hown hbk hl hc hi hz0 hz1 hz2
  refine (take_sign hO 40 (by decide) rb s A l _ _ cx hR1 hG1).mono ?_
  rintro e w2 ⟨rfl, hR2, hb2⟩
  simp only [show (40 : UInt8).toNat = 40 from rfl] at hR2 ⊢
  have hG2 : Gl w2 := hG1.below hb2 cx.rb
  cases hm : (Pl.mk 40 l).1
  · have hT := HT.out
    rw [Pl.pRing, if_neg (by rw [hm]; simp)] at hT
    subst hT
    rw [mk_false hm] at hR2
    clear HT
    go_wp2_with fail
    go_ret
    exact ⟨rfl, ⟨_, hR2, fun h => (by cases h)⟩, hbel.trans hb2⟩
  · go_wp2_with fail
    refine (take_sign hO 41 (by decide) rb s A _ _ _ cx hR2 hG2).mono ?_
    rintro e w3 ⟨rfl, hR3, hb3⟩
    simp only [show (41 : UInt8).toNat = 41 from rfl] at hR3 ⊢
    have hG3 : Gl w3 := hG2.below hb3 cx.rb
    cases hm2 : (Pl.mk 41 (Pl.mk 40 l).2).1
    · have hT := HT.out
      rw [Pl.pRing, if_pos hm, if_neg (by rw [hm2]; simp)] at hT
      subst hT
      rw [mk_false hm2] at hR3
      have hlm := Pl.mk_len 40 l
      clear HT
      go_wp2_with fail
      refine (readRow_readPoint Pl.pPt (fun acc => rg ++ [acc]) (fun l acc => acc.length + l.length ≤ 1000) hO rb s A cx
        (fun l' acc w' hR' hG' hB' => readPoint_any hO rb s A l' rg acc w' cx hR' hG' (by omega) hrg) Pl.pPt_lt
        (fun l' acc hB' hi' => by
          have q1 := Pl.pPt_lt l' hi'
          have q2 := Pl.mk_len 44 (Pl.pPt l').2.1
          simp only [List.length_append, List.length_cons, List.length_nil]
          omega)
        l.length (Pl.mk 40 l).2 [] w3 hR3 hG3 (by simp; omega) hlm).mono ?_
      rintro e w4 ⟨rfl, ⟨rg4, hR4, hrg4⟩, hb4⟩
      go_wp2_with fail
      go_ret
      exact ⟨rfl, ⟨rg4, hR4, hrg4⟩, ((hbel.trans hb2).trans hb3).trans hb4⟩
    · have hT := HT.out
      rw [Pl.pRing, if_pos hm, if_pos hm2] at hT
      subst hT
      clear HT
      go_wp2_with fail
      go_ret
      exact ⟨rfl, ⟨_, hR3, fun _ => rfl⟩, (hbel.trans hb2).trans hb3⟩

end Go.Proofs.YtkjhhooecopolaaGreatDoor
