import Derived.Test.YtmfnlpmlmgjleaaGreatDoorWk
import Derived.Deep.LoopGhost
namespace Go.Proofs.YtmfnlpmlmgjleaaGreatDoor
open Go.RowKit

theorem mk_true {c : Nat} {l : List Pl.Tk} (h : (Pl.mk c l).1 = true) : (Pl.mk c l).2.length + 1 = l.length := by
  cases l with
  | nil => simp [Pl.mk] at h
  | cons t r =>
    by_cases hk : t.k = c
    · simp [Pl.mk, hk]
    · simp [Pl.mk, hk] at h

theorem mk_false {c : Nat} {l : List Pl.Tk} (h : (Pl.mk c l).1 = false) : (Pl.mk c l).2 = l := by
  cases l with
  | nil => rfl
  | cons t r =>
    by_cases hk : t.k = c
    · simp [Pl.mk, hk] at h
    · simp [Pl.mk, hk]

/-- The three ways of a round. -/
theorem row_stop {α : Type} {item : List Pl.Tk → Bool × List Pl.Tk × α} {g : Nat} {l : List Pl.Tk} {acc : List α} (h : (item l).1 = false) : Pl.pRow item (g + 1) l acc = (false, (item l).2.1, acc) := by
  rw [Pl.pRow, if_neg (by rw [h]; simp)]
theorem row_more {α : Type} {item : List Pl.Tk → Bool × List Pl.Tk × α} {g : Nat} {l : List Pl.Tk} {acc : List α} (h : (item l).1 = true) (h2 : (Pl.mk 44 (item l).2.1).1 = true) :
    Pl.pRow item (g + 1) l acc = Pl.pRow item g (Pl.mk 44 (item l).2.1).2 (acc ++ [(item l).2.2]) := by
  rw [Pl.pRow, if_pos h, if_pos h2]
theorem row_end {α : Type} {item : List Pl.Tk → Bool × List Pl.Tk × α} {g : Nat} {l : List Pl.Tk} {acc : List α} (h : (item l).1 = true) (h2 : (Pl.mk 44 (item l).2.1).1 = false) :
    Pl.pRow item (g + 1) l acc = ((Pl.mk 41 (item l).2.1).1, (Pl.mk 41 (item l).2.1).2, acc ++ [(item l).2.2]) := by
  rw [Pl.pRow, if_pos h, if_neg (by rw [h2]; simp)]

set_option maxRecDepth 100000 in
set_option maxHeartbeats 1000000 in
theorem readRow_readPoint {α : Type} (item : List Pl.Tk → Bool × List Pl.Tk × α) (E : List α → List (List (Int × Int))) (B : List Pl.Tk → List α → Prop) (hO : GoOnSaid) (rb : Nat) (s : ByteArray) (A : List Pl.Tk) (cx : Cx rb s A)
    (hI : ∀ l acc w, RD rb s A l (E acc) w → Gl w → B l acc → Calls Tryz.prog 134 #[.pointer (some ⟨rb, 0, none⟩)] w (ItemPost rb s A (item l).1 (item l).2.1 (E (acc ++ [(item l).2.2])) w))
    (hd : ∀ l, (item l).1 = true → (item l).2.1.length < l.length)
    (hB : ∀ l acc, B l acc → (item l).1 = true → B (Pl.mk 44 (item l).2.1).2 (acc ++ [(item l).2.2]))
    (f : Nat) (l : List Pl.Tk) (acc : List α) (w : World) (hR : RD rb s A l (E acc) w) (hG : Gl w) (hBl : B l acc) (hf : l.length ≤ f) :
    Calls Tryz.prog 112 #[.pointer (some ⟨rb, 0, none⟩), .func (.func 134) #[.pointer (some ⟨rb, 0, none⟩)] #[]] w (ItemPost rb s A (Pl.pRow item f l acc).1 (Pl.pRow item f l acc).2.1 (E (Pl.pRow item f l acc).2.2) w) := by
  generalize hT : Pl.pRow item f l acc = T
  have HI : Hid (∀ l acc w, RD rb s A l (E acc) w → Gl w → B l acc → Calls Tryz.prog 134 #[.pointer (some ⟨rb, 0, none⟩)] w (ItemPost rb s A (item l).1 (item l).2.1 (E (acc ++ [(item l).2.2])) w)) := hI
  have HD : Hid (∀ l, (item l).1 = true → (item l).2.1.length < l.length) := hd
  have HB : Hid (∀ l acc, B l acc → (item l).1 = true → B (Pl.mk 44 (item l).2.1).2 (acc ++ [(item l).2.2])) := hB
  have HS : Hid (∃ l acc, l.length ≤ f ∧ RD rb s A l (E acc) w ∧ Gl w ∧ B l acc ∧ Below rb w w ∧ Pl.pRow item f l acc = T) := ⟨l, acc, hf, hR, hG, hBl, Below.refl _ _, hT⟩
  clear hI hd hB hT hR hG hBl hf
  go_enter Tryz.func112, Tryz.ntmps112
  go_wp2_with fail
  go_loopg [6] f (fun g s6 wr => Hid (∃ l acc, l.length ≤ g ∧ RD rb s A l (E acc) wr ∧ Gl wr ∧ B l acc ∧ Below rb w wr ∧ Pl.pRow item g l acc = T))
  case atStart => exact HS
  case round =>
    obtain ⟨l, acc, hlen, hR, hG, hBl, hbel, hT⟩ := hrel.out
    have hne : l ≠ [] := by
      obtain ⟨_, _, _, _, h⟩ := hR.suffix
      rw [h]; simp
    obtain ⟨g1, rfl⟩ : ∃ g1, gk = g1 + 1 := ⟨gk - 1, by have := List.length_pos_iff.2 hne; omega⟩
    clear hne
    have HR : Hid (Pl.pRow item (g1 + 1) l acc = T) := hT
    have HL : Hid (l.length ≤ g1 + 1) := hlen
    clear hT hlen
    go_wp2_with fail
    refine (HI.out l acc wr hR hG hBl).mono ?_
    rintro e w1 ⟨rfl, ⟨rg1, hR1, hrg1⟩, hb1⟩
    have hG1 : Gl w1 := hG.below hb1 cx.rb
    have HE : Hid ((item l).1 = true → rg1 = E (acc ++ [(item l).2.2])) := hrg1
    clear hrg1
    cases hi : (item l).1
    · have hT := HR.out
      rw [row_stop hi] at hT
      subst hT
      clear HR HE HB HD HI HS hrel
      go_wp2_with fail
      go_ret
      exact ⟨rfl, ⟨rg1, hR1, fun h => (by cases h)⟩, hbel.trans hb1⟩
    · have hrg := HE.out hi
      subst hrg
      clear HE
      go_wp2_with fail
      refine (take_sign hO 44 (by decide) rb s A _ _ w1 cx hR1 hG1).mono ?_
      rintro e w2 ⟨rfl, hR2, hb2⟩
      have hG2 : Gl w2 := hG1.below hb2 cx.rb
      simp only [show (44 : UInt8).toNat = 44 from rfl] at hR2 ⊢
      cases hm : (Pl.mk 44 (item l).2.1).1
      · have hT := HR.out
        rw [row_end hi hm] at hT
        subst hT
        rw [mk_false hm] at hR2
        clear HR HB HD HI HS hrel
        go_wp2_with fail
        refine (take_sign hO 41 (by decide) rb s A _ _ w2 cx hR2 hG2).mono ?_
        rintro e w3 ⟨rfl, hR3, hb3⟩
        simp only [show (41 : UInt8).toNat = 41 from rfl] at hR3 ⊢
        go_wp2_with fail
        go_ret
        exact ⟨rfl, ⟨_, hR3, fun _ => rfl⟩, ((hbel.trans hb1).trans hb2).trans hb3⟩
      · have hT := HR.out
        rw [row_more hi hm] at hT
        have HN : Hid (∃ l acc, l.length ≤ g1 ∧ RD rb s A l (E acc) w2 ∧ Gl w2 ∧ B l acc ∧ Below rb w w2 ∧ Pl.pRow item g1 l acc = T) := by
          refine ⟨_, _, ?_, hR2, hG2, HB.out l acc hBl hi, (hbel.trans hb1).trans hb2, hT⟩
          have q1 := HD.out l hi
          have q2 := mk_true hm
          have q3 := HL.out
          omega
        clear hT HR
        go_wp2_with fail
        go_roundg g1
        case measure => omega
        case rel => exact HN

set_option maxRecDepth 100000 in
set_option maxHeartbeats 1000000 in
theorem readRow_readRing {α : Type} (item : List Pl.Tk → Bool × List Pl.Tk × α) (E : List α → List (List (Int × Int))) (B : List Pl.Tk → List α → Prop) (hO : GoOnSaid) (rb : Nat) (s : ByteArray) (A : List Pl.Tk) (cx : Cx rb s A)
    (hI : ∀ l acc w, RD rb s A l (E acc) w → Gl w → B l acc → Calls Tryz.prog 113 #[.pointer (some ⟨rb, 0, none⟩)] w (ItemPost rb s A (item l).1 (item l).2.1 (E (acc ++ [(item l).2.2])) w))
    (hd : ∀ l, (item l).1 = true → (item l).2.1.length < l.length)
    (hB : ∀ l acc, B l acc → (item l).1 = true → B (Pl.mk 44 (item l).2.1).2 (acc ++ [(item l).2.2]))
    (f : Nat) (l : List Pl.Tk) (acc : List α) (w : World) (hR : RD rb s A l (E acc) w) (hG : Gl w) (hBl : B l acc) (hf : l.length ≤ f) :
    Calls Tryz.prog 112 #[.pointer (some ⟨rb, 0, none⟩), .func (.func 113) #[.pointer (some ⟨rb, 0, none⟩)] #[]] w (ItemPost rb s A (Pl.pRow item f l acc).1 (Pl.pRow item f l acc).2.1 (E (Pl.pRow item f l acc).2.2) w) := by
  generalize hT : Pl.pRow item f l acc = T
  have HI : Hid (∀ l acc w, RD rb s A l (E acc) w → Gl w → B l acc → Calls Tryz.prog 113 #[.pointer (some ⟨rb, 0, none⟩)] w (ItemPost rb s A (item l).1 (item l).2.1 (E (acc ++ [(item l).2.2])) w)) := hI
  have HD : Hid (∀ l, (item l).1 = true → (item l).2.1.length < l.length) := hd
  have HB : Hid (∀ l acc, B l acc → (item l).1 = true → B (Pl.mk 44 (item l).2.1).2 (acc ++ [(item l).2.2])) := hB
  have HS : Hid (∃ l acc, l.length ≤ f ∧ RD rb s A l (E acc) w ∧ Gl w ∧ B l acc ∧ Below rb w w ∧ Pl.pRow item f l acc = T) := ⟨l, acc, hf, hR, hG, hBl, Below.refl _ _, hT⟩
  clear hI hd hB hT hR hG hBl hf
  go_enter Tryz.func112, Tryz.ntmps112
  go_wp2_with fail
  go_loopg [6] f (fun g s6 wr => Hid (∃ l acc, l.length ≤ g ∧ RD rb s A l (E acc) wr ∧ Gl wr ∧ B l acc ∧ Below rb w wr ∧ Pl.pRow item g l acc = T))
  case atStart => exact HS
  case round =>
    obtain ⟨l, acc, hlen, hR, hG, hBl, hbel, hT⟩ := hrel.out
    have hne : l ≠ [] := by
      obtain ⟨_, _, _, _, h⟩ := hR.suffix
      rw [h]; simp
    obtain ⟨g1, rfl⟩ : ∃ g1, gk = g1 + 1 := ⟨gk - 1, by have := List.length_pos_iff.2 hne; omega⟩
    clear hne
    have HR : Hid (Pl.pRow item (g1 + 1) l acc = T) := hT
    have HL : Hid (l.length ≤ g1 + 1) := hlen
    clear hT hlen
    go_wp2_with fail
    refine (HI.out l acc wr hR hG hBl).mono ?_
    rintro e w1 ⟨rfl, ⟨rg1, hR1, hrg1⟩, hb1⟩
    have hG1 : Gl w1 := hG.below hb1 cx.rb
    have HE : Hid ((item l).1 = true → rg1 = E (acc ++ [(item l).2.2])) := hrg1
    clear hrg1
    cases hi : (item l).1
    · have hT := HR.out
      rw [row_stop hi] at hT
      subst hT
      clear HR HE HB HD HI HS hrel
      go_wp2_with fail
      go_ret
      exact ⟨rfl, ⟨rg1, hR1, fun h => (by cases h)⟩, hbel.trans hb1⟩
    · have hrg := HE.out hi
      subst hrg
      clear HE
      go_wp2_with fail
      refine (take_sign hO 44 (by decide) rb s A _ _ w1 cx hR1 hG1).mono ?_
      rintro e w2 ⟨rfl, hR2, hb2⟩
      have hG2 : Gl w2 := hG1.below hb2 cx.rb
      simp only [show (44 : UInt8).toNat = 44 from rfl] at hR2 ⊢
      cases hm : (Pl.mk 44 (item l).2.1).1
      · have hT := HR.out
        rw [row_end hi hm] at hT
        subst hT
        rw [mk_false hm] at hR2
        clear HR HB HD HI HS hrel
        go_wp2_with fail
        refine (take_sign hO 41 (by decide) rb s A _ _ w2 cx hR2 hG2).mono ?_
        rintro e w3 ⟨rfl, hR3, hb3⟩
        simp only [show (41 : UInt8).toNat = 41 from rfl] at hR3 ⊢
        go_wp2_with fail
        go_ret
        exact ⟨rfl, ⟨_, hR3, fun _ => rfl⟩, ((hbel.trans hb1).trans hb2).trans hb3⟩
      · have hT := HR.out
        rw [row_more hi hm] at hT
        have HN : Hid (∃ l acc, l.length ≤ g1 ∧ RD rb s A l (E acc) w2 ∧ Gl w2 ∧ B l acc ∧ Below rb w w2 ∧ Pl.pRow item g1 l acc = T) := by
          refine ⟨_, _, ?_, hR2, hG2, HB.out l acc hBl hi, (hbel.trans hb1).trans hb2, hT⟩
          have q1 := HD.out l hi
          have q2 := mk_true hm
          have q3 := HL.out
          omega
        clear hT HR
        go_wp2_with fail
        go_roundg g1
        case measure => omega
        case rel => exact HN

set_option maxRecDepth 100000 in
set_option maxHeartbeats 1000000 in
theorem readRow_readPoly {α : Type} (item : List Pl.Tk → Bool × List Pl.Tk × α) (E : List α → List (List (Int × Int))) (B : List Pl.Tk → List α → Prop) (hO : GoOnSaid) (rb : Nat) (s : ByteArray) (A : List Pl.Tk) (cx : Cx rb s A)
    (hI : ∀ l acc w, RD rb s A l (E acc) w → Gl w → B l acc → Calls Tryz.prog 84 #[.pointer (some ⟨rb, 0, none⟩)] w (ItemPost rb s A (item l).1 (item l).2.1 (E (acc ++ [(item l).2.2])) w))
    (hd : ∀ l, (item l).1 = true → (item l).2.1.length < l.length)
    (hB : ∀ l acc, B l acc → (item l).1 = true → B (Pl.mk 44 (item l).2.1).2 (acc ++ [(item l).2.2]))
    (f : Nat) (l : List Pl.Tk) (acc : List α) (w : World) (hR : RD rb s A l (E acc) w) (hG : Gl w) (hBl : B l acc) (hf : l.length ≤ f) :
    Calls Tryz.prog 112 #[.pointer (some ⟨rb, 0, none⟩), .func (.func 84) #[.pointer (some ⟨rb, 0, none⟩)] #[]] w (ItemPost rb s A (Pl.pRow item f l acc).1 (Pl.pRow item f l acc).2.1 (E (Pl.pRow item f l acc).2.2) w) := by
  generalize hT : Pl.pRow item f l acc = T
  have HI : Hid (∀ l acc w, RD rb s A l (E acc) w → Gl w → B l acc → Calls Tryz.prog 84 #[.pointer (some ⟨rb, 0, none⟩)] w (ItemPost rb s A (item l).1 (item l).2.1 (E (acc ++ [(item l).2.2])) w)) := hI
  have HD : Hid (∀ l, (item l).1 = true → (item l).2.1.length < l.length) := hd
  have HB : Hid (∀ l acc, B l acc → (item l).1 = true → B (Pl.mk 44 (item l).2.1).2 (acc ++ [(item l).2.2])) := hB
  have HS : Hid (∃ l acc, l.length ≤ f ∧ RD rb s A l (E acc) w ∧ Gl w ∧ B l acc ∧ Below rb w w ∧ Pl.pRow item f l acc = T) := ⟨l, acc, hf, hR, hG, hBl, Below.refl _ _, hT⟩
  clear hI hd hB hT hR hG hBl hf
  go_enter Tryz.func112, Tryz.ntmps112
  go_wp2_with fail
  go_loopg [6] f (fun g s6 wr => Hid (∃ l acc, l.length ≤ g ∧ RD rb s A l (E acc) wr ∧ Gl wr ∧ B l acc ∧ Below rb w wr ∧ Pl.pRow item g l acc = T))
  case atStart => exact HS
  case round =>
    obtain ⟨l, acc, hlen, hR, hG, hBl, hbel, hT⟩ := hrel.out
    have hne : l ≠ [] := by
      obtain ⟨_, _, _, _, h⟩ := hR.suffix
      rw [h]; simp
    obtain ⟨g1, rfl⟩ : ∃ g1, gk = g1 + 1 := ⟨gk - 1, by have := List.length_pos_iff.2 hne; omega⟩
    clear hne
    have HR : Hid (Pl.pRow item (g1 + 1) l acc = T) := hT
    have HL : Hid (l.length ≤ g1 + 1) := hlen
    clear hT hlen
    go_wp2_with fail
    refine (HI.out l acc wr hR hG hBl).mono ?_
    rintro e w1 ⟨rfl, ⟨rg1, hR1, hrg1⟩, hb1⟩
    have hG1 : Gl w1 := hG.below hb1 cx.rb
    have HE : Hid ((item l).1 = true → rg1 = E (acc ++ [(item l).2.2])) := hrg1
    clear hrg1
    cases hi : (item l).1
    · have hT := HR.out
      rw [row_stop hi] at hT
      subst hT
      clear HR HE HB HD HI HS hrel
      go_wp2_with fail
      go_ret
      exact ⟨rfl, ⟨rg1, hR1, fun h => (by cases h)⟩, hbel.trans hb1⟩
    · have hrg := HE.out hi
      subst hrg
      clear HE
      go_wp2_with fail
      refine (take_sign hO 44 (by decide) rb s A _ _ w1 cx hR1 hG1).mono ?_
      rintro e w2 ⟨rfl, hR2, hb2⟩
      have hG2 : Gl w2 := hG1.below hb2 cx.rb
      simp only [show (44 : UInt8).toNat = 44 from rfl] at hR2 ⊢
      cases hm : (Pl.mk 44 (item l).2.1).1
      · have hT := HR.out
        rw [row_end hi hm] at hT
        subst hT
        rw [mk_false hm] at hR2
        clear HR HB HD HI HS hrel
        go_wp2_with fail
        refine (take_sign hO 41 (by decide) rb s A _ _ w2 cx hR2 hG2).mono ?_
        rintro e w3 ⟨rfl, hR3, hb3⟩
        simp only [show (41 : UInt8).toNat = 41 from rfl] at hR3 ⊢
        go_wp2_with fail
        go_ret
        exact ⟨rfl, ⟨_, hR3, fun _ => rfl⟩, ((hbel.trans hb1).trans hb2).trans hb3⟩
      · have hT := HR.out
        rw [row_more hi hm] at hT
        have HN : Hid (∃ l acc, l.length ≤ g1 ∧ RD rb s A l (E acc) w2 ∧ Gl w2 ∧ B l acc ∧ Below rb w w2 ∧ Pl.pRow item g1 l acc = T) := by
          refine ⟨_, _, ?_, hR2, hG2, HB.out l acc hBl hi, (hbel.trans hb1).trans hb2, hT⟩
          have q1 := HD.out l hi
          have q2 := mk_true hm
          have q3 := HL.out
          omega
        clear hT HR
        go_wp2_with fail
        go_roundg g1
        case measure => omega
        case rel => exact HN

end Go.Proofs.YtmfnlpmlmgjleaaGreatDoor
