import Derived.Test.YtmfnlpmlmgjleaaGreatDoorWm
namespace Go.Proofs.YtmfnlpmlmgjleaaGreatDoor
open Go.RowKit

theorem wd_false {q : List UInt8} {l : List Pl.Tk} (h : (Pl.wd q l).1 = false) : (Pl.wd q l).2 = l := by
  cases l with
  | nil => rfl
  | cons t r =>
    by_cases hk : t.k = 119 ∧ t.raw = q
    · simp only [Pl.wd] at h; rw [if_pos hk] at h; cases h
    · simp only [Pl.wd]; rw [if_neg hk]

def Pl.pWhole (l : List Pl.Tk) : Bool × List Pl.Tk × List (List (List (Int × Int))) :=
  if (Pl.wd Pl.POLYGON l).1 = true then ((Pl.pPoly (Pl.wd Pl.POLYGON l).2).1, (Pl.pPoly (Pl.wd Pl.POLYGON l).2).2.1, [(Pl.pPoly (Pl.wd Pl.POLYGON l).2).2.2])
  else if (Pl.wd Pl.MULTI l).1 = true then Pl.pMulti (Pl.wd Pl.MULTI l).2
  else (false, l, [])

set_option maxRecDepth 100000 in
set_option maxHeartbeats 1000000 in
theorem readPoly_any (hO : GoOnSaid) (rb : Nat) (s : ByteArray) (A l : List Pl.Tk) (rg : List (List (Int × Int))) (w : World) (cx : Cx rb s A) (hR : RD rb s A l rg w) (hG : Gl w) (hrg : rg.length + l.length ≤ 1000) :
    Calls Tryz.prog 84 #[.pointer (some ⟨rb, 0, none⟩)] w (ItemPost rb s A (Pl.pPoly l).1 (Pl.pPoly l).2.1 (rg ++ (Pl.pPoly l).2.2) w) := by
  generalize hT : Pl.pPoly l = T
  have HT : Hid (Pl.pPoly l = T) := hT
  clear hT
  have hlt := hR.lt
  go_enter Tryz.func84, Tryz.ntmps84
  go_wp2_with fail
  refine (take_word hO Pl.EMPTY 69 [77, 80, 84, 89] rfl (by decide) rb s A l _ _ cx hR hG).mono ?_
  rintro e w1 ⟨rfl, hR1, hb1⟩
  have hG1 : Gl w1 := hG.below hb1 cx.rb
  cases hm : (Pl.wd Pl.EMPTY l).1
  · rw [wd_false hm] at hR1
    go_wp2_with fail
    refine (take_sign hO 40 (by decide) rb s A l _ _ cx hR1 hG1).mono ?_
    rintro e w2 ⟨rfl, hR2, hb2⟩
    simp only [show (40 : UInt8).toNat = 40 from rfl] at hR2 ⊢
    have hG2 : Gl w2 := hG1.below hb2 cx.rb
    cases hm2 : (Pl.mk 40 l).1
    · have hT := HT.out
      rw [Pl.pPoly, if_neg (by rw [hm]; simp), if_neg (by rw [hm2]; simp)] at hT
      subst hT
      rw [mk_false hm2] at hR2
      clear HT
      go_wp2_with fail
      go_ret
      exact ⟨rfl, ⟨_, hR2, fun h => (by cases h)⟩, hb1.trans hb2⟩
    · have hT := HT.out
      rw [Pl.pPoly, if_neg (by rw [hm]; simp), if_pos hm2] at hT
      subst hT
      clear HT
      have hlm := Pl.mk_len 40 l
      go_wp2_with fail
      refine (readRow_readRing Pl.pRing (fun acc => rg ++ acc) (fun l acc => rg.length + acc.length + l.length ≤ 1000) hO rb s A cx
        (fun l' acc w' hR' hG' hB' => by
          rw [← List.append_assoc]
          exact readRing_any hO rb s A l' (rg ++ acc) w' cx hR' hG' (by simp; omega)) Pl.pRing_lt
        (fun l' acc hB' hi' => by
          have q1 := Pl.pRing_lt l' hi'
          have q2 := Pl.mk_len 44 (Pl.pRing l').2.1
          simp only [List.length_append, List.length_cons, List.length_nil]
          omega)
        l.length (Pl.mk 40 l).2 [] w2 (by simpa using hR2) hG2 (by simp; omega) hlm).mono ?_
      rintro e w4 ⟨rfl, ⟨rg4, hR4, hrg4⟩, hb4⟩
      go_wp2_with fail
      go_ret
      exact ⟨rfl, ⟨rg4, hR4, hrg4⟩, (hb1.trans hb2).trans hb4⟩
  · have hT := HT.out
    rw [Pl.pPoly, if_pos hm] at hT
    subst hT
    clear HT
    go_wp2_with fail
    go_ret
    exact ⟨rfl, ⟨_, hR1, fun _ => by simp⟩, hb1⟩

set_option maxRecDepth 100000 in
set_option maxHeartbeats 1000000 in
theorem readMulti_any (hO : GoOnSaid) (rb : Nat) (s : ByteArray) (A l : List Pl.Tk) (rg : List (List (Int × Int))) (w : World) (cx : Cx rb s A) (hR : RD rb s A l rg w) (hG : Gl w) (hrg : rg.length + l.length ≤ 1000) :
    Calls Tryz.prog 85 #[.pointer (some ⟨rb, 0, none⟩)] w (ItemPost rb s A (Pl.pMulti l).1 (Pl.pMulti l).2.1 (rg ++ (Pl.pMulti l).2.2.flatten) w) := by
  generalize hT : Pl.pMulti l = T
  have HT : Hid (Pl.pMulti l = T) := hT
  clear hT
  have hlt := hR.lt
  go_enter Tryz.func85, Tryz.ntmps85
  go_wp2_with fail
  refine (take_word hO Pl.EMPTY 69 [77, 80, 84, 89] rfl (by decide) rb s A l _ _ cx hR hG).mono ?_
  rintro e w1 ⟨rfl, hR1, hb1⟩
  have hG1 : Gl w1 := hG.below hb1 cx.rb
  cases hm : (Pl.wd Pl.EMPTY l).1
  · rw [wd_false hm] at hR1
    go_wp2_with fail
    refine (take_sign hO 40 (by decide) rb s A l _ _ cx hR1 hG1).mono ?_
    rintro e w2 ⟨rfl, hR2, hb2⟩
    simp only [show (40 : UInt8).toNat = 40 from rfl] at hR2 ⊢
    have hG2 : Gl w2 := hG1.below hb2 cx.rb
    cases hm2 : (Pl.mk 40 l).1
    · have hT := HT.out
      rw [Pl.pMulti, if_neg (by rw [hm]; simp), if_neg (by rw [hm2]; simp)] at hT
      subst hT
      rw [mk_false hm2] at hR2
      clear HT
      go_wp2_with fail
      go_ret
      exact ⟨rfl, ⟨_, hR2, fun h => (by cases h)⟩, hb1.trans hb2⟩
    · have hT := HT.out
      rw [Pl.pMulti, if_neg (by rw [hm]; simp), if_pos hm2] at hT
      subst hT
      clear HT
      have hlm := Pl.mk_len 40 l
      go_wp2_with fail
      refine (readRow_readPoly Pl.pPoly (fun acc => rg ++ acc.flatten) (fun l acc => rg.length + acc.flatten.length + l.length ≤ 1000) hO rb s A cx
        (fun l' acc w' hR' hG' hB' => by
          have e : rg ++ (acc ++ [(Pl.pPoly l').2.2]).flatten = (rg ++ acc.flatten) ++ (Pl.pPoly l').2.2 := by simp
          rw [e]
          exact readPoly_any hO rb s A l' (rg ++ acc.flatten) w' cx hR' hG' (by rw [List.length_append]; exact hB')) (fun l h => (Pl.pPoly_lt l h).1)
        (fun l' acc hB' hi' => by
          have q1 := (Pl.pPoly_lt l' hi').2
          have q2 := Pl.mk_len 44 (Pl.pPoly l').2.1
          have e : (acc ++ [(Pl.pPoly l').2.2]).flatten.length = acc.flatten.length + (Pl.pPoly l').2.2.length := by
            rw [List.flatten_append, List.length_append]; simp
          show rg.length + (acc ++ [(Pl.pPoly l').2.2]).flatten.length + (Pl.mk 44 (Pl.pPoly l').2.1).2.length ≤ 1000
          rw [e]
          omega)
        l.length (Pl.mk 40 l).2 [] w2 (by simpa using hR2) hG2 (by simp; omega) hlm).mono ?_
      rintro e w4 ⟨rfl, ⟨rg4, hR4, hrg4⟩, hb4⟩
      go_wp2_with fail
      go_ret
      exact ⟨rfl, ⟨rg4, hR4, hrg4⟩, (hb1.trans hb2).trans hb4⟩
  · have hT := HT.out
    rw [Pl.pMulti, if_pos hm] at hT
    subst hT
    clear HT
    go_wp2_with fail
    go_ret
    exact ⟨rfl, ⟨_, hR1, fun _ => by simp⟩, hb1⟩

set_option maxRecDepth 100000 in
set_option maxHeartbeats 1000000 in
theorem readWhole_any (hO : GoOnSaid) (rb : Nat) (s : ByteArray) (A l : List Pl.Tk) (w : World) (cx : Cx rb s A) (hR : RD rb s A l [] w) (hG : Gl w) :
    Calls Tryz.prog 45 #[.pointer (some ⟨rb, 0, none⟩)] w (ItemPost rb s A (Pl.pWhole l).1 (Pl.pWhole l).2.1 (Pl.pWhole l).2.2.flatten w) := by
  generalize hT : Pl.pWhole l = T
  have HT : Hid (Pl.pWhole l = T) := hT
  clear hT
  have hlt := hR.lt
  have hle := hR.le
  have hcl := cx.len
  go_enter Tryz.func45, Tryz.ntmps45
  go_wp2_with fail
  refine (take_word hO Pl.POLYGON 80 [79, 76, 89, 71, 79, 78] rfl (by decide) rb s A l _ _ cx hR hG).mono ?_
  rintro e w1 ⟨rfl, hR1, hb1⟩
  have hG1 : Gl w1 := hG.below hb1 cx.rb
  cases hm : (Pl.wd Pl.POLYGON l).1
  · rw [wd_false hm] at hR1
    go_wp2_with fail
    refine (take_word hO Pl.MULTI 77 [85, 76, 84, 73, 80, 79, 76, 89, 71, 79, 78] rfl (by decide) rb s A l _ _ cx hR1 hG1).mono ?_
    rintro e w2 ⟨rfl, hR2, hb2⟩
    have hG2 : Gl w2 := hG1.below hb2 cx.rb
    cases hm2 : (Pl.wd Pl.MULTI l).1
    · have hT := HT.out
      rw [Pl.pWhole, if_neg (by rw [hm]; simp), if_neg (by rw [hm2]; simp)] at hT
      subst hT
      rw [wd_false hm2] at hR2
      clear HT
      go_wp2_with fail
      go_ret
      exact ⟨rfl, ⟨_, hR2, fun h => (by cases h)⟩, hb1.trans hb2⟩
    · have hT := HT.out
      rw [Pl.pWhole, if_neg (by rw [hm]; simp), if_pos hm2] at hT
      subst hT
      clear HT
      have hlm := Pl.wd_lt hm2
      go_wp2_with fail
      refine (readMulti_any hO rb s A _ [] _ cx hR2 hG2 (by simp; omega)).mono ?_
      rintro e w3 ⟨rfl, ⟨rg4, hR4, hrg4⟩, hb4⟩
      go_wp2_with fail
      go_ret
      exact ⟨rfl, ⟨rg4, hR4, fun h => by simpa using hrg4 h⟩, (hb1.trans hb2).trans hb4⟩
  · have hT := HT.out
    rw [Pl.pWhole, if_pos hm] at hT
    subst hT
    clear HT
    have hlm := Pl.wd_lt hm
    go_wp2_with fail
    refine (readPoly_any hO rb s A _ [] _ cx hR1 hG1 (by simp; omega)).mono ?_
    rintro e w3 ⟨rfl, ⟨rg4, hR4, hrg4⟩, hb4⟩
    go_wp2_with fail
    go_ret
    exact ⟨rfl, ⟨rg4, hR4, fun h => by simpa using hrg4 h⟩, hb1.trans hb4⟩

end Go.Proofs.YtmfnlpmlmgjleaaGreatDoor
