import Derived.Test.YtkjhhooecopolaaGreatDoorKj07
import Derived.Test.YtkjhhooecopolaaGreatDoorKj04
import Derived.Deep.RegionLaw
import Derived.Deep.RegionWith
namespace Go.Proofs.YtkjhhooecopolaaGreatDoor
open Go.RowKit

namespace Pl
theorem mk_len (c : Nat) (l : List Tk) : (mk c l).2.length ≤ l.length := by
  cases l with
  | nil => simp [mk]
  | cons t r => by_cases hk : t.k = c <;> simp [mk, hk]
theorem mk_lt {c : Nat} {l : List Tk} (h : (mk c l).1 = true) : (mk c l).2.length < l.length := by
  have := mk_true h; omega
theorem wd_lt {q : List UInt8} {l : List Tk} (h : (wd q l).1 = true) : (wd q l).2.length < l.length := by
  cases l with
  | nil => simp [wd] at h
  | cons t r =>
    by_cases hk : t.k = 119 ∧ t.raw = q
    · simp only [wd]; rw [if_pos hk]; simp
    · simp only [wd] at h; rw [if_neg hk] at h; cases h

theorem pPt_lt (l : List Tk) (h : (pPt l).1 = true) : (pPt l).2.1.length < l.length := by
  match l, h with
  | [], h => cases h
  | [x], h => cases h
  | x :: y :: r, h =>
    by_cases hx : x.k = 110
    · by_cases hy : y.k = 110
      · simp [pPt, hx, hy]; omega
      · simp [pPt, hx, hy] at h
    · simp [pPt, hx] at h

theorem pRow_lt {α : Type} (item : List Tk → Bool × List Tk × α) (hd : ∀ l, (item l).1 = true → (item l).2.1.length < l.length) :
    ∀ (f : Nat) (l : List Tk) (acc : List α), (pRow item f l acc).1 = true → (pRow item f l acc).2.1.length < l.length ∧ (pRow item f l acc).2.2.length + (pRow item f l acc).2.1.length ≤ acc.length + l.length
  | 0, l, acc, h => by cases h
  | f + 1, l, acc, h => by
    cases hi : (item l).1
    · rw [row_stop hi] at h; cases h
    · have h1 := hd l hi
      cases hm : (mk 44 (item l).2.1).1
      · rw [row_end hi hm] at h ⊢
        have h2 := mk_lt h
        simp only [List.length_append, List.length_cons, List.length_nil]
        omega
      · rw [row_more hi hm] at h ⊢
        have ih := pRow_lt item hd f _ _ h
        have h2 := mk_lt hm
        simp only [List.length_append, List.length_cons, List.length_nil] at ih
        omega

theorem pRing_lt (l : List Tk) (h : (pRing l).1 = true) : (pRing l).2.1.length < l.length := by
  unfold pRing at h ⊢
  by_cases h1 : (mk 40 l).1 = true
  · have q := mk_lt h1
    rw [if_pos h1] at h ⊢
    by_cases h2 : (mk 41 (mk 40 l).2).1 = true
    · rw [if_pos h2] at h ⊢
      have := mk_lt h2
      simp only; omega
    · rw [if_neg h2] at h ⊢
      have := (pRow_lt pPt pPt_lt _ _ _ h).1
      omega
  · rw [if_neg h1] at h; cases h

theorem pPoly_lt (l : List Tk) (h : (pPoly l).1 = true) : (pPoly l).2.1.length < l.length ∧ (pPoly l).2.2.length + (pPoly l).2.1.length ≤ l.length := by
  unfold pPoly at h ⊢
  by_cases h0 : (wd EMPTY l).1 = true
  · rw [if_pos h0]
    have := wd_lt h0
    simp only [List.length_nil]; omega
  · rw [if_neg h0] at h ⊢
    by_cases h1 : (mk 40 l).1 = true
    · have q := mk_lt h1
      rw [if_pos h1] at h ⊢
      have := pRow_lt pRing pRing_lt _ _ _ h
      simp only [List.length_nil] at this
      omega
    · rw [if_neg h1] at h; cases h

theorem pMulti_lt (l : List Tk) (h : (pMulti l).1 = true) : (pMulti l).2.1.length < l.length := by
  unfold pMulti at h ⊢
  by_cases h0 : (wd EMPTY l).1 = true
  · rw [if_pos h0]
    exact wd_lt h0
  · rw [if_neg h0] at h ⊢
    by_cases h1 : (mk 40 l).1 = true
    · have q := mk_lt h1
      rw [if_pos h1] at h ⊢
      have := (pRow_lt pPoly (fun l h => (pPoly_lt l h).1) _ _ _ h).1
      omega
    · rw [if_neg h1] at h; cases h
end Pl

/-- A new ring, with no point. -/
theorem Rings.snoc {rb : Nat} {rv : Value} {rg : List (List (Int × Int))} {w w1 : World} {o : Obj} {g cap : Nat} {vs : List Value}
    (h1 : vs.length = rg.length) (h2 : w.ownsRow (rb + 1) 127 1 rv rg.length vs)
    (h3 : ∀ (i : Nat) v g, vs[i]? = some v → rg[i]? = some g → w.ownsRow (rb + 1) 81 1 v g.length (ptCells g))
    (h4 : ∀ (i j : Nat) v u k, vs[i]? = some v → vs[j]? = some u → v.ownBlock = some k → u.ownBlock = some k → i = j)
    (hgrow : (w.alloc o).grownBy w1 rv.ownBlock) (ho : w1.ownsRow (rb + 1) 127 1 (.slice (some ⟨g, 0, none⟩) (rg.length + 1) cap) (rg.length + 1) (vs ++ [.slice none 0 0])) :
    Rings rb (.slice (some ⟨g, 0, none⟩) (rg.length + 1) cap) (rg ++ [[]]) (w1.setCell ⟨rb, 6, none⟩ (.slice (some ⟨g, 0, none⟩) (rg.length + 1) cap)) := by
  refine ⟨vs ++ [.slice none 0 0], by simp [h1], ?_, ?_, ?_⟩
  · simp only [List.length_append, List.length_cons, List.length_nil, Nat.zero_add]
    refine own_kept ho fun k hk => heap_set_ne ?_ _
    have := (own_lt ho k hk).1
    omega
  · intro i v g' hi hg'
    by_cases hin : i < vs.length
    · rw [List.getElem?_append_left hin] at hi
      rw [List.getElem?_append_left (by omega)] at hg'
      have hq := h3 i v g' hi hg'
      refine own_kept hq fun k hk => ?_
      have := (own_lt hq k hk)
      obtain ⟨c, hc⟩ := heap_of_own hq hk
      rw [heap_set_ne (by omega)]
      exact grown_heap hgrow k this.2 (own_elem h2 hc (by decide))
    · have hi2 : i = vs.length := by
        have := (List.getElem?_eq_some_iff.1 hi).1
        simp at this; omega
      subst hi2
      have e1 : v = .slice none 0 0 := by simpa using hi.symm
      have e2 : g' = [] := by rw [h1] at hg'; simpa using hg'.symm
      subst e1 e2
      exact World.ownsRow_nil _ _ _ _
  · intro i j v u k hi hj hv hu
    have key : ∀ (i : Nat) v, (vs ++ [Value.slice none 0 0])[i]? = some v → v.ownBlock = some k → vs[i]? = some v := fun i v hi hv => by
      by_cases hin : i < vs.length
      · rwa [List.getElem?_append_left hin] at hi
      · have hi2 : i = vs.length := by
          have := (List.getElem?_eq_some_iff.1 hi).1
          simp at this; omega
        subst hi2
        have e1 : v = .slice none 0 0 := by simpa using hi.symm
        subst e1
        cases hv
    exact h4 i j v u k (key i v hi hv) (key j u hj hu) hv hu

theorem slInfo : (Tryz.prog.info? 127).map (fun i => (i.zero, i.size, i.bytes)) = some (some (.slice none 0 0), 1, 24) := by kernel_rfl

set_option maxRecDepth 100000 in
set_option maxHeartbeats 1000000 in
theorem readRing_any (hO : GoOnSaid) (rb : Nat) (s : ByteArray) (A l : List Pl.Tk) (rg : List (List (Int × Int))) (w : World) (cx : Cx rb s A) (hR : RD rb s A l rg w) (hG : Gl w) (hrg : rg.length ≤ 1000) :
    Calls Tryz.prog 150 #[.pointer (some ⟨rb, 0, none⟩)] w (ItemPost rb s A (Pl.pRing l).1 (Pl.pRing l).2.1 (rg ++ [(Pl.pRing l).2.2]) w) := by
  generalize hT : Pl.pRing l = T
  have HT : Hid (Pl.pRing l = T) := hT
  clear hT
  obtain ⟨i0, hi, hz0, hz1, hz2⟩ := info_parts slInfo
  have hlt := hR.lt
  obtain ⟨c, t, r0, tv, rv, hc, hl, hbk, hown, vs, h1, h2, h3, h4⟩ := id hR
  have c6 : w.cell? ⟨rb, 6, none⟩ = some rv := cell_of hbk 6
  have HH : Hid (∀ w1 g cap o, (w.alloc o).grownBy w1 rv.ownBlock → w1.ownsRow (rb + 1) 127 1 (.slice (some ⟨g, 0, none⟩) (rg.length + 1) cap) (rg.length + 1) (vs ++ [.slice none 0 0]) →
      RD rb s A l (rg ++ [[]]) (w1.setCell ⟨rb, 6, none⟩ (.slice (some ⟨g, 0, none⟩) (rg.length + 1) cap)) ∧ Below rb w (w1.setCell ⟨rb, 6, none⟩ (.slice (some ⟨g, 0, none⟩) (rg.length + 1) cap))) := by
    intro w1 g cap o hgrow ho
    have k6 := (grown_heap hgrow rb hlt (own_base_ne h2 rb (by omega))).trans hbk
    refine ⟨⟨c, t, r0, tv, _, hc, hl, heap_set k6 _, own_kept hown fun k hk => ?_, Rings.snoc h1 h2 h3 h4 hgrow ho⟩, ?_⟩
    · obtain ⟨c9, hc9⟩ := heap_of_own hown hk
      have := (own_lt hown k hk)
      rw [heap_set_ne (by omega)]
      exact grown_heap hgrow k this.2 (own_elem h2 hc9 (by decide))
    · exact (((Below.refl rb w).alloc (Nat.le_of_lt hlt) _).grown hgrow (by simp; omega) (fun k hk => by have := (own_lt h2 k hk).1; omega)).setCell (Nat.le_refl _) _
  clear h1 h3 h4
  go_enter Tryz.func150, Tryz.ntmps150
  go_wp2_with (at_builtin; refine wpList_append_lies _ rfl (.tmp 7) (.tmp 8) 78 rfl (rb + 1) 127 i0 _ 1 24 Tryz.underlying78 hi hz0 hz1 hz2 rfl (by decide) rv rg.length vs rfl (own_kept h2 (fun k hk => Below.heap_alloc _ _ _ (own_lt h2 k hk).2)) ⟨w.heap.size, 0, none⟩ 1 1 [.slice none 0 0] rfl rfl (World.news_of_block (cs := #[.slice none 0 0]) (t := 127) (fr := (0, 0)) (heap_alloc_new w _)) (by simp [Value.oneCell']) (by decide) (by unfold maxLen; omega) (by omega) (by simp; omega) (w.heap.size + 1) (by simp) ?_; intro g cap w1 ho hgrow hat hlt1; have hb1 := (grown_heap hgrow rb hlt (own_base_ne h2 rb (by omega))).trans hbk; have d6 : w1.cell? ⟨rb, 6, none⟩ = some rv := cell_of hb1 6; have f6 : w1.frozen? ⟨rb, 6, none⟩ = false := frozen_of hb1 6)
  obtain ⟨hR1, hbel⟩ := HH.out w1 g cap _ hgrow ho
  have hG1 := hG.below hbel cx.rb
  have hlA := hR1.le
  have hcl := cx.len
  clear HH hgrow ho hat hlt1 hb1 d6 f6 c6 h2 hown hbk hl hc hi hz0 hz1 hz2
  refine (take_sign hO 40 (by decide) rb s A l _ _ cx hR1 hG1).mono ?_
  rintro e w2 ⟨rfl, hR2, hb2⟩
  simp only [show (40 : UInt8).toNat = 40 from rfl] at hR2 ⊢
  have hG2 : Gl w2 := hG1.below hb2 cx.rb
  cases hm : (Pl.mk 40 l).1
  · have hT := HT.out
    rw [Pl.pRing, if_neg (by rw [hm]; simp)] at hT
    subst hT
    rw [mk_false hm] at hR2
    clear HT
    go_wp2_with fail
    go_ret
    exact ⟨rfl, ⟨_, hR2, fun h => (by cases h)⟩, hbel.trans hb2⟩
  · go_wp2_with fail
    refine (take_sign hO 41 (by decide) rb s A _ _ _ cx hR2 hG2).mono ?_
    rintro e w3 ⟨rfl, hR3, hb3⟩
    simp only [show (41 : UInt8).toNat = 41 from rfl] at hR3 ⊢
    have hG3 : Gl w3 := hG2.below hb3 cx.rb
    cases hm2 : (Pl.mk 41 (Pl.mk 40 l).2).1
    · have hT := HT.out
      rw [Pl.pRing, if_pos hm, if_neg (by rw [hm2]; simp)] at hT
      subst hT
      rw [mk_false hm2] at hR3
      have hlm := Pl.mk_len 40 l
      clear HT
      go_wp2_with fail
      refine (readRow_readPoint Pl.pPt (fun acc => rg ++ [acc]) (fun l acc => acc.length + l.length ≤ 1000) hO rb s A cx
        (fun l' acc w' hR' hG' hB' => readPoint_any hO rb s A l' rg acc w' cx hR' hG' (by omega) hrg) Pl.pPt_lt
        (fun l' acc hB' hi' => by
          have q1 := Pl.pPt_lt l' hi'
          have q2 := Pl.mk_len 44 (Pl.pPt l').2.1
          simp only [List.length_append, List.length_cons, List.length_nil]
          omega)
        l.length (Pl.mk 40 l).2 [] w3 hR3 hG3 (by simp; omega) hlm).mono ?_
      rintro e w4 ⟨rfl, ⟨rg4, hR4, hrg4⟩, hb4⟩
      go_wp2_with fail
      go_ret
      exact ⟨rfl, ⟨rg4, hR4, hrg4⟩, ((hbel.trans hb2).trans hb3).trans hb4⟩
    · have hT := HT.out
      rw [Pl.pRing, if_pos hm, if_pos hm2] at hT
      subst hT
      clear HT
      go_wp2_with fail
      go_ret
      exact ⟨rfl, ⟨_, hR3, fun _ => rfl⟩, (hbel.trans hb2).trans hb3⟩

end Go.Proofs.YtkjhhooecopolaaGreatDoor

namespace Go.Proofs.YtkjhhooecopolaaGreatDoor
open Go.RowKit

theorem wd_false {q : List UInt8} {l : List Pl.Tk} (h : (Pl.wd q l).1 = false) : (Pl.wd q l).2 = l := by
  cases l with
  | nil => rfl
  | cons t r =>
    by_cases hk : t.k = 119 ∧ t.raw = q
    · simp only [Pl.wd] at h; rw [if_pos hk] at h; cases h
    · simp only [Pl.wd]; rw [if_neg hk]

def Pl.pWhole (l : List Pl.Tk) : Bool × List Pl.Tk × List (List (List (Int × Int))) :=
  if (Pl.wd Pl.POLYGON l).1 = true then ((Pl.pPoly (Pl.wd Pl.POLYGON l).2).1, (Pl.pPoly (Pl.wd Pl.POLYGON l).2).2.1, [(Pl.pPoly (Pl.wd Pl.POLYGON l).2).2.2])
  else if (Pl.wd Pl.MULTI l).1 = true then Pl.pMulti (Pl.wd Pl.MULTI l).2
  else (false, l, [])

set_option maxRecDepth 100000 in
set_option maxHeartbeats 1000000 in
theorem readPoly_any (hO : GoOnSaid) (rb : Nat) (s : ByteArray) (A l : List Pl.Tk) (rg : List (List (Int × Int))) (w : World) (cx : Cx rb s A) (hR : RD rb s A l rg w) (hG : Gl w) (hrg : rg.length + l.length ≤ 1000) :
    Calls Tryz.prog 95 #[.pointer (some ⟨rb, 0, none⟩)] w (ItemPost rb s A (Pl.pPoly l).1 (Pl.pPoly l).2.1 (rg ++ (Pl.pPoly l).2.2) w) := by
  generalize hT : Pl.pPoly l = T
  have HT : Hid (Pl.pPoly l = T) := hT
  clear hT
  have hlt := hR.lt
  go_enter Tryz.func95, Tryz.ntmps95
  go_wp2_with fail
  refine (take_word hO Pl.EMPTY 69 [77, 80, 84, 89] rfl (by decide) rb s A l _ _ cx hR hG).mono ?_
  rintro e w1 ⟨rfl, hR1, hb1⟩
  have hG1 : Gl w1 := hG.below hb1 cx.rb
  cases hm : (Pl.wd Pl.EMPTY l).1
  · rw [wd_false hm] at hR1
    go_wp2_with fail
    refine (take_sign hO 40 (by decide) rb s A l _ _ cx hR1 hG1).mono ?_
    rintro e w2 ⟨rfl, hR2, hb2⟩
    simp only [show (40 : UInt8).toNat = 40 from rfl] at hR2 ⊢
    have hG2 : Gl w2 := hG1.below hb2 cx.rb
    cases hm2 : (Pl.mk 40 l).1
    · have hT := HT.out
      rw [Pl.pPoly, if_neg (by rw [hm]; simp), if_neg (by rw [hm2]; simp)] at hT
      subst hT
      rw [mk_false hm2] at hR2
      clear HT
      go_wp2_with fail
      go_ret
      exact ⟨rfl, ⟨_, hR2, fun h => (by cases h)⟩, hb1.trans hb2⟩
    · have hT := HT.out
      rw [Pl.pPoly, if_neg (by rw [hm]; simp), if_pos hm2] at hT
      subst hT
      clear HT
      have hlm := Pl.mk_len 40 l
      go_wp2_with fail
      refine (readRow_readRing Pl.pRing (fun acc => rg ++ acc) (fun l acc => rg.length + acc.length + l.length ≤ 1000) hO rb s A cx
        (fun l' acc w' hR' hG' hB' => by
          rw [← List.append_assoc]
          exact readRing_any hO rb s A l' (rg ++ acc) w' cx hR' hG' (by simp; omega)) Pl.pRing_lt
        (fun l' acc hB' hi' => by
          have q1 := Pl.pRing_lt l' hi'
          have q2 := Pl.mk_len 44 (Pl.pRing l').2.1
          simp only [List.length_append, List.length_cons, List.length_nil]
          omega)
        l.length (Pl.mk 40 l).2 [] w2 (by simpa using hR2) hG2 (by simp; omega) hlm).mono ?_
      rintro e w4 ⟨rfl, ⟨rg4, hR4, hrg4⟩, hb4⟩
      go_wp2_with fail
      go_ret
      exact ⟨rfl, ⟨rg4, hR4, hrg4⟩, (hb1.trans hb2).trans hb4⟩
  · have hT := HT.out
    rw [Pl.pPoly, if_pos hm] at hT
    subst hT
    clear HT
    go_wp2_with fail
    go_ret
    exact ⟨rfl, ⟨_, hR1, fun _ => by simp⟩, hb1⟩

set_option maxRecDepth 100000 in
set_option maxHeartbeats 1000000 in
theorem readMulti_any (hO : GoOnSaid) (rb : Nat) (s : ByteArray) (A l : List Pl.Tk) (rg : List (List (Int × Int))) (w : World) (cx : Cx rb s A) (hR : RD rb s A l rg w) (hG : Gl w) (hrg : rg.length + l.length ≤ 1000) :
    Calls Tryz.prog 96 #[.pointer (some ⟨rb, 0, none⟩)] w (ItemPost rb s A (Pl.pMulti l).1 (Pl.pMulti l).2.1 (rg ++ (Pl.pMulti l).2.2.flatten) w) := by
  generalize hT : Pl.pMulti l = T
  have HT : Hid (Pl.pMulti l = T) := hT
  clear hT
  have hlt := hR.lt
  go_enter Tryz.func96, Tryz.ntmps96
  go_wp2_with fail
  refine (take_word hO Pl.EMPTY 69 [77, 80, 84, 89] rfl (by decide) rb s A l _ _ cx hR hG).mono ?_
  rintro e w1 ⟨rfl, hR1, hb1⟩
  have hG1 : Gl w1 := hG.below hb1 cx.rb
  cases hm : (Pl.wd Pl.EMPTY l).1
  · rw [wd_false hm] at hR1
    go_wp2_with fail
    refine (take_sign hO 40 (by decide) rb s A l _ _ cx hR1 hG1).mono ?_
    rintro e w2 ⟨rfl, hR2, hb2⟩
    simp only [show (40 : UInt8).toNat = 40 from rfl] at hR2 ⊢
    have hG2 : Gl w2 := hG1.below hb2 cx.rb
    cases hm2 : (Pl.mk 40 l).1
    · have hT := HT.out
      rw [Pl.pMulti, if_neg (by rw [hm]; simp), if_neg (by rw [hm2]; simp)] at hT
      subst hT
      rw [mk_false hm2] at hR2
      clear HT
      go_wp2_with fail
      go_ret
      exact ⟨rfl, ⟨_, hR2, fun h => (by cases h)⟩, hb1.trans hb2⟩
    · have hT := HT.out
      rw [Pl.pMulti, if_neg (by rw [hm]; simp), if_pos hm2] at hT
      subst hT
      clear HT
      have hlm := Pl.mk_len 40 l
      go_wp2_with fail
      refine (readRow_readPoly Pl.pPoly (fun acc => rg ++ acc.flatten) (fun l acc => rg.length + acc.flatten.length + l.length ≤ 1000) hO rb s A cx
        (fun l' acc w' hR' hG' hB' => by
          have e : rg ++ (acc ++ [(Pl.pPoly l').2.2]).flatten = (rg ++ acc.flatten) ++ (Pl.pPoly l').2.2 := by simp
          rw [e]
          exact readPoly_any hO rb s A l' (rg ++ acc.flatten) w' cx hR' hG' (by rw [List.length_append]; exact hB')) (fun l h => (Pl.pPoly_lt l h).1)
        (fun l' acc hB' hi' => by
          have q1 := (Pl.pPoly_lt l' hi').2
          have q2 := Pl.mk_len 44 (Pl.pPoly l').2.1
          have e : (acc ++ [(Pl.pPoly l').2.2]).flatten.length = acc.flatten.length + (Pl.pPoly l').2.2.length := by
            rw [List.flatten_append, List.length_append]; simp
          show rg.length + (acc ++ [(Pl.pPoly l').2.2]).flatten.length + (Pl.mk 44 (Pl.pPoly l').2.1).2.length ≤ 1000
          rw [e]
          omega)
        l.length (Pl.mk 40 l).2 [] w2 (by simpa using hR2) hG2 (by simp; omega) hlm).mono ?_
      rintro e w4 ⟨rfl, ⟨rg4, hR4, hrg4⟩, hb4⟩
      go_wp2_with fail
      go_ret
      exact ⟨rfl, ⟨rg4, hR4, hrg4⟩, (hb1.trans hb2).trans hb4⟩
  · have hT := HT.out
    rw [Pl.pMulti, if_pos hm] at hT
    subst hT
    clear HT
    go_wp2_with fail
    go_ret
    exact ⟨rfl, ⟨_, hR1, fun _ => by simp⟩, hb1⟩

set_option maxRecDepth 100000 in
set_option maxHeartbeats 1000000 in
theorem readWhole_any (hO : GoOnSaid) (rb : Nat) (s : ByteArray) (A l : List Pl.Tk) (w : World) (cx : Cx rb s A) (hR : RD rb s A l [] w) (hG : Gl w) :
    Calls Tryz.prog 61 #[.pointer (some ⟨rb, 0, none⟩)] w (ItemPost rb s A (Pl.pWhole l).1 (Pl.pWhole l).2.1 (Pl.pWhole l).2.2.flatten w) := by
  generalize hT : Pl.pWhole l = T
  have HT : Hid (Pl.pWhole l = T) := hT
  clear hT
  have hlt := hR.lt
  have hle := hR.le
  have hcl := cx.len
  go_enter Tryz.func61, Tryz.ntmps61
  go_wp2_with fail
  refine (take_word hO Pl.POLYGON 80 [79, 76, 89, 71, 79, 78] rfl (by decide) rb s A l _ _ cx hR hG).mono ?_
  rintro e w1 ⟨rfl, hR1, hb1⟩
  have hG1 : Gl w1 := hG.below hb1 cx.rb
  cases hm : (Pl.wd Pl.POLYGON l).1
  · rw [wd_false hm] at hR1
    go_wp2_with fail
    refine (take_word hO Pl.MULTI 77 [85, 76, 84, 73, 80, 79, 76, 89, 71, 79, 78] rfl (by decide) rb s A l _ _ cx hR1 hG1).mono ?_
    rintro e w2 ⟨rfl, hR2, hb2⟩
    have hG2 : Gl w2 := hG1.below hb2 cx.rb
    cases hm2 : (Pl.wd Pl.MULTI l).1
    · have hT := HT.out
      rw [Pl.pWhole, if_neg (by rw [hm]; simp), if_neg (by rw [hm2]; simp)] at hT
      subst hT
      rw [wd_false hm2] at hR2
      clear HT
      go_wp2_with fail
      go_ret
      exact ⟨rfl, ⟨_, hR2, fun h => (by cases h)⟩, hb1.trans hb2⟩
    · have hT := HT.out
      rw [Pl.pWhole, if_neg (by rw [hm]; simp), if_pos hm2] at hT
      subst hT
      clear HT
      have hlm := Pl.wd_lt hm2
      go_wp2_with fail
      refine (readMulti_any hO rb s A _ [] _ cx hR2 hG2 (by simp; omega)).mono ?_
      rintro e w3 ⟨rfl, ⟨rg4, hR4, hrg4⟩, hb4⟩
      go_wp2_with fail
      go_ret
      exact ⟨rfl, ⟨rg4, hR4, fun h => by simpa using hrg4 h⟩, (hb1.trans hb2).trans hb4⟩
  · have hT := HT.out
    rw [Pl.pWhole, if_pos hm] at hT
    subst hT
    clear HT
    have hlm := Pl.wd_lt hm
    go_wp2_with fail
    refine (readPoly_any hO rb s A _ [] _ cx hR1 hG1 (by simp; omega)).mono ?_
    rintro e w3 ⟨rfl, ⟨rg4, hR4, hrg4⟩, hb4⟩
    go_wp2_with fail
    go_ret
    exact ⟨rfl, ⟨rg4, hR4, fun h => by simpa using hrg4 h⟩, hb1.trans hb4⟩

end Go.Proofs.YtkjhhooecopolaaGreatDoor

namespace Go.Proofs.YtkjhhooecopolaaGreatDoor
open Go.RowKit

set_option maxHeartbeats 400000 in
theorem end_any (k : Int) (raw : ByteArray) (n : Int) (p j : Nat) (w : World) (hp : p ≤ 1000) (hr : raw.size ≤ 1000) (hj : j = p + raw.size) :
    Calls Tryz.prog 195 #[.agg #[.int .i64 k, .string raw, .int .i64 n, .int .i64 p]] w fun e w' => e = .returned (.int .i64 j) ∧ Below w.heap.size w w' := by
  have HJ : Hid (j = p + raw.size) := hj
  clear hj
  go_enter Tryz.func195, Tryz.ntmps195
  go_wp2
  go_ret
  exact ⟨ret_int (by rw [HJ.out]; simp), (Below.refl _ _).alloc (Nat.le_refl _) _⟩

theorem tokInfo : (Tryz.prog.info? 76).map (fun i => (i.zero, i.size, i.bytes)) = some (some (.agg #[.int .i64 0, .string ⟨#[]⟩, .int .i64 0, .int .i64 0]), 4, 40) := by kernel_rfl

theorem Gl.drew {w : World} (h : Gl w) : Gl w.drew := ⟨h.sz, h.es, h.er, h.tab⟩

/-- What goOn leaves. -/
def OnPost (rb : Nat) (s : ByteArray) (rv : Value) (tv : Value) (m : Nat) (xs : List Value) (c0 c1 c2 c3 : Value) (w w' : World) : Prop :=
  (∃ tv', w'.heap[rb]? = some (.cells #[.string s, c0, c1, c2, c3, tv', rv] 80 (0, 0)) ∧ w'.ownsRow (rb + 1) 76 4 tv' m xs ∧ (∀ k, tv'.ownBlock = some k → tv.ownBlock = some k ∨ w.heap.size ≤ k)) ∧
  (∀ k, k < w.heap.size → k ≠ rb → tv.ownBlock ≠ some k → w'.heap[k]? = w.heap[k]?) ∧ Below rb w w'

theorem goOn_end {rb : Nat} {s : ByteArray} {k : Value} {raw n p : Value} {tv rv : Value} {m : Nat} {xs ys : List Value} {w w1 w3 w4 : World} {o : Obj} {g cap : Nat} {c0 c1 c2 c3 : Value}
    (hb : w.heap[rb]? = some (.cells #[.string s, k, raw, n, p, tv, rv] 80 (0, 0)))
    (hown : w.ownsRow (rb + 1) 76 4 tv m xs)
    (ho : w1.ownsRow (rb + 1) 76 4 (.slice (some ⟨g, 0, none⟩) (m + 1) cap) (m + 1) ys)
    (hgrow : (w.alloc o).drew.grownBy w1 tv.ownBlock) (hat : tv.ownBlock = some g ∨ g = w.heap.size + 1)
    (hb3 : Below (w1.setCell ⟨rb, 5, none⟩ (.slice (some ⟨g, 0, none⟩) (m + 1) cap)).drew.heap.size (w1.setCell ⟨rb, 5, none⟩ (.slice (some ⟨g, 0, none⟩) (m + 1) cap)).drew w3)
    (hb4 : Below w3.heap.size w3 w4) :
    OnPost rb s rv tv (m + 1) ys c0 c1 c2 c3 w ((((w4.setCell ⟨rb, 1, none⟩ c0).setCell ⟨rb, 2, none⟩ c1).setCell ⟨rb, 3, none⟩ c2).setCell ⟨rb, 4, none⟩ c3) := by
  have hlt := lt_of_heap hb
  have hs1 : w.heap.size + 1 ≤ w1.heap.size := by have := hgrow.size; simpa using this
  have hW : (w1.setCell ⟨rb, 5, none⟩ (.slice (some ⟨g, 0, none⟩) (m + 1) cap)).drew.heap.size = w1.heap.size := by simp [World.drew]
  have hs3 : w1.heap.size ≤ w3.heap.size := by have := hb3.size; rw [hW] at this; exact this
  have hs4 : w3.heap.size ≤ w4.heap.size := hb4.size
  have e1 : ∀ k, k < w1.heap.size → k ≠ rb → w4.heap[k]? = w1.heap[k]? := fun k hk hne => by
    rw [hb4.block k (by omega), hb3.block k (by rw [hW]; exact hk)]
    exact heap_set_ne hne _
  have e2 : ∀ k, k < w.heap.size → k ≠ rb → tv.ownBlock ≠ some k → w4.heap[k]? = w.heap[k]? := fun k hk hne ht => by
    rw [e1 k (by omega) hne]; exact grown_heap_drew hgrow k hk ht
  have hb1 : w1.heap[rb]? = some (.cells #[.string s, k, raw, n, p, tv, rv] 80 (0, 0)) := (grown_heap_drew hgrow rb hlt (own_base_ne hown rb (by omega))).trans hb
  have hb4' : w4.heap[rb]? = some (.cells #[.string s, k, raw, n, p, .slice (some ⟨g, 0, none⟩) (m + 1) cap, rv] 80 (0, 0)) := by
    rw [hb4.block rb (by omega), hb3.block rb (by rw [hW]; omega)]
    exact heap_set hb1 _
  refine ⟨⟨.slice (some ⟨g, 0, none⟩) (m + 1) cap, ?_, ?_, ?_⟩, ?_, ?_⟩
  · exact heap_set (heap_set (heap_set (heap_set hb4' _) _) _) _
  · refine own_kept ho fun k hk => ?_
    obtain ⟨q1, q2⟩ := own_lt ho k hk
    rw [heap_set_ne (by omega), heap_set_ne (by omega), heap_set_ne (by omega), heap_set_ne (by omega)]
    exact e1 k q2 (by omega)
  · intro k hk
    have hgk : g = k := by simpa [Value.ownBlock] using hk
    rcases hat with h | h
    · exact Or.inl (by rw [h, hgk])
    · exact Or.inr (by omega)
  · intro k hk hne ht
    rw [heap_set_ne hne, heap_set_ne hne, heap_set_ne hne, heap_set_ne hne]
    exact e2 k hk hne ht
  · have q : Below rb w w4 := by
      refine ⟨?_, ?_, ?_, by omega, fun k hk => e2 k (by omega) (by omega) (own_base_ne hown k (by omega))⟩
      · rw [hb4.os, hb3.os]; exact hgrow.os
      · rw [hb4.tape, hb3.tape]; exact hgrow.tape
      · rw [hb4.output, hb3.output]; exact hgrow.output
    exact (((q.setCell (Nat.le_refl _) _).setCell (Nat.le_refl _) _).setCell (Nat.le_refl _) _).setCell (Nat.le_refl _) _

set_option maxRecDepth 100000 in
set_option maxHeartbeats 2000000 in
theorem goOn_walk (rb : Nat) (s raw : ByteArray) (k n : Int) (p j : Nat) (tv rv : Value) (m : Nat) (xs : List Value) (w : World) (k' : Int) (raw' : ByteArray) (n' : Int) (p' : Nat)
    (hb : w.heap[rb]? = some (.cells #[.string s, .int .i64 k, .string raw, .int .i64 n, .int .i64 p, tv, rv] 80 (0, 0)))
    (hown : w.ownsRow (rb + 1) 76 4 tv m xs) (hm : m ≤ 1000) (hp : p ≤ 1000) (hr : raw.size ≤ 1000) (hj : j = p + raw.size) (hG : Gl w) (hrb : 6 ≤ rb)
    (hT : ∀ w1, Gl w1 → Calls Tryz.prog 60 #[.string s, .int .i64 j] w1 fun e w' => e = .returned (.agg #[.int .i64 k', .string raw', .int .i64 n', .int .i64 p']) ∧ Below w1.heap.size w1 w') :
    Calls Tryz.prog 148 #[.pointer (some ⟨rb, 0, none⟩)] w fun e w' => e = .returned (.tuple #[]) ∧
      OnPost rb s rv tv (m + 1) (xs ++ [.int .i64 k, .string raw, .int .i64 n, .int .i64 p]) (.int .i64 k') (.string raw') (.int .i64 n') (.int .i64 p') w w' := by
  have HJ : Hid (j = p + raw.size) := hj
  have HT : Hid (∀ w1, Gl w1 → Calls Tryz.prog 60 #[.string s, .int .i64 j] w1 fun e w' => e = .returned (.agg #[.int .i64 k', .string raw', .int .i64 n', .int .i64 p']) ∧ Below w1.heap.size w1 w') := hT
  clear hj hT
  obtain ⟨i0, hi, hz0, hz1, hz2⟩ := info_parts tokInfo
  have c0 : w.cell? ⟨rb, 0, none⟩ = some (.string s) := cell_of hb 0
  have c1 : w.cell? ⟨rb, 1, none⟩ = some (.int .i64 k) := cell_of hb 1
  have c2 : w.cell? ⟨rb, 2, none⟩ = some (.string raw) := cell_of hb 2
  have c3 : w.cell? ⟨rb, 3, none⟩ = some (.int .i64 n) := cell_of hb 3
  have c4 : w.cell? ⟨rb, 4, none⟩ = some (.int .i64 p) := cell_of hb 4
  have c5 : w.cell? ⟨rb, 5, none⟩ = some tv := cell_of hb 5
  have hlt := lt_of_heap hb
  go_enter Tryz.func148, Tryz.ntmps148
  go_wp2_with fail
  go_region_law (refine step_append_lies _ rfl (.tmp 6) (.tmp 11) 77 rfl (rb + 1) 76 i0 _ 4 40 Tryz.underlying77 hi hz0 hz1 hz2 rfl (by decide) tv m xs (by simp [Act.eval]) (own_kept hown (fun k hk => Below.heap_alloc _ _ _ (own_lt hown k hk).2)) ⟨w.heap.size, 0, none⟩ 1 1 [.int .i64 k, .string raw, .int .i64 n, .int .i64 p] (by simp [Act.eval]) rfl (World.news_of_block (cs := #[.int .i64 k, .string raw, .int .i64 n, .int .i64 p]) (t := 76) (fr := (0, 0)) (heap_alloc_new w _)) (by simp [Value.oneCell']) (by decide) (by unfold maxLen; omega) (by omega) (by simp; omega) (w.heap.size + 1) (by simp) ?_; intro g cap w1 ho hgrow hat hlt1; have hb1 := (grown_heap_drew hgrow rb hlt (own_base_ne hown rb (by omega))).trans hb; have d5 : w1.cell? ⟨rb, 5, none⟩ = some tv := cell_of hb1 5; have f5 : w1.frozen? ⟨rb, 5, none⟩ = false := frozen_of hb1 5)
  all_goals
    have d0 : w1.cell? ⟨rb, 0, none⟩ = some (.string s) := cell_of hb1 0
    have d1 : w1.cell? ⟨rb, 1, none⟩ = some (.int .i64 k) := cell_of hb1 1
    have d2 : w1.cell? ⟨rb, 2, none⟩ = some (.string raw) := cell_of hb1 2
    have d3 : w1.cell? ⟨rb, 3, none⟩ = some (.int .i64 n) := cell_of hb1 3
    have d4 : w1.cell? ⟨rb, 4, none⟩ = some (.int .i64 p) := cell_of hb1 4
    have q1 : w1.frozen? ⟨rb, 1, none⟩ = false := frozen_of hb1 1
    have q2 : w1.frozen? ⟨rb, 2, none⟩ = false := frozen_of hb1 2
    have q3 : w1.frozen? ⟨rb, 3, none⟩ = false := frozen_of hb1 3
    have q4 : w1.frozen? ⟨rb, 4, none⟩ = false := frozen_of hb1 4
    have hl1 : rb < w1.heap.size := lt_of_heap hb1
    have HH : Hid (Gl (w1.setCell ⟨rb, 5, none⟩ (.slice (some ⟨g, 0, none⟩) (m + 1) cap)).drew) := by
      have q : Below rb w w1 := ((Below.refl _ _).alloc (Nat.le_of_lt hlt) _).drew.grown hgrow (by show rb ≤ (w.alloc _).heap.size; simp; omega) (fun k hk => by have := (own_lt hown k hk).1; omega)
      exact (hG.below (q.setCell (Nat.le_refl _) _) hrb).drew
    clear c0 c1 c2 c3 c4 c5
    go_wp2_with fail
    go_region_with (first
      | (go_at_call 195; refine (end_any _ _ _ _ j _ hp hr HJ.out).mono ?_; rintro e w3 ⟨rfl, hb3⟩; have hx3 : w3.heap[rb]? = some (.cells #[.string s, .int .i64 k, .string raw, .int .i64 n, .int .i64 p, .slice (some ⟨g, 0, none⟩) (m + 1) cap, rv] 80 (0, 0)) := (hb3.block rb (by simp; omega)).trans (heap_set hb1 _); have x0 : w3.cell? ⟨rb, 0, none⟩ = some (.string s) := cell_of hx3 0)
      | (go_at_call 60; refine (HT.out _ (HH.out.below hb3 (by simp; omega))).mono ?_; rintro e w4 ⟨rfl, hb4⟩; have hx4 := (hb4.block rb (lt_of_heap hx3)).trans hx3; have y1 : w4.cell? ⟨rb, 1, none⟩ = some (.int .i64 k) := cell_of hx4 1; have y2 : w4.cell? ⟨rb, 2, none⟩ = some (.string raw) := cell_of hx4 2; have y3 : w4.cell? ⟨rb, 3, none⟩ = some (.int .i64 n) := cell_of hx4 3; have y4 : w4.cell? ⟨rb, 4, none⟩ = some (.int .i64 p) := cell_of hx4 4; have z1 : w4.frozen? ⟨rb, 1, none⟩ = false := frozen_of hx4 1; have z2 : w4.frozen? ⟨rb, 2, none⟩ = false := frozen_of hx4 2; have z3 : w4.frozen? ⟨rb, 3, none⟩ = false := frozen_of hx4 3; have z4 : w4.frozen? ⟨rb, 4, none⟩ = false := frozen_of hx4 4))
    all_goals
      go_wp2_with fail
      go_end0
      exact ⟨rfl, goOn_end hb hown ho hgrow hat hb3 hb4⟩

end Go.Proofs.YtkjhhooecopolaaGreatDoor
