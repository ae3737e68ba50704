import Derived.Test.YtkjhhooecopolaaGreatDoorKj12
import Derived.Deep.RegionHeld3
namespace Go.Proofs.YtkjhhooecopolaaGreatDoor
open Go.RowKit

theorem rword_any (pb tb cap : Nat) (s : List UInt8) (A l : List Pl.Tk) (w : World) (q : List UInt8) (hch : Pl.Chain s l) (hP : PS pb tb cap A l false w) (hl : A.length ≤ 402) :
    Calls Tryz.prog 29 #[.pointer (some ⟨pb, 0, none⟩), .string ⟨q.toArray⟩] w fun e w' => e = .returned (.bool (Pl.wd q l).1) ∧ PS pb tb cap A (Pl.wd q l).2 false w' ∧ Fp pb w w' := by
  cases l with
  | nil => exact hch.elim
  | cons t r =>
    by_cases hk : t.k = 119
    · by_cases hq : t.raw = q
      · have e : Pl.wd q (t :: r) = (true, r) := by simp [Pl.wd, hk, hq]
        rw [e]
        exact word_yes pb tb cap A r t w ⟨q.toArray⟩ hP hl hk (by rw [hq])
      · have e : Pl.wd q (t :: r) = (false, t :: r) := by simp [Pl.wd, hq]
        rw [e]
        refine (word_no2 pb tb cap A r t w ⟨q.toArray⟩ hP hl hk ?_).mono ?_
        · rw [ByteArray.toList_eq, ByteArray.toList_eq, beq_eq_false_iff_ne]
          intro h; exact hq (by simpa using h)
        · rintro e w' ⟨rfl, n, rfl⟩
          exact ⟨rfl, hP.drewN n, (Fp.refl pb w).drewN n⟩
    · have e : Pl.wd q (t :: r) = (false, t :: r) := by simp [Pl.wd, hk]
      rw [e]
      refine (word_no1 pb tb cap A r t w ⟨q.toArray⟩ hP hl hk).mono ?_
      rintro e w' ⟨rfl, n, rfl⟩
      exact ⟨rfl, hP.drewN n, (Fp.refl pb w).drewN n⟩

theorem both {a b : Prop} (ha : a) (hb : b) : b ∧ a := ⟨hb, ha⟩

set_option maxRecDepth 100000 in
set_option maxHeartbeats 2000000 in
theorem poly_it (pb tb cap : Nat) (s : List UInt8) (A l : List Pl.Tk) (w : World) (hch : Pl.Chain s l) (hP : PS pb tb cap A l false w) (hl : A.length ≤ 402) (hll : l.length ≤ 402) :
    Calls Tryz.prog 30 #[.pointer (some ⟨pb, 0, none⟩)] w (ItPost RdPoly pb tb cap A (Pl.pPoly l) w) := by
  obtain ⟨hKR, hinfo⟩ := both rSlInfo1 keeps_ring
  obtain ⟨i0, hi, hz0, hz1, hz2⟩ := info_parts hinfo
  generalize hT : Pl.pPoly l = T
  have HT : Hid (Pl.pPoly l = T) := hT
  have hpb := hP.lt
  clear hT
  go_enter Tryz.func30, Tryz.ntmps30
  go_wp2_with fail
  refine (rword_any pb tb cap s A l w Pl.EMPTY hch hP hl).mono ?_
  rintro e w1 ⟨rfl, hP1, hf1⟩
  cases hm : (Pl.wd Pl.EMPTY l).1
  · rw [wd_false hm] at hP1
    have HM : Hid (Calls Tryz.prog 42 #[.pointer (some ⟨pb, 0, none⟩), .int .u8 40] w1 fun e w' => e = .returned (.tuple #[]) ∧ Fp pb w w' ∧ ∃ l1 bad, PS pb tb cap A l1 bad w' ∧ Pl.Chain s l1 ∧ l1.length ≤ l.length ∧
        ((bad = true ∧ Fin T l1 true []) ∨ (bad = false ∧ Pl.pRow Pl.pRing l.length l1 [] = T))) := by
      have hg := Pl.mk_goes (c := 40) hch (by omega)
      have hT := HT.out
      unfold Pl.pPoly at hT
      rw [if_neg (by rw [hm]; simp)] at hT
      cases l with
      | nil => exact hch.elim
      | cons t r =>
        by_cases hk : t.k = 40
        · have e : Pl.mk 40 (t :: r) = (true, r) := by simp [Pl.mk, hk]
          refine (mark_yes pb tb cap A r t w1 40 hP1 hl hk (by omega)).mono ?_
          rintro e' w' ⟨rfl, h1, h2⟩
          rw [e] at hg hT
          rw [if_pos rfl] at hT
          exact ⟨rfl, hf1.trans h2, r, false, h1, hg.2, by simp, Or.inr ⟨rfl, hT⟩⟩
        · have e : Pl.mk 40 (t :: r) = (false, t :: r) := by simp [Pl.mk, hk]
          refine (mark_no pb tb cap A r t w1 40 hP1 hl hk).mono ?_
          rintro e' w' ⟨rfl, h1, h2⟩
          rw [e] at hT
          rw [if_neg (by simp)] at hT
          exact ⟨rfl, hf1.trans h2, t :: r, true, h1, hch, Nat.le_refl _, Or.inl ⟨rfl, Or.inr ⟨rfl, by rw [← hT]; exact ⟨rfl, rfl⟩⟩⟩⟩
    clear HT
    go_wp2_with fail
    refine HM.out.mono ?_
    rintro e w3 ⟨rfl, hf3, l1, bad, hP3, hch1, hl1, hcase⟩
    have HIN : Hid (RowIn 63 RdRing Pl.pRing pb tb cap s A T w l.length (.slice none 0 0) (!bad) w3) := by
      refine ⟨l1, [], bad, [], hP3, hf3, hch1, rfl, World.ownsRow_nil _ _ _ _, fun i u x hu => (by simp at hu), by simp, hll, fun hm' => ?_, fun hm' => ?_⟩
      · rcases hcase with ⟨rfl, _⟩ | ⟨rfl, h⟩
        · cases hm'
        · exact ⟨rfl, h, hl1⟩
      · rcases hcase with ⟨rfl, h⟩ | ⟨rfl, h⟩
        · exact h
        · cases hm'
    have hb2 : w3.cell? ⟨pb, 2, none⟩ = some (.bool bad) := by
      obtain ⟨c, _, hb⟩ := hP3.box
      exact cell_of hb 2
    clear hcase HM hl1 hch1 hP3 hf3 hP1 hf1 hm hch hP
    cases bad
    all_goals
      go_wp2_with fail
      go_loopg [4, 5] l.length (fun g lv mv wr => ∃ more : Bool, mv = .bool more ∧ Hid (RowIn 63 RdRing Pl.pRing pb tb cap s A T w g lv more wr))
      case atStart => exact ⟨_, rfl, HIN⟩
      case round =>
        obtain ⟨more, rfl, HR⟩ := hrel
        obtain ⟨l2, acc, bad, vs, hP2, hf2, hch2, hvl, hown, hrd, hacc, hgk, hmore, hfin⟩ := HR.out
        have hs2 := hf2.size
        clear HR HIN hb2
        cases more
        · have hF := hfin rfl
          clear hfin hmore
          go_wp2_with fail
          refine (mark_fin hF hch2 hP2 hl).mono ?_
          rintro e w4 ⟨rfl, hP4, hf4, hacc4⟩
          go_wp2_with fail
          go_ret
          refine ⟨_, rfl, hP4, hf2.trans hf4, ?_, acc, ⟨vs, hvl, own_zero (own_fp hown hf4 hP2), fun i u x hu hx => keeps_fp hKR (by decide) (hrd i u x hu hx) hf4 hP2⟩, fun h => (hacc4 h).symm⟩
          rcases hown.2 with ⟨hv, _⟩ | ⟨g, cap, cur, hv, _⟩
          · exact ⟨_, _, _, hv⟩
          · exact ⟨_, _, _, hv⟩
        · obtain ⟨rfl, hrow, hlen⟩ := hmore rfl
          clear hfin hmore
          have hne : l2 ≠ [] := fun e => by rw [e] at hch2; exact hch2
          obtain ⟨g1, rfl⟩ : ∃ g1, gk = g1 + 1 := ⟨gk - 1, by have := List.length_pos_iff.2 hne; omega⟩
          have HROW : Hid (Pl.pRow Pl.pRing (g1 + 1) l2 acc = T) := hrow
          have HLEN : Hid (l2.length ≤ g1 + 1) := hlen
          have hl2 : l2.length ≤ 402 := by omega
          clear hrow hne hlen
          go_wp2_with fail
          refine (ring_it pb tb cap s A l2 _ hch2 hP2 hl hl2).mono ?_
          rintro e w4 ⟨v4, rfl, hP4, hf4, ⟨so, n4, c4, rfl⟩, x4, hx4, hxe⟩
          have hs4 := hf4.size
          have hown4 := own_fp hown hf4 hP2
          have hpb4 := hP4.lt
          have HXE : Hid ((Pl.pRing l2).1 = true → x4 = (Pl.pRing l2).2.2) := hxe
          have HX4 : Hid (RdRing w4 (.slice so n4 c4) x4) := hx4
          have HRD : Hid (∀ (i : Nat) u x, vs[i]? = some u → acc[i]? = some x → RdRing w4 u x) := fun i u x hu hx => keeps_fp hKR (by decide) (hrd i u x hu hx) hf4 hP2
          clear hxe hx4 hrd
          go_wp2_with (at_builtin; refine wpList_append_lies _ rfl (.tmp 20) (.tmp 22) 57 rfl w.heap.size 63 i0 _ 1 24 Tryz.underlying57 hi hz0 hz1 hz2 rfl (by decide) u4 acc.length vs rfl (own_kept hown4 (fun k hk => Below.heap_alloc _ _ _ (own_lt hown4 k hk).2)) ⟨w4.heap.size, 0, none⟩ 1 1 [.slice so n4 c4] rfl rfl (World.news_of_block (cs := #[.slice so n4 c4]) (t := 63) (fr := (0, 0)) (heap_alloc_new w4 _)) (by simp [Value.oneCell']) (by decide) (by unfold maxLen; omega) (by omega) (by simp; omega) (w4.heap.size + 1) (by simp) ?_; intro g cap' w5 ho hgrow hat hlt5)
          have hP5 := hP4.grown1 hgrow (fun k hk => heap_of_own hown4 hk) (by decide)
          have hf5 := (hf2.trans hf4).grown1 hgrow (fun k hk => (own_lt hown4 k hk).1)
          have hrd5 := reads_snoc (R := RdRing) hvl (fun i u x hu hx => keeps_grown1 hKR hgrow (fun k hk => heap_of_own hown4 hk) (by decide) (HRD.out i u x hu hx)) (keeps_grown1 hKR hgrow (fun k hk => heap_of_own hown4 hk) (by decide) HX4.out)
          have hg3 := Pl.pRing_goes l2 hch2
          have ho' : w5.ownsRow w.heap.size 63 1 (.slice (some ⟨g, 0, none⟩) (acc.length + 1) cap') (acc ++ [x4]).length (vs ++ [.slice so n4 c4]) := by
            simpa using ho
          have hvl' : (vs ++ [Value.slice so n4 c4]).length = (acc ++ [x4]).length := by simp [hvl]
          have HRD5 : Hid (∀ (i : Nat) u y, (vs ++ [Value.slice so n4 c4])[i]? = some u → (acc ++ [x4])[i]? = some y → RdRing w5 u y) := hrd5
          clear hgrow ho hat hown4 hown hP4 hf4 hP2 hf2 HRD HX4 hrd5
          refine (is_any 44 hg3.2 hP5 hl).mono ?_
          rintro e w6 ⟨rfl, n6, rfl⟩
          have HRD6 : Hid (∀ (i : Nat) u y, (vs ++ [Value.slice so n4 c4])[i]? = some u → (acc ++ [x4])[i]? = some y → RdRing (w5.drewN n6) u y) := fun i u y hu hy => hKR _ _ _ _ (HRD5.out i u y hu hy) (fun _ _ _ _ _ => rfl)
          cases hb : (Pl.pRing l2).1
          · rw [hb] at hP5
            have HN : Hid (RowIn 63 RdRing Pl.pRing pb tb cap s A T w g1 (.slice (some ⟨g, 0, none⟩) (acc.length + 1) cap') false (w5.drewN n6)) := by
              refine ⟨_, acc ++ [x4], true, _, hP5.drewN n6, hf5.drewN n6, hg3.2, hvl', ho', HRD6.out, by simp; omega, by omega, fun h => (by cases h), fun _ => Or.inr ⟨rfl, ?_⟩⟩
              rw [← HROW.out, row_stop hb]; exact ⟨rfl, rfl⟩
            clear HROW HXE hP5 hf5 hg3 ho' hch2 HRD6 HRD5 hvl' hvl
            go_wp2_with fail
            go_roundg g1
            case measure => omega
            case rel => exact ⟨_, rfl, HN⟩
          · rw [hb] at hP5
            have hxy := HXE.out hb
            cases hm : (Pl.mk 44 (Pl.pRing l2).2.1).1
            · have HN : Hid (RowIn 63 RdRing Pl.pRing pb tb cap s A T w g1 (.slice (some ⟨g, 0, none⟩) (acc.length + 1) cap') false (w5.drewN n6)) := by
                refine ⟨_, acc ++ [x4], false, _, hP5.drewN n6, hf5.drewN n6, hg3.2, hvl', ho', HRD6.out, by simp; omega, by omega, fun h => (by cases h), fun _ => Or.inl ⟨rfl, ?_⟩⟩
                rw [← HROW.out, row_end hb hm, hxy]
              clear HROW HXE hP5 hf5 hg3 ho' hch2 hxy HRD6 HRD5 hvl' hvl
              go_wp2_with fail
              go_roundg g1
              case measure => omega
              case rel => exact ⟨_, rfl, HN⟩
            · obtain ⟨t3, r3, hl3, hk3⟩ : ∃ t3 r3, (Pl.pRing l2).2.1 = t3 :: r3 ∧ t3.k = 44 := mk_head hm
              rw [hl3] at hP5
              obtain ⟨c3, hc3, hbk3⟩ := hP5.box
              have hPn := (hP5.drewN n6).next (by omega) c3 hc3 hbk3
              have HN : Hid (RowIn 63 RdRing Pl.pRing pb tb cap s A T w g1 (.slice (some ⟨g, 0, none⟩) (acc.length + 1) cap') true ((w5.drewN n6).setCell ⟨pb, 1, none⟩ (.int .i64 ((c3.length : Int) + 1)))) := by
                have hch3 := hg3.2
                have hlt := (fun l h => Pl.pRing_lt l h) l2 hb
                have hle := HLEN.out
                rw [hl3] at hch3 hlt
                simp only [List.length_cons] at hlt
                refine ⟨r3, acc ++ [x4], false, _, hPn, (hf5.drewN n6).set 1 _, (Pl.Goes.tail hch3 (by omega)).2, hvl', own_kept ho' (fun k hk => heap_set_ne (fun e => own_elem (w := w5) ho' hbk3 (by decide) (by rw [hk, e])) _), ?_, by simp; omega, by omega, fun _ => ⟨rfl, ?_, by omega⟩, fun h => (by cases h)⟩
                · exact fun i u y hu hy => keeps_fp hKR (by decide) (HRD6.out i u y hu hy) ((Fp.refl pb _).set 1 _) (hP5.drewN n6)
                · rw [← HROW.out, row_more hb hm, hxy, hl3]
                  simp [Pl.mk, hk3]
              have b1 : (w5.drewN n6).cell? ⟨pb, 1, none⟩ = some (.int .i64 c3.length) := cell_of (w := w5.drewN n6) hbk3 1
              have g1' : (w5.drewN n6).frozen? ⟨pb, 1, none⟩ = false := frozen_of (w := w5.drewN n6) hbk3 1
              have hcl : c3.length ≤ 402 := by have h := congrArg List.length hc3; simp at h; omega
              clear HROW HXE hP5 hf5 hg3 ho' hch2 hxy hPn hc3 hbk3 hl3 HRD6 HRD5 hvl' hvl
              generalize w5.drewN n6 = w7 at *
              go_wp2_with fail
              go_roundg g1
              case measure => omega
              case rel => exact ⟨_, rfl, HN⟩
  · have hT := HT.out
    unfold Pl.pPoly at hT
    rw [if_pos hm] at hT
    subst hT
    clear HT
    go_wp2_with fail
    go_ret
    exact ⟨_, rfl, hP1, hf1, ⟨_, _, _, rfl⟩, [], ⟨[], rfl, World.ownsRow_nil _ _ _ _, fun i u x hu => (by simp at hu)⟩, fun _ => rfl⟩

set_option maxRecDepth 100000 in
set_option maxHeartbeats 2000000 in
theorem multi_it (pb tb cap : Nat) (s : List UInt8) (A l : List Pl.Tk) (w : World) (hch : Pl.Chain s l) (hP : PS pb tb cap A l false w) (hl : A.length ≤ 402) (hll : l.length ≤ 402) :
    Calls Tryz.prog 31 #[.pointer (some ⟨pb, 0, none⟩)] w (ItPost RdMulti pb tb cap A (Pl.pMulti l) w) := by
  obtain ⟨hKR, hinfo⟩ := both rSlInfo2 keeps_poly
  obtain ⟨i0, hi, hz0, hz1, hz2⟩ := info_parts hinfo
  generalize hT : Pl.pMulti l = T
  have HT : Hid (Pl.pMulti l = T) := hT
  have hpb := hP.lt
  clear hT
  go_enter Tryz.func31, Tryz.ntmps31
  go_wp2_with fail
  refine (rword_any pb tb cap s A l w Pl.EMPTY hch hP hl).mono ?_
  rintro e w1 ⟨rfl, hP1, hf1⟩
  cases hm : (Pl.wd Pl.EMPTY l).1
  · rw [wd_false hm] at hP1
    have HM : Hid (Calls Tryz.prog 42 #[.pointer (some ⟨pb, 0, none⟩), .int .u8 40] w1 fun e w' => e = .returned (.tuple #[]) ∧ Fp pb w w' ∧ ∃ l1 bad, PS pb tb cap A l1 bad w' ∧ Pl.Chain s l1 ∧ l1.length ≤ l.length ∧
        ((bad = true ∧ Fin T l1 true []) ∨ (bad = false ∧ Pl.pRow Pl.pPoly l.length l1 [] = T))) := by
      have hg := Pl.mk_goes (c := 40) hch (by omega)
      have hT := HT.out
      unfold Pl.pMulti at hT
      rw [if_neg (by rw [hm]; simp)] at hT
      cases l with
      | nil => exact hch.elim
      | cons t r =>
        by_cases hk : t.k = 40
        · have e : Pl.mk 40 (t :: r) = (true, r) := by simp [Pl.mk, hk]
          refine (mark_yes pb tb cap A r t w1 40 hP1 hl hk (by omega)).mono ?_
          rintro e' w' ⟨rfl, h1, h2⟩
          rw [e] at hg hT
          rw [if_pos rfl] at hT
          exact ⟨rfl, hf1.trans h2, r, false, h1, hg.2, by simp, Or.inr ⟨rfl, hT⟩⟩
        · have e : Pl.mk 40 (t :: r) = (false, t :: r) := by simp [Pl.mk, hk]
          refine (mark_no pb tb cap A r t w1 40 hP1 hl hk).mono ?_
          rintro e' w' ⟨rfl, h1, h2⟩
          rw [e] at hT
          rw [if_neg (by simp)] at hT
          exact ⟨rfl, hf1.trans h2, t :: r, true, h1, hch, Nat.le_refl _, Or.inl ⟨rfl, Or.inr ⟨rfl, by rw [← hT]; exact ⟨rfl, rfl⟩⟩⟩⟩
    clear HT
    go_wp2_with fail
    refine HM.out.mono ?_
    rintro e w3 ⟨rfl, hf3, l1, bad, hP3, hch1, hl1, hcase⟩
    have HIN : Hid (RowIn 57 RdPoly Pl.pPoly pb tb cap s A T w l.length (.slice none 0 0) (!bad) w3) := by
      refine ⟨l1, [], bad, [], hP3, hf3, hch1, rfl, World.ownsRow_nil _ _ _ _, fun i u x hu => (by simp at hu), by simp, hll, fun hm' => ?_, fun hm' => ?_⟩
      · rcases hcase with ⟨rfl, _⟩ | ⟨rfl, h⟩
        · cases hm'
        · exact ⟨rfl, h, hl1⟩
      · rcases hcase with ⟨rfl, h⟩ | ⟨rfl, h⟩
        · exact h
        · cases hm'
    have hb2 : w3.cell? ⟨pb, 2, none⟩ = some (.bool bad) := by
      obtain ⟨c, _, hb⟩ := hP3.box
      exact cell_of hb 2
    clear hcase HM hl1 hch1 hP3 hf3 hP1 hf1 hm hch hP
    cases bad
    all_goals
      go_wp2_with fail
      go_loopg [4, 5] l.length (fun g lv mv wr => ∃ more : Bool, mv = .bool more ∧ Hid (RowIn 57 RdPoly Pl.pPoly pb tb cap s A T w g lv more wr))
      case atStart => exact ⟨_, rfl, HIN⟩
      case round =>
        obtain ⟨more, rfl, HR⟩ := hrel
        obtain ⟨l2, acc, bad, vs, hP2, hf2, hch2, hvl, hown, hrd, hacc, hgk, hmore, hfin⟩ := HR.out
        have hs2 := hf2.size
        clear HR HIN hb2
        cases more
        · have hF := hfin rfl
          clear hfin hmore
          go_wp2_with fail
          refine (mark_fin hF hch2 hP2 hl).mono ?_
          rintro e w4 ⟨rfl, hP4, hf4, hacc4⟩
          go_wp2_with fail
          go_ret
          refine ⟨_, rfl, hP4, hf2.trans hf4, ?_, acc, ⟨vs, hvl, own_zero (own_fp hown hf4 hP2), fun i u x hu hx => keeps_fp hKR (by decide) (hrd i u x hu hx) hf4 hP2⟩, fun h => (hacc4 h).symm⟩
          rcases hown.2 with ⟨hv, _⟩ | ⟨g, cap, cur, hv, _⟩
          · exact ⟨_, _, _, hv⟩
          · exact ⟨_, _, _, hv⟩
        · obtain ⟨rfl, hrow, hlen⟩ := hmore rfl
          clear hfin hmore
          have hne : l2 ≠ [] := fun e => by rw [e] at hch2; exact hch2
          obtain ⟨g1, rfl⟩ : ∃ g1, gk = g1 + 1 := ⟨gk - 1, by have := List.length_pos_iff.2 hne; omega⟩
          have HROW : Hid (Pl.pRow Pl.pPoly (g1 + 1) l2 acc = T) := hrow
          have HLEN : Hid (l2.length ≤ g1 + 1) := hlen
          have hl2 : l2.length ≤ 402 := by omega
          clear hrow hne hlen
          go_wp2_with fail
          refine (poly_it pb tb cap s A l2 _ hch2 hP2 hl hl2).mono ?_
          rintro e w4 ⟨v4, rfl, hP4, hf4, ⟨so, n4, c4, rfl⟩, x4, hx4, hxe⟩
          have hs4 := hf4.size
          have hown4 := own_fp hown hf4 hP2
          have hpb4 := hP4.lt
          have HXE : Hid ((Pl.pPoly l2).1 = true → x4 = (Pl.pPoly l2).2.2) := hxe
          have HX4 : Hid (RdPoly w4 (.slice so n4 c4) x4) := hx4
          have HRD : Hid (∀ (i : Nat) u x, vs[i]? = some u → acc[i]? = some x → RdPoly w4 u x) := fun i u x hu hx => keeps_fp hKR (by decide) (hrd i u x hu hx) hf4 hP2
          clear hxe hx4 hrd
          go_wp2_with (at_builtin; refine wpList_append_lies _ rfl (.tmp 20) (.tmp 22) 27 rfl w.heap.size 57 i0 _ 1 24 Tryz.underlying27 hi hz0 hz1 hz2 rfl (by decide) u4 acc.length vs rfl (own_kept hown4 (fun k hk => Below.heap_alloc _ _ _ (own_lt hown4 k hk).2)) ⟨w4.heap.size, 0, none⟩ 1 1 [.slice so n4 c4] rfl rfl (World.news_of_block (cs := #[.slice so n4 c4]) (t := 57) (fr := (0, 0)) (heap_alloc_new w4 _)) (by simp [Value.oneCell']) (by decide) (by unfold maxLen; omega) (by omega) (by simp; omega) (w4.heap.size + 1) (by simp) ?_; intro g cap' w5 ho hgrow hat hlt5)
          have hP5 := hP4.grown1 hgrow (fun k hk => heap_of_own hown4 hk) (by decide)
          have hf5 := (hf2.trans hf4).grown1 hgrow (fun k hk => (own_lt hown4 k hk).1)
          have hrd5 := reads_snoc (R := RdPoly) hvl (fun i u x hu hx => keeps_grown1 hKR hgrow (fun k hk => heap_of_own hown4 hk) (by decide) (HRD.out i u x hu hx)) (keeps_grown1 hKR hgrow (fun k hk => heap_of_own hown4 hk) (by decide) HX4.out)
          have hg3 := Pl.pPoly_goes l2 hch2
          have ho' : w5.ownsRow w.heap.size 57 1 (.slice (some ⟨g, 0, none⟩) (acc.length + 1) cap') (acc ++ [x4]).length (vs ++ [.slice so n4 c4]) := by
            simpa using ho
          have hvl' : (vs ++ [Value.slice so n4 c4]).length = (acc ++ [x4]).length := by simp [hvl]
          have HRD5 : Hid (∀ (i : Nat) u y, (vs ++ [Value.slice so n4 c4])[i]? = some u → (acc ++ [x4])[i]? = some y → RdPoly w5 u y) := hrd5
          clear hgrow ho hat hown4 hown hP4 hf4 hP2 hf2 HRD HX4 hrd5
          refine (is_any 44 hg3.2 hP5 hl).mono ?_
          rintro e w6 ⟨rfl, n6, rfl⟩
          have HRD6 : Hid (∀ (i : Nat) u y, (vs ++ [Value.slice so n4 c4])[i]? = some u → (acc ++ [x4])[i]? = some y → RdPoly (w5.drewN n6) u y) := fun i u y hu hy => hKR _ _ _ _ (HRD5.out i u y hu hy) (fun _ _ _ _ _ => rfl)
          cases hb : (Pl.pPoly l2).1
          · rw [hb] at hP5
            have HN : Hid (RowIn 57 RdPoly Pl.pPoly pb tb cap s A T w g1 (.slice (some ⟨g, 0, none⟩) (acc.length + 1) cap') false (w5.drewN n6)) := by
              refine ⟨_, acc ++ [x4], true, _, hP5.drewN n6, hf5.drewN n6, hg3.2, hvl', ho', HRD6.out, by simp; omega, by omega, fun h => (by cases h), fun _ => Or.inr ⟨rfl, ?_⟩⟩
              rw [← HROW.out, row_stop hb]; exact ⟨rfl, rfl⟩
            clear HROW HXE hP5 hf5 hg3 ho' hch2 HRD6 HRD5 hvl' hvl
            go_wp2_with fail
            go_roundg g1
            case measure => omega
            case rel => exact ⟨_, rfl, HN⟩
          · rw [hb] at hP5
            have hxy := HXE.out hb
            cases hm : (Pl.mk 44 (Pl.pPoly l2).2.1).1
            · have HN : Hid (RowIn 57 RdPoly Pl.pPoly pb tb cap s A T w g1 (.slice (some ⟨g, 0, none⟩) (acc.length + 1) cap') false (w5.drewN n6)) := by
                refine ⟨_, acc ++ [x4], false, _, hP5.drewN n6, hf5.drewN n6, hg3.2, hvl', ho', HRD6.out, by simp; omega, by omega, fun h => (by cases h), fun _ => Or.inl ⟨rfl, ?_⟩⟩
                rw [← HROW.out, row_end hb hm, hxy]
              clear HROW HXE hP5 hf5 hg3 ho' hch2 hxy HRD6 HRD5 hvl' hvl
              go_wp2_with fail
              go_roundg g1
              case measure => omega
              case rel => exact ⟨_, rfl, HN⟩
            · obtain ⟨t3, r3, hl3, hk3⟩ : ∃ t3 r3, (Pl.pPoly l2).2.1 = t3 :: r3 ∧ t3.k = 44 := mk_head hm
              rw [hl3] at hP5
              obtain ⟨c3, hc3, hbk3⟩ := hP5.box
              have hPn := (hP5.drewN n6).next (by omega) c3 hc3 hbk3
              have HN : Hid (RowIn 57 RdPoly Pl.pPoly pb tb cap s A T w g1 (.slice (some ⟨g, 0, none⟩) (acc.length + 1) cap') true ((w5.drewN n6).setCell ⟨pb, 1, none⟩ (.int .i64 ((c3.length : Int) + 1)))) := by
                have hch3 := hg3.2
                have hlt := (fun l h => (Pl.pPoly_lt l h).1) l2 hb
                have hle := HLEN.out
                rw [hl3] at hch3 hlt
                simp only [List.length_cons] at hlt
                refine ⟨r3, acc ++ [x4], false, _, hPn, (hf5.drewN n6).set 1 _, (Pl.Goes.tail hch3 (by omega)).2, hvl', own_kept ho' (fun k hk => heap_set_ne (fun e => own_elem (w := w5) ho' hbk3 (by decide) (by rw [hk, e])) _), ?_, by simp; omega, by omega, fun _ => ⟨rfl, ?_, by omega⟩, fun h => (by cases h)⟩
                · exact fun i u y hu hy => keeps_fp hKR (by decide) (HRD6.out i u y hu hy) ((Fp.refl pb _).set 1 _) (hP5.drewN n6)
                · rw [← HROW.out, row_more hb hm, hxy, hl3]
                  simp [Pl.mk, hk3]
              have b1 : (w5.drewN n6).cell? ⟨pb, 1, none⟩ = some (.int .i64 c3.length) := cell_of (w := w5.drewN n6) hbk3 1
              have g1' : (w5.drewN n6).frozen? ⟨pb, 1, none⟩ = false := frozen_of (w := w5.drewN n6) hbk3 1
              have hcl : c3.length ≤ 402 := by have h := congrArg List.length hc3; simp at h; omega
              clear HROW HXE hP5 hf5 hg3 ho' hch2 hxy hPn hc3 hbk3 hl3 HRD6 HRD5 hvl' hvl
              generalize w5.drewN n6 = w7 at *
              go_wp2_with fail
              go_roundg g1
              case measure => omega
              case rel => exact ⟨_, rfl, HN⟩
  · have hT := HT.out
    unfold Pl.pMulti at hT
    rw [if_pos hm] at hT
    subst hT
    clear HT
    go_wp2_with fail
    go_ret
    exact ⟨_, rfl, hP1, hf1, ⟨_, _, _, rfl⟩, [], ⟨[], rfl, World.ownsRow_nil _ _ _ _, fun i u x hu => (by simp at hu)⟩, fun _ => rfl⟩

end Go.Proofs.YtkjhhooecopolaaGreatDoor

namespace Go.Proofs.YtkjhhooecopolaaGreatDoor
open Go.RowKit

set_option maxRecDepth 100000 in
set_option maxHeartbeats 400000 in
theorem mread_long (s : ByteArray) (w : World) (hs : 400 < s.size) (hm : s.size ≤ maxLen) :
    Calls Tryz.prog 14 #[.string s] w fun e w' => e = .returned (.tuple #[.agg #[.string ⟨#[]⟩, .slice none 0 0, .int .i64 0], .int .i64 1, .int .i64 0]) ∧ Below w.heap.size w w' := by
  unfold maxLen at hm
  go_enter Tryz.func14, Tryz.ntmps14
  go_wp2
  exact bodyPost_ret (v := .tuple #[.agg #[.string ⟨#[]⟩, .slice none 0 0, .int .i64 0], .int .i64 1, .int .i64 0]) (by simp [results, Tryz.results14, go_sem]) rfl ⟨rfl, (Below.refl _ _).alloc (Nat.le_refl _) _⟩

/-- The parser as it is made. -/
theorem PS.fresh {w1 : World} {base : Nat} {v : Value} {A : List Pl.Tk} (hA : 0 < A.length) (h : w1.ownsRow base 61 4 v A.length (refRow A)) :
    ∃ tb cap, v = .slice (some ⟨tb, 0, none⟩) A.length cap ∧ tb < w1.heap.size ∧ base ≤ tb ∧ (∀ o, o = Obj.cells #[v, .int .i64 0, .bool false, .int .i64 (-1)] 55 (0, 0) → PS w1.heap.size tb cap A A false (w1.alloc o)) := by
  rcases h.2 with ⟨_, h0⟩ | ⟨g, cap, cur, hv, hg, hh, hnc, hcm, hcs, htake⟩
  · omega
  · have hlt := lt_of_heap hh
    refine ⟨g, cap, hv, hlt, hg, fun o ho => ⟨by omega, ⟨cur, (Below.heap_alloc _ _ _ hlt).trans hh, fun j u hu => ?_⟩, [], rfl, ?_⟩⟩
    · rw [← htake, List.getElem?_take] at hu
      split at hu
      · simpa using hu
      · cases hu
    · rw [heap_alloc_new, ho, hv]; rfl

theorem PS.at2 {pb tb cap : Nat} {A l : List Pl.Tk} {bad : Bool} {w w' : World} (h : PS pb tb cap A l bad w) (htb : tb < pb) (hk : ∀ k, k ≤ pb → w'.heap[k]? = w.heap[k]?) : PS pb tb cap A l bad w' := by
  obtain ⟨hne, ⟨cur, hcur, hr⟩, c, hc, hb⟩ := h
  exact ⟨hne, ⟨cur, (hk tb (by omega)).trans hcur, hr⟩, c, hc, (hk pb (Nat.le_refl _)).trans hb⟩

theorem err_form {s : List UInt8} (hs : s.length ≤ 400) (h : ¬ ((Pl.pWhole (Pl.all s)).1 = true ∧ Pl.hk (Pl.pWhole (Pl.all s)).2.1 = 101)) : Pl.err s = (2, Pl.hpl (Pl.pWhole (Pl.all s)).2.1) := by
  unfold Pl.err; rw [if_neg (by omega), if_neg h]

theorem err_out {s : List UInt8} (hs : s.length ≤ 400) (h : (Pl.pWhole (Pl.all s)).1 = true ∧ Pl.hk (Pl.pWhole (Pl.all s)).2.1 = 101) :
    (0 ≤ outOf (Pl.took s) → ((Pl.err s).1 = 3 ∧ ((Pl.err s).2 : Int) = outOf (Pl.took s))) ∧ (outOf (Pl.took s) < 0 → Pl.err s = (0, 0)) := by
  unfold Pl.err outOf; rw [if_neg (by omega), if_pos h]
  cases (Pl.took s).find? outT with
  | some u => exact ⟨fun _ => ⟨rfl, rfl⟩, fun h => by simp at h; omega⟩
  | none => exact ⟨fun h => by simp at h, fun _ => rfl⟩

theorem PS.took {pb tb cap : Nat} {s : List UInt8} {bad : Bool} {w : World} (h : PS pb tb cap (Pl.all s) (Pl.pWhole (Pl.all s)).2.1 bad w) :
    w.heap[pb]? = some (.cells #[.slice (some ⟨tb, 0, none⟩) (Pl.all s).length cap, .int .i64 (Pl.took s).length, .bool bad, .int .i64 (outOf (Pl.took s))] 55 (0, 0)) := by
  obtain ⟨c, hc, hb⟩ := h.box
  have := List.append_cancel_right (hc.trans (Pl.took_append s).symm)
  rw [← this]; exact hb

set_option maxRecDepth 100000 in
set_option maxHeartbeats 2000000 in
theorem mread_poly (s : ByteArray) (w : World) (hs : s.size ≤ 400) (hw : (Pl.wd Pl.POLYGON (Pl.all s.data.toList)).1 = true) :
    Calls Tryz.prog 14 #[.string s] w fun e w' => Below w.heap.size w w' ∧ ∃ W so pn pc, e = .returned (.tuple #[.agg #[.string W, .slice so pn pc, .int .i64 0], .int .i64 (Pl.err s.data.toList).1, .int .i64 (Pl.err s.data.toList).2]) ∧
      ((Pl.err s.data.toList).1 = 0 → W = ⟨Pl.POLYGON.toArray⟩ ∧ RdMulti w' (.slice so pn pc) (Pl.pWhole (Pl.all s.data.toList)).2.2) := by
  have hsz : s.data.toList.length = s.size := by simp
  have hAl : (Pl.all s.data.toList).length ≤ 402 := by have := Pl.all_length s.data.toList; omega
  have hA0 : 0 < (Pl.all s.data.toList).length := by
    obtain ⟨r, hr⟩ := all_head s.data.toList
    rw [hr]; simp
  have hchA := Pl.all_chain s.data.toList
  have hg1 := Pl.wd_goes (q := Pl.POLYGON) hchA
  have hl1 := Pl.wd_lt hw
  have hpw : Pl.pWhole (Pl.all s.data.toList) = ((Pl.pPoly (Pl.wd Pl.POLYGON (Pl.all s.data.toList)).2).1, (Pl.pPoly (Pl.wd Pl.POLYGON (Pl.all s.data.toList)).2).2.1, [(Pl.pPoly (Pl.wd Pl.POLYGON (Pl.all s.data.toList)).2).2.2]) := by
    unfold Pl.pWhole; rw [if_pos hw]
  have HPW : Hid (Pl.pWhole (Pl.all s.data.toList) = ((Pl.pPoly (Pl.wd Pl.POLYGON (Pl.all s.data.toList)).2).1, (Pl.pPoly (Pl.wd Pl.POLYGON (Pl.all s.data.toList)).2).2.1, [(Pl.pPoly (Pl.wd Pl.POLYGON (Pl.all s.data.toList)).2).2.2])) := hpw
  have HHW : Hid ((Pl.wd Pl.POLYGON (Pl.all s.data.toList)).1 = true) := hw
  clear hpw hw
  go_enter Tryz.func14, Tryz.ntmps14
  go_wp2_with fail
  refine (rTokens_any s _ hs).mono ?_
  rintro e w1 ⟨v, rfl, hown, hb1⟩
  obtain ⟨tb, cap, rfl, htb, htb0, hfr⟩ := PS.fresh hA0 hown
  have hs1 := hb1.size
  simp at hs1 htb0
  go_wp2_with fail
  have hP1 := (hfr _ rfl).alloc (.cells #[.string ⟨#[]⟩, .slice none 0 0, .int .i64 0] 29)
  refine (rword_any w1.heap.size tb cap s.data.toList _ _ _ Pl.POLYGON hchA hP1 hAl).mono ?_
  rintro e w2 ⟨rfl, hP2, hf2⟩
  rw [HHW.out]
  go_wp2_with fail
  refine (poly_it w1.heap.size tb cap s.data.toList _ _ _ hg1.2 hP2 hAl (by omega)).mono ?_
  rintro e w3 ⟨v3, rfl, hP3, hf3, ⟨so, n3, c3, rfl⟩, x3, hx3, hxe⟩
  have hf := hf2.trans hf3
  have hs3 := hf.size
  simp at hs3
  have hhb : w3.heap[w1.heap.size + 1]? = some (.cells #[.string ⟨#[]⟩, .slice none 0 0, .int .i64 0] 29 (0, 0)) := by
    rw [hf.block (w1.heap.size + 1) (by simp) (by omega)]
    have := heap_alloc_new (w1.alloc (.cells #[.slice (some ⟨tb, 0, none⟩) (Pl.all s.data.toList).length cap, .int .i64 0, .bool false, .int .i64 (-1)] 55)) (.cells #[.string ⟨#[]⟩, .slice none 0 0, .int .i64 0] 29)
    simpa using this
  have hb0 : w3.heap[w.heap.size]? = some (.cells #[.string ⟨#[]⟩, .slice none 0 0, .int .i64 0] 29 (0, 0)) := by
    rw [hf.block w.heap.size (by simp; omega) (by omega), Below.heap_alloc _ _ _ (by simp; omega), Below.heap_alloc _ _ _ (by omega), hb1.block w.heap.size (by simp)]
    exact heap_alloc_new w _
  have h0 : w3.cell? ⟨w1.heap.size + 1, 0, none⟩ = some (.string ⟨#[]⟩) := cell_of hhb 0
  have h1 : w3.cell? ⟨w1.heap.size + 1, 1, none⟩ = some (.slice none 0 0) := cell_of hhb 1
  have h2 : w3.cell? ⟨w1.heap.size + 1, 2, none⟩ = some (.int .i64 0) := cell_of hhb 2
  have k0 : w3.frozen? ⟨w1.heap.size + 1, 0, none⟩ = false := frozen_of hhb 0
  have k1 : w3.frozen? ⟨w1.heap.size + 1, 1, none⟩ = false := frozen_of hhb 1
  have k2 : w3.frozen? ⟨w1.heap.size + 1, 2, none⟩ = false := frozen_of hhb 2
  have hlb : w1.heap.size + 1 < w3.heap.size := by omega
  have hxx : Hid ((Pl.pPoly (Pl.wd Pl.POLYGON (Pl.all s.data.toList)).2).1 = true → x3 = (Pl.pPoly (Pl.wd Pl.POLYGON (Pl.all s.data.toList)).2).2.2) := hxe
  clear hxe
  go_wp2_with fail
  have hPW : PS w1.heap.size tb cap (Pl.all s.data.toList) (Pl.pPoly (Pl.wd Pl.POLYGON (Pl.all s.data.toList)).2).2.1 (!(Pl.pPoly (Pl.wd Pl.POLYGON (Pl.all s.data.toList)).2).1) ((((w3.setCell ⟨w1.heap.size + 1, 0, none⟩ (.string ⟨#[80, 79, 76, 89, 71, 79, 78]⟩)).setCell ⟨w1.heap.size + 1, 1, none⟩ (.slice (some ⟨w3.heap.size, 0, none⟩) 1 1)).setCell ⟨w1.heap.size + 1, 2, none⟩ (.int .i64 0)).alloc (.cells #[.slice so n3 c3] 57)) :=
    hP3.at2 htb (fun k hk => (Below.heap_alloc _ _ _ (by simp; omega)).trans ((heap_set_ne (by omega) _).trans ((heap_set_ne (by omega) _).trans (heap_set_ne (by omega) _))))
  have hbW := (Below.heap_alloc _ (.cells #[.slice so n3 c3] 57) w.heap.size (by simp; omega)).trans ((heap_set_ne (b := w1.heap.size + 1) (o := 2) (by omega) (.int .i64 0)).trans ((heap_set_ne (b := w1.heap.size + 1) (o := 1) (by omega) (.slice (some ⟨w3.heap.size, 0, none⟩) 1 1)).trans ((heap_set_ne (b := w1.heap.size + 1) (o := 0) (by omega) (.string ⟨#[80, 79, 76, 89, 71, 79, 78]⟩)).trans hb0)))
  have hhW := (Below.heap_alloc _ (.cells #[.slice so n3 c3] 57) (w1.heap.size + 1) (by simp; omega)).trans (heap_set (o := 2) (heap_set (o := 1) (heap_set (o := 0) hhb (.string ⟨#[80, 79, 76, 89, 71, 79, 78]⟩)) (.slice (some ⟨w3.heap.size, 0, none⟩) 1 1)) (.int .i64 0))
  have hbel : Below w.heap.size w ((((w3.setCell ⟨w1.heap.size + 1, 0, none⟩ (.string ⟨#[80, 79, 76, 89, 71, 79, 78]⟩)).setCell ⟨w1.heap.size + 1, 1, none⟩ (.slice (some ⟨w3.heap.size, 0, none⟩) 1 1)).setCell ⟨w1.heap.size + 1, 2, none⟩ (.int .i64 0)).alloc (.cells #[.slice so n3 c3] 57)) := by
    have q1 : Below w.heap.size w w1 := ((Below.refl _ w).alloc (Nat.le_refl _) _).trans (hb1.mono (by simp))
    have q2 := ((q1.alloc (by omega) (.cells #[.slice (some ⟨tb, 0, none⟩) (Pl.all s.data.toList).length cap, .int .i64 0, .bool false, .int .i64 (-1)] 55)).alloc (by simp; omega) (.cells #[.string ⟨#[]⟩, .slice none 0 0, .int .i64 0] 29)).trans (hf.below w.heap.size (by omega) (by simp; omega))
    exact (((q2.setCell (by show w.heap.size ≤ w1.heap.size + 1; omega) _).setCell (by show w.heap.size ≤ w1.heap.size + 1; omega) _).setCell (by show w.heap.size ≤ w1.heap.size + 1; omega) _).alloc (by simp; omega) _
  have hrdW : Hid (RdMulti ((((w3.setCell ⟨w1.heap.size + 1, 0, none⟩ (.string ⟨#[80, 79, 76, 89, 71, 79, 78]⟩)).setCell ⟨w1.heap.size + 1, 1, none⟩ (.slice (some ⟨w3.heap.size, 0, none⟩) 1 1)).setCell ⟨w1.heap.size + 1, 2, none⟩ (.int .i64 0)).alloc (.cells #[.slice so n3 c3] 57)) (.slice (some ⟨w3.heap.size, 0, none⟩) 1 1) [x3]) := by
    refine ⟨[.slice so n3 c3], rfl, ⟨rfl, Or.inr ⟨w3.heap.size, 1, #[.slice so n3 c3], rfl, Nat.zero_le _, ?_, Nat.le_refl _, by unfold maxLen; omega, rfl, rfl⟩⟩, fun i u x hu hx => ?_⟩
    · have := heap_alloc_new (((w3.setCell ⟨w1.heap.size + 1, 0, none⟩ (.string ⟨#[80, 79, 76, 89, 71, 79, 78]⟩)).setCell ⟨w1.heap.size + 1, 1, none⟩ (.slice (some ⟨w3.heap.size, 0, none⟩) 1 1)).setCell ⟨w1.heap.size + 1, 2, none⟩ (.int .i64 0)) (.cells #[.slice so n3 c3] 57)
      simpa using this
    · have hi0 : i = 0 := by
        have := (List.getElem?_eq_some_iff.1 hu).1
        simp at this; omega
      subst hi0
      have e1 : u = .slice so n3 c3 := by simpa using hu.symm
      have e2 : x = x3 := by simpa using hx.symm
      subst e1 e2
      refine keeps_poly _ _ _ _ hx3 fun k cur e hc he => ?_
      have hkb : k ≠ w1.heap.size + 1 := fun ek => by
        rw [ek, hhb] at hc
        injection hc with hc
        injection hc with _ hc _
        rw [← hc] at he
        simp at he
      exact (Below.heap_alloc _ _ _ (by have := lt_of_heap hc; simp; omega)).trans ((heap_set_ne hkb _).trans ((heap_set_ne hkb _).trans (heap_set_ne hkb _)))
  have hPW' := hPW
  rw [show (Pl.pPoly (Pl.wd Pl.POLYGON (Pl.all s.data.toList)).2).2.1 = (Pl.pWhole (Pl.all s.data.toList)).2.1 from by rw [HPW.out], show (Pl.pPoly (Pl.wd Pl.POLYGON (Pl.all s.data.toList)).2).1 = (Pl.pWhole (Pl.all s.data.toList)).1 from by rw [HPW.out]] at hPW'
  have hxv : Hid ((Pl.pWhole (Pl.all s.data.toList)).1 = true → [x3] = (Pl.pWhole (Pl.all s.data.toList)).2.2) := fun h => by
    have h' := h
    rw [HPW.out] at h' ⊢
    rw [hxx.out h']
  clear hPW h0 h1 h2 k0 k1 k2 hhb hb0 hx3 hP3 hf3 hf hP2 hf2 hP1 hfr hown
  generalize (((w3.setCell ⟨w1.heap.size + 1, 0, none⟩ (.string ⟨#[80, 79, 76, 89, 71, 79, 78]⟩)).setCell ⟨w1.heap.size + 1, 1, none⟩ (.slice (some ⟨w3.heap.size, 0, none⟩) 1 1)).setCell ⟨w1.heap.size + 1, 2, none⟩ (.int .i64 0)).alloc (.cells #[.slice so n3 c3] 57) = W at *
  obtain ⟨t, r, hlr⟩ : ∃ t r, (Pl.pWhole (Pl.all s.data.toList)).2.1 = t :: r := by
    have hg := (Pl.pWhole_goes _ hchA).2
    cases hq : (Pl.pWhole (Pl.all s.data.toList)).2.1 with
    | nil => rw [hq] at hg; exact hg.elim
    | cons t r => exact ⟨t, r, rfl⟩
  have hbk := hPW'.took
  have hPc := hPW'
  rw [hlr] at hPc
  obtain ⟨c, hc, _, e0, e1, e2, e3, hcl, htl⟩ := hPc.cells
  have hcc : c = Pl.took s.data.toList := List.append_cancel_right (hc.trans (by rw [← hlr]; exact (Pl.took_append s.data.toList).symm))
  subst hcc
  have c0 : W.cell? ⟨w1.heap.size, 0, none⟩ = some (.slice (some ⟨tb, 0, none⟩) (Pl.all s.data.toList).length cap) := cell_of hbk 0
  have c1 : W.cell? ⟨w1.heap.size, 1, none⟩ = some (.int .i64 (Pl.took s.data.toList).length) := cell_of hbk 1
  have c2 : W.cell? ⟨w1.heap.size, 2, none⟩ = some (.bool (!(Pl.pWhole (Pl.all s.data.toList)).1)) := cell_of hbk 2
  have c3 : W.cell? ⟨w1.heap.size, 3, none⟩ = some (.int .i64 (outOf (Pl.took s.data.toList))) := cell_of hbk 3
  have b0 : W.cell? ⟨w.heap.size, 0, none⟩ = some (.string ⟨#[]⟩) := cell_of hbW 0
  have b1 : W.cell? ⟨w.heap.size, 1, none⟩ = some (.slice none 0 0) := cell_of hbW 1
  have b2 : W.cell? ⟨w.heap.size, 2, none⟩ = some (.int .i64 0) := cell_of hbW 2
  have fb0 : W.frozen? ⟨w.heap.size, 0, none⟩ = false := frozen_of hbW 0
  have fb1 : W.frozen? ⟨w.heap.size, 1, none⟩ = false := frozen_of hbW 1
  have fb2 : W.frozen? ⟨w.heap.size, 2, none⟩ = false := frozen_of hbW 2
  have x0 : W.cell? ⟨w1.heap.size + 1, 0, none⟩ = some (.string ⟨#[80, 79, 76, 89, 71, 79, 78]⟩) := cell_of hhW 0
  have x1 : W.cell? ⟨w1.heap.size + 1, 1, none⟩ = some (.slice (some ⟨w3.heap.size, 0, none⟩) 1 1) := cell_of hhW 1
  have x2 : W.cell? ⟨w1.heap.size + 1, 2, none⟩ = some (.int .i64 0) := cell_of hhW 2
  have hib : ((Pl.took s.data.toList).length : Int) < ((Pl.all s.data.toList).length : Int) := by omega
  have hin : (Pl.took s.data.toList).length < (Pl.all s.data.toList).length := hcl
  have hne1 : w.heap.size ≠ w1.heap.size := by omega
  have hne2 : w.heap.size ≠ tb := by omega
  have HEF : Hid (¬ ((Pl.pWhole (Pl.all s.data.toList)).1 = true ∧ Pl.hk (Pl.pWhole (Pl.all s.data.toList)).2.1 = 101) → Pl.err s.data.toList = (2, Pl.hpl (Pl.pWhole (Pl.all s.data.toList)).2.1)) := err_form (by omega)
  have HEO : Hid ((Pl.pWhole (Pl.all s.data.toList)).1 = true ∧ Pl.hk (Pl.pWhole (Pl.all s.data.toList)).2.1 = 101 → (0 ≤ outOf (Pl.took s.data.toList) → ((Pl.err s.data.toList).1 = 3 ∧ ((Pl.err s.data.toList).2 : Int) = outOf (Pl.took s.data.toList))) ∧ (outOf (Pl.took s.data.toList) < 0 → Pl.err s.data.toList = (0, 0))) := fun h => err_out (by omega) h
  rw [hlr] at HEF HEO
  clear hbk hPc hPW' hc hlr hhW
  generalize outOf (Pl.took s.data.toList) = oc at *
  generalize (Pl.took s.data.toList).length = tl at *
  generalize (Pl.all s.data.toList).length = al at *
  cases hb : (Pl.pWhole (Pl.all s.data.toList)).1
  · rw [hb] at c2 HEF
    have HER : Hid (Pl.err s.data.toList = (2, t.pl)) := HEF.out (fun h => by cases h.1)
    clear HEF HEO
    go_wp2_with fail
    go_quiet (fail)
    go_wp2_with fail
    go_region_held3 (fun w' => w'.cell? ⟨w1.heap.size, 0, none⟩ = some (.slice (some ⟨tb, 0, none⟩) al cap) ∧ w'.cell? ⟨w1.heap.size, 1, none⟩ = some (.int .i64 tl) ∧ w'.cell? ⟨tb, tl * 4 + 3, none⟩ = some (.int .i64 t.pl)) (go_keep) (fail)
    go_wp2_with fail
    refine bodyPost_ret (v := .tuple #[.agg #[.string ⟨#[]⟩, .slice none 0 0, .int .i64 0], .int .i64 2, .int .i64 t.pl]) (by simp [results, Tryz.results14, go_sem, b0, b1, b2]) rfl ⟨?_, _, _, _, _, by rw [HER.out]; rfl, fun h => by rw [HER.out] at h; cases h⟩
    exact (((below_dn hbel (nq + 1)).setCell (Nat.le_refl _) _).setCell (Nat.le_refl _) _).setCell (Nat.le_refl _) _
  · rw [hb] at c2 HEF HEO
    by_cases ht : t.k = 101
    · obtain ⟨ho1, ho2⟩ := HEO.out ⟨rfl, ht⟩
      have HO1 : Hid (0 ≤ oc → ((Pl.err s.data.toList).1 = 3 ∧ ((Pl.err s.data.toList).2 : Int) = oc)) := ho1
      have HO2 : Hid (oc < 0 → Pl.err s.data.toList = (0, 0)) := ho2
      rw [ht] at e0
      clear HEF HEO ho1 ho2
      by_cases hoc : 0 ≤ oc
      · obtain ⟨h3, h4⟩ := HO1.out hoc
        have H3 : Hid ((Pl.err s.data.toList).1 = 3) := h3
        have H4 : Hid (((Pl.err s.data.toList).2 : Int) = oc) := h4
        clear h3 h4 HO1 HO2
        go_wp2_with fail
        go_quiet (fail)
        go_wp2_with fail
        go_region_held3 (fun w' => w'.cell? ⟨w1.heap.size, 3, none⟩ = some (.int .i64 oc)) (go_keep) (fail)
        go_wp2_with fail
        refine bodyPost_ret (v := .tuple #[.agg #[.string ⟨#[]⟩, .slice none 0 0, .int .i64 0], .int .i64 3, .int .i64 oc]) (by simp [results, Tryz.results14, go_sem, b0, b1, b2]) rfl ⟨?_, _, _, _, _, by rw [H3.out, H4.out]; rfl, fun h => by rw [H3.out] at h; cases h⟩
        exact (((below_dn hbel (nq + 1)).setCell (Nat.le_refl _) _).setCell (Nat.le_refl _) _).setCell (Nat.le_refl _) _
      · have HER : Hid (Pl.err s.data.toList = (0, 0)) := HO2.out (by omega)
        clear HO1 HO2
        go_wp2_with fail
        go_quiet (fail)
        go_wp2_with fail
        refine bodyPost_ret (v := .tuple #[.agg #[.string ⟨#[80, 79, 76, 89, 71, 79, 78]⟩, .slice (some ⟨w3.heap.size, 0, none⟩) 1 1, .int .i64 0], .int .i64 0, .int .i64 0]) (by simp [results, Tryz.results14, go_sem, b0, b1, b2]) rfl ⟨?_, _, _, _, _, by rw [HER.out]; rfl, fun _ => ⟨rfl, ?_⟩⟩
        · exact (((below_dn hbel nq).setCell (Nat.le_refl _) _).setCell (Nat.le_refl _) _).setCell (Nat.le_refl _) _
        · rw [← hxv.out hb]
          refine keeps_multi _ _ _ _ hrdW.out fun k cur e hcx he => ?_
          have hkb : k ≠ w.heap.size := fun ek => by
            rw [ek, hbW] at hcx
            injection hcx with hcx
            injection hcx with _ hcx _
            rw [← hcx] at he
            simp at he
          exact (heap_set_ne hkb _).trans ((heap_set_ne hkb _).trans (heap_set_ne hkb _))
    · have HER : Hid (Pl.err s.data.toList = (2, t.pl)) := HEF.out (fun h => ht h.2)
      have htk : ((t.k : Int) != 101) = true := by rw [bne_iff_ne]; omega
      clear HEF HEO
      go_wp2_with fail
      go_quiet (fail)
      go_wp2_with fail
      go_region_held3 (fun w' => w'.cell? ⟨w1.heap.size, 0, none⟩ = some (.slice (some ⟨tb, 0, none⟩) al cap) ∧ w'.cell? ⟨w1.heap.size, 1, none⟩ = some (.int .i64 tl) ∧ w'.cell? ⟨tb, tl * 4 + 3, none⟩ = some (.int .i64 t.pl)) (go_keep) (fail)
      go_wp2_with fail
      refine bodyPost_ret (v := .tuple #[.agg #[.string ⟨#[]⟩, .slice none 0 0, .int .i64 0], .int .i64 2, .int .i64 t.pl]) (by simp [results, Tryz.results14, go_sem, b0, b1, b2]) rfl ⟨?_, _, _, _, _, by rw [HER.out]; rfl, fun h => by rw [HER.out] at h; cases h⟩
      exact (((below_dn hbel (nq + 1)).setCell (Nat.le_refl _) _).setCell (Nat.le_refl _) _).setCell (Nat.le_refl _) _

end Go.Proofs.YtkjhhooecopolaaGreatDoor

namespace Go.Proofs.YtkjhhooecopolaaGreatDoor
open Go.RowKit

set_option maxRecDepth 100000 in
set_option maxHeartbeats 2000000 in
theorem mread_none (s : ByteArray) (w : World) (hs : s.size ≤ 400) (hw0 : (Pl.wd Pl.POLYGON (Pl.all s.data.toList)).1 = false) (hw : (Pl.wd Pl.MULTI (Pl.all s.data.toList)).1 = false) :
    Calls Tryz.prog 14 #[.string s] w fun e w' => Below w.heap.size w w' ∧ (Pl.err s.data.toList).1 ≠ 0 ∧ ∃ W so pn pc, e = .returned (.tuple #[.agg #[.string W, .slice so pn pc, .int .i64 0], .int .i64 (Pl.err s.data.toList).1, .int .i64 (Pl.err s.data.toList).2]) := by
  have hsz : s.data.toList.length = s.size := by simp
  have hAl : (Pl.all s.data.toList).length ≤ 402 := by have := Pl.all_length s.data.toList; omega
  have hA0 : 0 < (Pl.all s.data.toList).length := by
    obtain ⟨r, hr⟩ := all_head s.data.toList
    rw [hr]; simp
  have hchA := Pl.all_chain s.data.toList
  have hpw : Pl.pWhole (Pl.all s.data.toList) = (false, Pl.all s.data.toList, []) := by
    unfold Pl.pWhole; rw [if_neg (by rw [hw0]; simp), if_neg (by rw [hw]; simp)]
  have HPW : Hid (Pl.pWhole (Pl.all s.data.toList) = (false, Pl.all s.data.toList, [])) := hpw
  have HW0 : Hid ((Pl.wd Pl.POLYGON (Pl.all s.data.toList)).1 = false) := hw0
  have HHW : Hid ((Pl.wd Pl.MULTI (Pl.all s.data.toList)).1 = false) := hw
  obtain ⟨r, hr⟩ := all_head s.data.toList
  generalize Pl.tk s.data.toList 0 = t at hr
  have HER : Hid (Pl.err s.data.toList = (2, t.pl)) := by
    show _ = _
    rw [err_form (by omega) (by rw [hpw]; simp), hpw]
    simp only
    rw [hr]; rfl
  have HR : Hid (Pl.all s.data.toList = t :: r) := hr
  clear hpw hw hw0 hr
  go_enter Tryz.func14, Tryz.ntmps14
  go_wp2_with fail
  refine (rTokens_any s _ hs).mono ?_
  rintro e w1 ⟨v, rfl, hown, hb1⟩
  obtain ⟨tb, cap, rfl, htb, htb0, hfr⟩ := PS.fresh hA0 hown
  have hs1 := hb1.size
  simp at hs1 htb0
  go_wp2_with fail
  have hP1 := (hfr _ rfl).alloc (.cells #[.string ⟨#[]⟩, .slice none 0 0, .int .i64 0] 29)
  refine (rword_any w1.heap.size tb cap s.data.toList _ _ _ Pl.POLYGON hchA hP1 hAl).mono ?_
  rintro e w2' ⟨rfl, hP2', hf2'⟩
  rw [HW0.out]
  rw [wd_false HW0.out] at hP2'
  go_wp2_with fail
  refine (rword_any w1.heap.size tb cap s.data.toList _ _ _ Pl.MULTI hchA hP2' hAl).mono ?_
  rintro e w3 ⟨rfl, hP3, hf2''⟩
  have hf := hf2'.trans hf2''
  rw [HHW.out]
  rw [wd_false HHW.out] at hP3
  have hs3 := hf.size
  simp at hs3
  have hb0 : w3.heap[w.heap.size]? = some (.cells #[.string ⟨#[]⟩, .slice none 0 0, .int .i64 0] 29 (0, 0)) := by
    rw [hf.block w.heap.size (by simp; omega) (by omega), Below.heap_alloc _ _ _ (by simp; omega), Below.heap_alloc _ _ _ (by omega), hb1.block w.heap.size (by simp)]
    exact heap_alloc_new w _
  have hP3' := hP3
  rw [HR.out] at hP3'
  rw [← HR.out] at hP3'
  obtain ⟨c, hc, hbk⟩ := hP3.box
  have hc0 : c = [] := by
    have := congrArg List.length hc
    simp at this
    exact this
  subst hc0
  have hbel : Below w.heap.size w w3 := by
    have q1 : Below w.heap.size w w1 := ((Below.refl _ w).alloc (Nat.le_refl _) _).trans (hb1.mono (by simp))
    exact ((q1.alloc (by omega) (.cells #[.slice (some ⟨tb, 0, none⟩) (Pl.all s.data.toList).length cap, .int .i64 0, .bool false, .int .i64 (-1)] 55)).alloc (by simp; omega) (.cells #[.string ⟨#[]⟩, .slice none 0 0, .int .i64 0] 29)).trans (hf.below w.heap.size (by omega) (by simp; omega))
  have hb2c : w3.cell? ⟨w1.heap.size, 2, none⟩ = some (.bool false) := cell_of hbk 2
  have fb2c : w3.frozen? ⟨w1.heap.size, 2, none⟩ = false := frozen_of hbk 2
  have hPx : PS w1.heap.size tb cap (Pl.all s.data.toList) (t :: r) true (w3.setCell ⟨w1.heap.size, 2, none⟩ (.bool true)) := by
    have q := hP3.put (bad' := true) [] (l' := t :: r) (by rw [HR.out]; rfl) (fun k hk hne => heap_set_ne hne (.bool true)) (heap_set (o := 2) hbk (.bool true))
    exact q
  obtain ⟨c, hc, hbk2, e0, e1, e2, e3, hcl, htl⟩ := hPx.cells
  have hc0 : c = [] := by
    have := congrArg List.length hc
    rw [HR.out] at this
    simp at this
    exact this
  subst hc0
  have hbW : (w3.setCell ⟨w1.heap.size, 2, none⟩ (.bool true)).heap[w.heap.size]? = some (.cells #[.string ⟨#[]⟩, .slice none 0 0, .int .i64 0] 29 (0, 0)) := (heap_set_ne (by omega) _).trans hb0
  have hbelW := hbel.setCell (p := ⟨w1.heap.size, 2, none⟩) (by show w.heap.size ≤ w1.heap.size; omega) (.bool true)
  clear hP3 hP3' hf hf2' hf2'' hP2' hP1 hfr hown hPx hbk hb0 hbel
  go_wp2_with fail
  generalize w3.setCell ⟨w1.heap.size, 2, none⟩ (.bool true) = W at *
  have c0 : W.cell? ⟨w1.heap.size, 0, none⟩ = some (.slice (some ⟨tb, 0, none⟩) (Pl.all s.data.toList).length cap) := cell_of hbk2 0
  have c1 : W.cell? ⟨w1.heap.size, 1, none⟩ = some (.int .i64 0) := cell_of hbk2 1
  have c2 : W.cell? ⟨w1.heap.size, 2, none⟩ = some (.bool true) := cell_of hbk2 2
  have b0 : W.cell? ⟨w.heap.size, 0, none⟩ = some (.string ⟨#[]⟩) := cell_of hbW 0
  have b1 : W.cell? ⟨w.heap.size, 1, none⟩ = some (.slice none 0 0) := cell_of hbW 1
  have b2 : W.cell? ⟨w.heap.size, 2, none⟩ = some (.int .i64 0) := cell_of hbW 2
  have fb0 : W.frozen? ⟨w.heap.size, 0, none⟩ = false := frozen_of hbW 0
  have fb1 : W.frozen? ⟨w.heap.size, 1, none⟩ = false := frozen_of hbW 1
  have fb2 : W.frozen? ⟨w.heap.size, 2, none⟩ = false := frozen_of hbW 2
  have e3' : W.cell? ⟨tb, 3, none⟩ = some (.int .i64 t.pl) := by simpa using e3
  have hib : (0 : Int) < ((Pl.all s.data.toList).length : Int) := by omega
  have hin : 0 < (Pl.all s.data.toList).length := hA0
  have hne1 : w.heap.size ≠ w1.heap.size := by omega
  have hne2 : w.heap.size ≠ tb := by omega
  clear hbk2 hbW e0 e1 e2 e3
  generalize (Pl.all s.data.toList).length = al at *
  go_quiet (fail)
  go_wp2_with fail
  go_region_held3 (fun w' => w'.cell? ⟨w1.heap.size, 0, none⟩ = some (.slice (some ⟨tb, 0, none⟩) al cap) ∧ w'.cell? ⟨w1.heap.size, 1, none⟩ = some (.int .i64 0) ∧ w'.cell? ⟨tb, 3, none⟩ = some (.int .i64 t.pl)) (go_keep) (fail)
  go_wp2_with fail
  refine bodyPost_ret (v := .tuple #[.agg #[.string ⟨#[]⟩, .slice none 0 0, .int .i64 0], .int .i64 2, .int .i64 t.pl]) (by simp [results, Tryz.results14, go_sem, b0, b1, b2]) rfl ⟨?_, by rw [HER.out]; simp, _, _, _, _, by rw [HER.out]; rfl⟩
  exact (((below_dn hbelW (nq + 1)).setCell (Nat.le_refl _) _).setCell (Nat.le_refl _) _).setCell (Nat.le_refl _) _

end Go.Proofs.YtkjhhooecopolaaGreatDoor
