import Derived.Test.YtmfnlpmlmgjleaaGreatDoorRi
namespace Go.Proofs.YtmfnlpmlmgjleaaGreatDoor
open Go.RowKit

theorem rword_any (pb tb cap : Nat) (s : List UInt8) (A l : List Pl.Tk) (w : World) (q : List UInt8) (hch : Pl.Chain s l) (hP : PS pb tb cap A l false w) (hl : A.length ≤ 402) :
    Calls Tryz.prog 39 #[.pointer (some ⟨pb, 0, none⟩), .string ⟨q.toArray⟩] w fun e w' => e = .returned (.bool (Pl.wd q l).1) ∧ PS pb tb cap A (Pl.wd q l).2 false w' ∧ Fp pb w w' := by
  cases l with
  | nil => exact hch.elim
  | cons t r =>
    by_cases hk : t.k = 119
    · by_cases hq : t.raw = q
      · have e : Pl.wd q (t :: r) = (true, r) := by simp [Pl.wd, hk, hq]
        rw [e]
        exact word_yes pb tb cap A r t w ⟨q.toArray⟩ hP hl hk (by rw [hq])
      · have e : Pl.wd q (t :: r) = (false, t :: r) := by simp [Pl.wd, hq]
        rw [e]
        refine (word_no2 pb tb cap A r t w ⟨q.toArray⟩ hP hl hk ?_).mono ?_
        · rw [ByteArray.toList_eq, ByteArray.toList_eq, beq_eq_false_iff_ne]
          intro h; exact hq (by simpa using h)
        · rintro e w' ⟨rfl, n, rfl⟩
          exact ⟨rfl, hP.drewN n, (Fp.refl pb w).drewN n⟩
    · have e : Pl.wd q (t :: r) = (false, t :: r) := by simp [Pl.wd, hk]
      rw [e]
      refine (word_no1 pb tb cap A r t w ⟨q.toArray⟩ hP hl hk).mono ?_
      rintro e w' ⟨rfl, n, rfl⟩
      exact ⟨rfl, hP.drewN n, (Fp.refl pb w).drewN n⟩

theorem both {a b : Prop} (ha : a) (hb : b) : b ∧ a := ⟨hb, ha⟩

set_option maxRecDepth 100000 in
set_option maxHeartbeats 2000000 in
theorem poly_it (pb tb cap : Nat) (s : List UInt8) (A l : List Pl.Tk) (w : World) (hch : Pl.Chain s l) (hP : PS pb tb cap A l false w) (hl : A.length ≤ 402) (hll : l.length ≤ 402) :
    Calls Tryz.prog 40 #[.pointer (some ⟨pb, 0, none⟩)] w (ItPost RdPoly pb tb cap A (Pl.pPoly l) w) := by
  obtain ⟨hKR, hinfo⟩ := both rSlInfo1 keeps_ring
  obtain ⟨i0, hi, hz0, hz1, hz2⟩ := info_parts hinfo
  generalize hT : Pl.pPoly l = T
  have HT : Hid (Pl.pPoly l = T) := hT
  have hpb := hP.lt
  clear hT
  go_enter Tryz.func40, Tryz.ntmps40
  go_wp2_with fail
  refine (rword_any pb tb cap s A l w Pl.EMPTY hch hP hl).mono ?_
  rintro e w1 ⟨rfl, hP1, hf1⟩
  cases hm : (Pl.wd Pl.EMPTY l).1
  · rw [wd_false hm] at hP1
    have HM : Hid (Calls Tryz.prog 69 #[.pointer (some ⟨pb, 0, none⟩), .int .u8 40] w1 fun e w' => e = .returned (.tuple #[]) ∧ Fp pb w w' ∧ ∃ l1 bad, PS pb tb cap A l1 bad w' ∧ Pl.Chain s l1 ∧ l1.length ≤ l.length ∧
        ((bad = true ∧ Fin T l1 true []) ∨ (bad = false ∧ Pl.pRow Pl.pRing l.length l1 [] = T))) := by
      have hg := Pl.mk_goes (c := 40) hch (by omega)
      have hT := HT.out
      unfold Pl.pPoly at hT
      rw [if_neg (by rw [hm]; simp)] at hT
      cases l with
      | nil => exact hch.elim
      | cons t r =>
        by_cases hk : t.k = 40
        · have e : Pl.mk 40 (t :: r) = (true, r) := by simp [Pl.mk, hk]
          refine (mark_yes pb tb cap A r t w1 40 hP1 hl hk (by omega)).mono ?_
          rintro e' w' ⟨rfl, h1, h2⟩
          rw [e] at hg hT
          rw [if_pos rfl] at hT
          exact ⟨rfl, hf1.trans h2, r, false, h1, hg.2, by simp, Or.inr ⟨rfl, hT⟩⟩
        · have e : Pl.mk 40 (t :: r) = (false, t :: r) := by simp [Pl.mk, hk]
          refine (mark_no pb tb cap A r t w1 40 hP1 hl hk).mono ?_
          rintro e' w' ⟨rfl, h1, h2⟩
          rw [e] at hT
          rw [if_neg (by simp)] at hT
          exact ⟨rfl, hf1.trans h2, t :: r, true, h1, hch, Nat.le_refl _, Or.inl ⟨rfl, Or.inr ⟨rfl, by rw [← hT]; exact ⟨rfl, rfl⟩⟩⟩⟩
    clear HT
    go_wp2_with fail
    refine HM.out.mono ?_
    rintro e w3 ⟨rfl, hf3, l1, bad, hP3, hch1, hl1, hcase⟩
    have HIN : Hid (RowIn 117 RdRing Pl.pRing pb tb cap s A T w l.length (.slice none 0 0) (!bad) w3) := by
      refine ⟨l1, [], bad, [], hP3, hf3, hch1, rfl, World.ownsRow_nil _ _ _ _, fun i u x hu => (by simp at hu), by simp, hll, fun hm' => ?_, fun hm' => ?_⟩
      · rcases hcase with ⟨rfl, _⟩ | ⟨rfl, h⟩
        · cases hm'
        · exact ⟨rfl, h, hl1⟩
      · rcases hcase with ⟨rfl, h⟩ | ⟨rfl, h⟩
        · exact h
        · cases hm'
    have hb2 : w3.cell? ⟨pb, 2, none⟩ = some (.bool bad) := by
      obtain ⟨c, _, hb⟩ := hP3.box
      exact cell_of hb 2
    clear hcase HM hl1 hch1 hP3 hf3 hP1 hf1 hm hch hP
    cases bad
    all_goals
      go_wp2_with fail
      go_loopg [4, 5] l.length (fun g lv mv wr => ∃ more : Bool, mv = .bool more ∧ Hid (RowIn 117 RdRing Pl.pRing pb tb cap s A T w g lv more wr))
      case atStart => exact ⟨_, rfl, HIN⟩
      case round =>
        obtain ⟨more, rfl, HR⟩ := hrel
        obtain ⟨l2, acc, bad, vs, hP2, hf2, hch2, hvl, hown, hrd, hacc, hgk, hmore, hfin⟩ := HR.out
        have hs2 := hf2.size
        clear HR HIN hb2
        cases more
        · have hF := hfin rfl
          clear hfin hmore
          go_wp2_with fail
          refine (mark_fin hF hch2 hP2 hl).mono ?_
          rintro e w4 ⟨rfl, hP4, hf4, hacc4⟩
          go_wp2_with fail
          go_ret
          refine ⟨_, rfl, hP4, hf2.trans hf4, ?_, acc, ⟨vs, hvl, own_zero (own_fp hown hf4 hP2), fun i u x hu hx => keeps_fp hKR (by decide) (hrd i u x hu hx) hf4 hP2⟩, fun h => (hacc4 h).symm⟩
          rcases hown.2 with ⟨hv, _⟩ | ⟨g, cap, cur, hv, _⟩
          · exact ⟨_, _, _, hv⟩
          · exact ⟨_, _, _, hv⟩
        · obtain ⟨rfl, hrow, hlen⟩ := hmore rfl
          clear hfin hmore
          have hne : l2 ≠ [] := fun e => by rw [e] at hch2; exact hch2
          obtain ⟨g1, rfl⟩ : ∃ g1, gk = g1 + 1 := ⟨gk - 1, by have := List.length_pos_iff.2 hne; omega⟩
          have HROW : Hid (Pl.pRow Pl.pRing (g1 + 1) l2 acc = T) := hrow
          have HLEN : Hid (l2.length ≤ g1 + 1) := hlen
          have hl2 : l2.length ≤ 402 := by omega
          clear hrow hne hlen
          go_wp2_with fail
          refine (ring_it pb tb cap s A l2 _ hch2 hP2 hl hl2).mono ?_
          rintro e w4 ⟨v4, rfl, hP4, hf4, ⟨so, n4, c4, rfl⟩, x4, hx4, hxe⟩
          have hs4 := hf4.size
          have hown4 := own_fp hown hf4 hP2
          have hpb4 := hP4.lt
          have HXE : Hid ((Pl.pRing l2).1 = true → x4 = (Pl.pRing l2).2.2) := hxe
          have HX4 : Hid (RdRing w4 (.slice so n4 c4) x4) := hx4
          have HRD : Hid (∀ (i : Nat) u x, vs[i]? = some u → acc[i]? = some x → RdRing w4 u x) := fun i u x hu hx => keeps_fp hKR (by decide) (hrd i u x hu hx) hf4 hP2
          clear hxe hx4 hrd
          go_wp2_with (at_builtin; refine wpList_append_lies _ rfl (.tmp 20) (.tmp 22) 98 rfl w.heap.size 117 i0 _ 1 24 Tryz.underlying98 hi hz0 hz1 hz2 rfl (by decide) u4 acc.length vs rfl (own_kept hown4 (fun k hk => Below.heap_alloc _ _ _ (own_lt hown4 k hk).2)) ⟨w4.heap.size, 0, none⟩ 1 1 [.slice so n4 c4] rfl rfl (World.news_of_block (cs := #[.slice so n4 c4]) (t := 117) (fr := (0, 0)) (heap_alloc_new w4 _)) (by simp [Value.oneCell']) (by decide) (by unfold maxLen; omega) (by omega) (by simp; omega) (w4.heap.size + 1) (by simp) ?_; intro g cap' w5 ho hgrow hat hlt5)
          have hP5 := hP4.grown1 hgrow (fun k hk => heap_of_own hown4 hk) (by decide)
          have hf5 := (hf2.trans hf4).grown1 hgrow (fun k hk => (own_lt hown4 k hk).1)
          have hrd5 := reads_snoc (R := RdRing) hvl (fun i u x hu hx => keeps_grown1 hKR hgrow (fun k hk => heap_of_own hown4 hk) (by decide) (HRD.out i u x hu hx)) (keeps_grown1 hKR hgrow (fun k hk => heap_of_own hown4 hk) (by decide) HX4.out)
          have hg3 := Pl.pRing_goes l2 hch2
          have ho' : w5.ownsRow w.heap.size 117 1 (.slice (some ⟨g, 0, none⟩) (acc.length + 1) cap') (acc ++ [x4]).length (vs ++ [.slice so n4 c4]) := by
            simpa using ho
          have hvl' : (vs ++ [Value.slice so n4 c4]).length = (acc ++ [x4]).length := by simp [hvl]
          have HRD5 : Hid (∀ (i : Nat) u y, (vs ++ [Value.slice so n4 c4])[i]? = some u → (acc ++ [x4])[i]? = some y → RdRing w5 u y) := hrd5
          clear hgrow ho hat hown4 hown hP4 hf4 hP2 hf2 HRD HX4 hrd5
          refine (is_any 44 hg3.2 hP5 hl).mono ?_
          rintro e w6 ⟨rfl, n6, rfl⟩
          have HRD6 : Hid (∀ (i : Nat) u y, (vs ++ [Value.slice so n4 c4])[i]? = some u → (acc ++ [x4])[i]? = some y → RdRing (w5.drewN n6) u y) := fun i u y hu hy => hKR _ _ _ _ (HRD5.out i u y hu hy) (fun _ _ _ _ _ => rfl)
          cases hb : (Pl.pRing l2).1
          · rw [hb] at hP5
            have HN : Hid (RowIn 117 RdRing Pl.pRing pb tb cap s A T w g1 (.slice (some ⟨g, 0, none⟩) (acc.length + 1) cap') false (w5.drewN n6)) := by
              refine ⟨_, acc ++ [x4], true, _, hP5.drewN n6, hf5.drewN n6, hg3.2, hvl', ho', HRD6.out, by simp; omega, by omega, fun h => (by cases h), fun _ => Or.inr ⟨rfl, ?_⟩⟩
              rw [← HROW.out, row_stop hb]; exact ⟨rfl, rfl⟩
            clear HROW HXE hP5 hf5 hg3 ho' hch2 HRD6 HRD5 hvl' hvl
            go_wp2_with fail
            go_roundg g1
            case measure => omega
            case rel => exact ⟨_, rfl, HN⟩
          · rw [hb] at hP5
            have hxy := HXE.out hb
            cases hm : (Pl.mk 44 (Pl.pRing l2).2.1).1
            · have HN : Hid (RowIn 117 RdRing Pl.pRing pb tb cap s A T w g1 (.slice (some ⟨g, 0, none⟩) (acc.length + 1) cap') false (w5.drewN n6)) := by
                refine ⟨_, acc ++ [x4], false, _, hP5.drewN n6, hf5.drewN n6, hg3.2, hvl', ho', HRD6.out, by simp; omega, by omega, fun h => (by cases h), fun _ => Or.inl ⟨rfl, ?_⟩⟩
                rw [← HROW.out, row_end hb hm, hxy]
              clear HROW HXE hP5 hf5 hg3 ho' hch2 hxy HRD6 HRD5 hvl' hvl
              go_wp2_with fail
              go_roundg g1
              case measure => omega
              case rel => exact ⟨_, rfl, HN⟩
            · obtain ⟨t3, r3, hl3, hk3⟩ : ∃ t3 r3, (Pl.pRing l2).2.1 = t3 :: r3 ∧ t3.k = 44 := mk_head hm
              rw [hl3] at hP5
              obtain ⟨c3, hc3, hbk3⟩ := hP5.box
              have hPn := (hP5.drewN n6).next (by omega) c3 hc3 hbk3
              have HN : Hid (RowIn 117 RdRing Pl.pRing pb tb cap s A T w g1 (.slice (some ⟨g, 0, none⟩) (acc.length + 1) cap') true ((w5.drewN n6).setCell ⟨pb, 1, none⟩ (.int .i64 ((c3.length : Int) + 1)))) := by
                have hch3 := hg3.2
                have hlt := (fun l h => Pl.pRing_lt l h) l2 hb
                have hle := HLEN.out
                rw [hl3] at hch3 hlt
                simp only [List.length_cons] at hlt
                refine ⟨r3, acc ++ [x4], false, _, hPn, (hf5.drewN n6).set 1 _, (Pl.Goes.tail hch3 (by omega)).2, hvl', own_kept ho' (fun k hk => heap_set_ne (fun e => own_elem (w := w5) ho' hbk3 (by decide) (by rw [hk, e])) _), ?_, by simp; omega, by omega, fun _ => ⟨rfl, ?_, by omega⟩, fun h => (by cases h)⟩
                · exact fun i u y hu hy => keeps_fp hKR (by decide) (HRD6.out i u y hu hy) ((Fp.refl pb _).set 1 _) (hP5.drewN n6)
                · rw [← HROW.out, row_more hb hm, hxy, hl3]
                  simp [Pl.mk, hk3]
              have b1 : (w5.drewN n6).cell? ⟨pb, 1, none⟩ = some (.int .i64 c3.length) := cell_of (w := w5.drewN n6) hbk3 1
              have g1' : (w5.drewN n6).frozen? ⟨pb, 1, none⟩ = false := frozen_of (w := w5.drewN n6) hbk3 1
              have hcl : c3.length ≤ 402 := by have h := congrArg List.length hc3; simp at h; omega
              clear HROW HXE hP5 hf5 hg3 ho' hch2 hxy hPn hc3 hbk3 hl3 HRD6 HRD5 hvl' hvl
              generalize w5.drewN n6 = w7 at *
              go_wp2_with fail
              go_roundg g1
              case measure => omega
              case rel => exact ⟨_, rfl, HN⟩
  · have hT := HT.out
    unfold Pl.pPoly at hT
    rw [if_pos hm] at hT
    subst hT
    clear HT
    go_wp2_with fail
    go_ret
    exact ⟨_, rfl, hP1, hf1, ⟨_, _, _, rfl⟩, [], ⟨[], rfl, World.ownsRow_nil _ _ _ _, fun i u x hu => (by simp at hu)⟩, fun _ => rfl⟩

set_option maxRecDepth 100000 in
set_option maxHeartbeats 2000000 in
theorem multi_it (pb tb cap : Nat) (s : List UInt8) (A l : List Pl.Tk) (w : World) (hch : Pl.Chain s l) (hP : PS pb tb cap A l false w) (hl : A.length ≤ 402) (hll : l.length ≤ 402) :
    Calls Tryz.prog 41 #[.pointer (some ⟨pb, 0, none⟩)] w (ItPost RdMulti pb tb cap A (Pl.pMulti l) w) := by
  obtain ⟨hKR, hinfo⟩ := both rSlInfo2 keeps_poly
  obtain ⟨i0, hi, hz0, hz1, hz2⟩ := info_parts hinfo
  generalize hT : Pl.pMulti l = T
  have HT : Hid (Pl.pMulti l = T) := hT
  have hpb := hP.lt
  clear hT
  go_enter Tryz.func41, Tryz.ntmps41
  go_wp2_with fail
  refine (rword_any pb tb cap s A l w Pl.EMPTY hch hP hl).mono ?_
  rintro e w1 ⟨rfl, hP1, hf1⟩
  cases hm : (Pl.wd Pl.EMPTY l).1
  · rw [wd_false hm] at hP1
    have HM : Hid (Calls Tryz.prog 69 #[.pointer (some ⟨pb, 0, none⟩), .int .u8 40] w1 fun e w' => e = .returned (.tuple #[]) ∧ Fp pb w w' ∧ ∃ l1 bad, PS pb tb cap A l1 bad w' ∧ Pl.Chain s l1 ∧ l1.length ≤ l.length ∧
        ((bad = true ∧ Fin T l1 true []) ∨ (bad = false ∧ Pl.pRow Pl.pPoly l.length l1 [] = T))) := by
      have hg := Pl.mk_goes (c := 40) hch (by omega)
      have hT := HT.out
      unfold Pl.pMulti at hT
      rw [if_neg (by rw [hm]; simp)] at hT
      cases l with
      | nil => exact hch.elim
      | cons t r =>
        by_cases hk : t.k = 40
        · have e : Pl.mk 40 (t :: r) = (true, r) := by simp [Pl.mk, hk]
          refine (mark_yes pb tb cap A r t w1 40 hP1 hl hk (by omega)).mono ?_
          rintro e' w' ⟨rfl, h1, h2⟩
          rw [e] at hg hT
          rw [if_pos rfl] at hT
          exact ⟨rfl, hf1.trans h2, r, false, h1, hg.2, by simp, Or.inr ⟨rfl, hT⟩⟩
        · have e : Pl.mk 40 (t :: r) = (false, t :: r) := by simp [Pl.mk, hk]
          refine (mark_no pb tb cap A r t w1 40 hP1 hl hk).mono ?_
          rintro e' w' ⟨rfl, h1, h2⟩
          rw [e] at hT
          rw [if_neg (by simp)] at hT
          exact ⟨rfl, hf1.trans h2, t :: r, true, h1, hch, Nat.le_refl _, Or.inl ⟨rfl, Or.inr ⟨rfl, by rw [← hT]; exact ⟨rfl, rfl⟩⟩⟩⟩
    clear HT
    go_wp2_with fail
    refine HM.out.mono ?_
    rintro e w3 ⟨rfl, hf3, l1, bad, hP3, hch1, hl1, hcase⟩
    have HIN : Hid (RowIn 98 RdPoly Pl.pPoly pb tb cap s A T w l.length (.slice none 0 0) (!bad) w3) := by
      refine ⟨l1, [], bad, [], hP3, hf3, hch1, rfl, World.ownsRow_nil _ _ _ _, fun i u x hu => (by simp at hu), by simp, hll, fun hm' => ?_, fun hm' => ?_⟩
      · rcases hcase with ⟨rfl, _⟩ | ⟨rfl, h⟩
        · cases hm'
        · exact ⟨rfl, h, hl1⟩
      · rcases hcase with ⟨rfl, h⟩ | ⟨rfl, h⟩
        · exact h
        · cases hm'
    have hb2 : w3.cell? ⟨pb, 2, none⟩ = some (.bool bad) := by
      obtain ⟨c, _, hb⟩ := hP3.box
      exact cell_of hb 2
    clear hcase HM hl1 hch1 hP3 hf3 hP1 hf1 hm hch hP
    cases bad
    all_goals
      go_wp2_with fail
      go_loopg [4, 5] l.length (fun g lv mv wr => ∃ more : Bool, mv = .bool more ∧ Hid (RowIn 98 RdPoly Pl.pPoly pb tb cap s A T w g lv more wr))
      case atStart => exact ⟨_, rfl, HIN⟩
      case round =>
        obtain ⟨more, rfl, HR⟩ := hrel
        obtain ⟨l2, acc, bad, vs, hP2, hf2, hch2, hvl, hown, hrd, hacc, hgk, hmore, hfin⟩ := HR.out
        have hs2 := hf2.size
        clear HR HIN hb2
        cases more
        · have hF := hfin rfl
          clear hfin hmore
          go_wp2_with fail
          refine (mark_fin hF hch2 hP2 hl).mono ?_
          rintro e w4 ⟨rfl, hP4, hf4, hacc4⟩
          go_wp2_with fail
          go_ret
          refine ⟨_, rfl, hP4, hf2.trans hf4, ?_, acc, ⟨vs, hvl, own_zero (own_fp hown hf4 hP2), fun i u x hu hx => keeps_fp hKR (by decide) (hrd i u x hu hx) hf4 hP2⟩, fun h => (hacc4 h).symm⟩
          rcases hown.2 with ⟨hv, _⟩ | ⟨g, cap, cur, hv, _⟩
          · exact ⟨_, _, _, hv⟩
          · exact ⟨_, _, _, hv⟩
        · obtain ⟨rfl, hrow, hlen⟩ := hmore rfl
          clear hfin hmore
          have hne : l2 ≠ [] := fun e => by rw [e] at hch2; exact hch2
          obtain ⟨g1, rfl⟩ : ∃ g1, gk = g1 + 1 := ⟨gk - 1, by have := List.length_pos_iff.2 hne; omega⟩
          have HROW : Hid (Pl.pRow Pl.pPoly (g1 + 1) l2 acc = T) := hrow
          have HLEN : Hid (l2.length ≤ g1 + 1) := hlen
          have hl2 : l2.length ≤ 402 := by omega
          clear hrow hne hlen
          go_wp2_with fail
          refine (poly_it pb tb cap s A l2 _ hch2 hP2 hl hl2).mono ?_
          rintro e w4 ⟨v4, rfl, hP4, hf4, ⟨so, n4, c4, rfl⟩, x4, hx4, hxe⟩
          have hs4 := hf4.size
          have hown4 := own_fp hown hf4 hP2
          have hpb4 := hP4.lt
          have HXE : Hid ((Pl.pPoly l2).1 = true → x4 = (Pl.pPoly l2).2.2) := hxe
          have HX4 : Hid (RdPoly w4 (.slice so n4 c4) x4) := hx4
          have HRD : Hid (∀ (i : Nat) u x, vs[i]? = some u → acc[i]? = some x → RdPoly w4 u x) := fun i u x hu hx => keeps_fp hKR (by decide) (hrd i u x hu hx) hf4 hP2
          clear hxe hx4 hrd
          go_wp2_with (at_builtin; refine wpList_append_lies _ rfl (.tmp 20) (.tmp 22) 41 rfl w.heap.size 98 i0 _ 1 24 Tryz.underlying41 hi hz0 hz1 hz2 rfl (by decide) u4 acc.length vs rfl (own_kept hown4 (fun k hk => Below.heap_alloc _ _ _ (own_lt hown4 k hk).2)) ⟨w4.heap.size, 0, none⟩ 1 1 [.slice so n4 c4] rfl rfl (World.news_of_block (cs := #[.slice so n4 c4]) (t := 98) (fr := (0, 0)) (heap_alloc_new w4 _)) (by simp [Value.oneCell']) (by decide) (by unfold maxLen; omega) (by omega) (by simp; omega) (w4.heap.size + 1) (by simp) ?_; intro g cap' w5 ho hgrow hat hlt5)
          have hP5 := hP4.grown1 hgrow (fun k hk => heap_of_own hown4 hk) (by decide)
          have hf5 := (hf2.trans hf4).grown1 hgrow (fun k hk => (own_lt hown4 k hk).1)
          have hrd5 := reads_snoc (R := RdPoly) hvl (fun i u x hu hx => keeps_grown1 hKR hgrow (fun k hk => heap_of_own hown4 hk) (by decide) (HRD.out i u x hu hx)) (keeps_grown1 hKR hgrow (fun k hk => heap_of_own hown4 hk) (by decide) HX4.out)
          have hg3 := Pl.pPoly_goes l2 hch2
          have ho' : w5.ownsRow w.heap.size 98 1 (.slice (some ⟨g, 0, none⟩) (acc.length + 1) cap') (acc ++ [x4]).length (vs ++ [.slice so n4 c4]) := by
            simpa using ho
          have hvl' : (vs ++ [Value.slice so n4 c4]).length = (acc ++ [x4]).length := by simp [hvl]
          have HRD5 : Hid (∀ (i : Nat) u y, (vs ++ [Value.slice so n4 c4])[i]? = some u → (acc ++ [x4])[i]? = some y → RdPoly w5 u y) := hrd5
          clear hgrow ho hat hown4 hown hP4 hf4 hP2 hf2 HRD HX4 hrd5
          refine (is_any 44 hg3.2 hP5 hl).mono ?_
          rintro e w6 ⟨rfl, n6, rfl⟩
          have HRD6 : Hid (∀ (i : Nat) u y, (vs ++ [Value.slice so n4 c4])[i]? = some u → (acc ++ [x4])[i]? = some y → RdPoly (w5.drewN n6) u y) := fun i u y hu hy => hKR _ _ _ _ (HRD5.out i u y hu hy) (fun _ _ _ _ _ => rfl)
          cases hb : (Pl.pPoly l2).1
          · rw [hb] at hP5
            have HN : Hid (RowIn 98 RdPoly Pl.pPoly pb tb cap s A T w g1 (.slice (some ⟨g, 0, none⟩) (acc.length + 1) cap') false (w5.drewN n6)) := by
              refine ⟨_, acc ++ [x4], true, _, hP5.drewN n6, hf5.drewN n6, hg3.2, hvl', ho', HRD6.out, by simp; omega, by omega, fun h => (by cases h), fun _ => Or.inr ⟨rfl, ?_⟩⟩
              rw [← HROW.out, row_stop hb]; exact ⟨rfl, rfl⟩
            clear HROW HXE hP5 hf5 hg3 ho' hch2 HRD6 HRD5 hvl' hvl
            go_wp2_with fail
            go_roundg g1
            case measure => omega
            case rel => exact ⟨_, rfl, HN⟩
          · rw [hb] at hP5
            have hxy := HXE.out hb
            cases hm : (Pl.mk 44 (Pl.pPoly l2).2.1).1
            · have HN : Hid (RowIn 98 RdPoly Pl.pPoly pb tb cap s A T w g1 (.slice (some ⟨g, 0, none⟩) (acc.length + 1) cap') false (w5.drewN n6)) := by
                refine ⟨_, acc ++ [x4], false, _, hP5.drewN n6, hf5.drewN n6, hg3.2, hvl', ho', HRD6.out, by simp; omega, by omega, fun h => (by cases h), fun _ => Or.inl ⟨rfl, ?_⟩⟩
                rw [← HROW.out, row_end hb hm, hxy]
              clear HROW HXE hP5 hf5 hg3 ho' hch2 hxy HRD6 HRD5 hvl' hvl
              go_wp2_with fail
              go_roundg g1
              case measure => omega
              case rel => exact ⟨_, rfl, HN⟩
            · obtain ⟨t3, r3, hl3, hk3⟩ : ∃ t3 r3, (Pl.pPoly l2).2.1 = t3 :: r3 ∧ t3.k = 44 := mk_head hm
              rw [hl3] at hP5
              obtain ⟨c3, hc3, hbk3⟩ := hP5.box
              have hPn := (hP5.drewN n6).next (by omega) c3 hc3 hbk3
              have HN : Hid (RowIn 98 RdPoly Pl.pPoly pb tb cap s A T w g1 (.slice (some ⟨g, 0, none⟩) (acc.length + 1) cap') true ((w5.drewN n6).setCell ⟨pb, 1, none⟩ (.int .i64 ((c3.length : Int) + 1)))) := by
                have hch3 := hg3.2
                have hlt := (fun l h => (Pl.pPoly_lt l h).1) l2 hb
                have hle := HLEN.out
                rw [hl3] at hch3 hlt
                simp only [List.length_cons] at hlt
                refine ⟨r3, acc ++ [x4], false, _, hPn, (hf5.drewN n6).set 1 _, (Pl.Goes.tail hch3 (by omega)).2, hvl', own_kept ho' (fun k hk => heap_set_ne (fun e => own_elem (w := w5) ho' hbk3 (by decide) (by rw [hk, e])) _), ?_, by simp; omega, by omega, fun _ => ⟨rfl, ?_, by omega⟩, fun h => (by cases h)⟩
                · exact fun i u y hu hy => keeps_fp hKR (by decide) (HRD6.out i u y hu hy) ((Fp.refl pb _).set 1 _) (hP5.drewN n6)
                · rw [← HROW.out, row_more hb hm, hxy, hl3]
                  simp [Pl.mk, hk3]
              have b1 : (w5.drewN n6).cell? ⟨pb, 1, none⟩ = some (.int .i64 c3.length) := cell_of (w := w5.drewN n6) hbk3 1
              have g1' : (w5.drewN n6).frozen? ⟨pb, 1, none⟩ = false := frozen_of (w := w5.drewN n6) hbk3 1
              have hcl : c3.length ≤ 402 := by have h := congrArg List.length hc3; simp at h; omega
              clear HROW HXE hP5 hf5 hg3 ho' hch2 hxy hPn hc3 hbk3 hl3 HRD6 HRD5 hvl' hvl
              generalize w5.drewN n6 = w7 at *
              go_wp2_with fail
              go_roundg g1
              case measure => omega
              case rel => exact ⟨_, rfl, HN⟩
  · have hT := HT.out
    unfold Pl.pMulti at hT
    rw [if_pos hm] at hT
    subst hT
    clear HT
    go_wp2_with fail
    go_ret
    exact ⟨_, rfl, hP1, hf1, ⟨_, _, _, rfl⟩, [], ⟨[], rfl, World.ownsRow_nil _ _ _ _, fun i u x hu => (by simp at hu)⟩, fun _ => rfl⟩

end Go.Proofs.YtmfnlpmlmgjleaaGreatDoor
