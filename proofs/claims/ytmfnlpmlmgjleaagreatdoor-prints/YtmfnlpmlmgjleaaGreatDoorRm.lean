import Derived.Test.YtmfnlpmlmgjleaaGreatDoorRk
namespace Go.Proofs.YtmfnlpmlmgjleaaGreatDoor
open Go.RowKit

set_option maxRecDepth 100000 in
set_option maxHeartbeats 2000000 in
theorem mread_none (s : ByteArray) (w : World) (hs : s.size ≤ 400) (hw0 : (Pl.wd Pl.POLYGON (Pl.all s.data.toList)).1 = false) (hw : (Pl.wd Pl.MULTI (Pl.all s.data.toList)).1 = false) :
    Calls Tryz.prog 17 #[.string s] w fun e w' => Below w.heap.size w w' ∧ (Pl.err s.data.toList).1 ≠ 0 ∧ ∃ W so pn pc, e = .returned (.tuple #[.agg #[.string W, .slice so pn pc, .int .i64 0], .int .i64 (Pl.err s.data.toList).1, .int .i64 (Pl.err s.data.toList).2]) := by
  have hsz : s.data.toList.length = s.size := by simp
  have hAl : (Pl.all s.data.toList).length ≤ 402 := by have := Pl.all_length s.data.toList; omega
  have hA0 : 0 < (Pl.all s.data.toList).length := by
    obtain ⟨r, hr⟩ := all_head s.data.toList
    rw [hr]; simp
  have hchA := Pl.all_chain s.data.toList
  have hpw : Pl.pWhole (Pl.all s.data.toList) = (false, Pl.all s.data.toList, []) := by
    unfold Pl.pWhole; rw [if_neg (by rw [hw0]; simp), if_neg (by rw [hw]; simp)]
  have HPW : Hid (Pl.pWhole (Pl.all s.data.toList) = (false, Pl.all s.data.toList, [])) := hpw
  have HW0 : Hid ((Pl.wd Pl.POLYGON (Pl.all s.data.toList)).1 = false) := hw0
  have HHW : Hid ((Pl.wd Pl.MULTI (Pl.all s.data.toList)).1 = false) := hw
  obtain ⟨r, hr⟩ := all_head s.data.toList
  generalize Pl.tk s.data.toList 0 = t at hr
  have HER : Hid (Pl.err s.data.toList = (2, t.pl)) := by
    show _ = _
    rw [err_form (by omega) (by rw [hpw]; simp), hpw]
    simp only
    rw [hr]; rfl
  have HR : Hid (Pl.all s.data.toList = t :: r) := hr
  clear hpw hw hw0 hr
  go_enter Tryz.func17, Tryz.ntmps17
  go_wp2_with fail
  refine (rTokens_any s _ hs).mono ?_
  rintro e w1 ⟨v, rfl, hown, hb1⟩
  obtain ⟨tb, cap, rfl, htb, htb0, hfr⟩ := PS.fresh hA0 hown
  have hs1 := hb1.size
  simp at hs1 htb0
  go_wp2_with fail
  have hP1 := (hfr _ rfl).alloc (.cells #[.string ⟨#[]⟩, .slice none 0 0, .int .i64 0] 43)
  refine (rword_any w1.heap.size tb cap s.data.toList _ _ _ Pl.POLYGON hchA hP1 hAl).mono ?_
  rintro e w2' ⟨rfl, hP2', hf2'⟩
  rw [HW0.out]
  rw [wd_false HW0.out] at hP2'
  go_wp2_with fail
  refine (rword_any w1.heap.size tb cap s.data.toList _ _ _ Pl.MULTI hchA hP2' hAl).mono ?_
  rintro e w3 ⟨rfl, hP3, hf2''⟩
  have hf := hf2'.trans hf2''
  rw [HHW.out]
  rw [wd_false HHW.out] at hP3
  have hs3 := hf.size
  simp at hs3
  have hb0 : w3.heap[w.heap.size]? = some (.cells #[.string ⟨#[]⟩, .slice none 0 0, .int .i64 0] 43 (0, 0)) := by
    rw [hf.block w.heap.size (by simp; omega) (by omega), Below.heap_alloc _ _ _ (by simp; omega), Below.heap_alloc _ _ _ (by omega), hb1.block w.heap.size (by simp)]
    exact heap_alloc_new w _
  have hP3' := hP3
  rw [HR.out] at hP3'
  rw [← HR.out] at hP3'
  obtain ⟨c, hc, hbk⟩ := hP3.box
  have hc0 : c = [] := by
    have := congrArg List.length hc
    simp at this
    exact this
  subst hc0
  have hbel : Below w.heap.size w w3 := by
    have q1 : Below w.heap.size w w1 := ((Below.refl _ w).alloc (Nat.le_refl _) _).trans (hb1.mono (by simp))
    exact ((q1.alloc (by omega) (.cells #[.slice (some ⟨tb, 0, none⟩) (Pl.all s.data.toList).length cap, .int .i64 0, .bool false, .int .i64 (-1)] 96)).alloc (by simp; omega) (.cells #[.string ⟨#[]⟩, .slice none 0 0, .int .i64 0] 43)).trans (hf.below w.heap.size (by omega) (by simp; omega))
  have hb2c : w3.cell? ⟨w1.heap.size, 2, none⟩ = some (.bool false) := cell_of hbk 2
  have fb2c : w3.frozen? ⟨w1.heap.size, 2, none⟩ = false := frozen_of hbk 2
  have hPx : PS w1.heap.size tb cap (Pl.all s.data.toList) (t :: r) true (w3.setCell ⟨w1.heap.size, 2, none⟩ (.bool true)) := by
    have q := hP3.put (bad' := true) [] (l' := t :: r) (by rw [HR.out]; rfl) (fun k hk hne => heap_set_ne hne (.bool true)) (heap_set (o := 2) hbk (.bool true))
    exact q
  obtain ⟨c, hc, hbk2, e0, e1, e2, e3, hcl, htl⟩ := hPx.cells
  have hc0 : c = [] := by
    have := congrArg List.length hc
    rw [HR.out] at this
    simp at this
    exact this
  subst hc0
  have hbW : (w3.setCell ⟨w1.heap.size, 2, none⟩ (.bool true)).heap[w.heap.size]? = some (.cells #[.string ⟨#[]⟩, .slice none 0 0, .int .i64 0] 43 (0, 0)) := (heap_set_ne (by omega) _).trans hb0
  have hbelW := hbel.setCell (p := ⟨w1.heap.size, 2, none⟩) (by show w.heap.size ≤ w1.heap.size; omega) (.bool true)
  clear hP3 hP3' hf hf2' hf2'' hP2' hP1 hfr hown hPx hbk hb0 hbel
  go_wp2_with fail
  generalize w3.setCell ⟨w1.heap.size, 2, none⟩ (.bool true) = W at *
  have c0 : W.cell? ⟨w1.heap.size, 0, none⟩ = some (.slice (some ⟨tb, 0, none⟩) (Pl.all s.data.toList).length cap) := cell_of hbk2 0
  have c1 : W.cell? ⟨w1.heap.size, 1, none⟩ = some (.int .i64 0) := cell_of hbk2 1
  have c2 : W.cell? ⟨w1.heap.size, 2, none⟩ = some (.bool true) := cell_of hbk2 2
  have b0 : W.cell? ⟨w.heap.size, 0, none⟩ = some (.string ⟨#[]⟩) := cell_of hbW 0
  have b1 : W.cell? ⟨w.heap.size, 1, none⟩ = some (.slice none 0 0) := cell_of hbW 1
  have b2 : W.cell? ⟨w.heap.size, 2, none⟩ = some (.int .i64 0) := cell_of hbW 2
  have fb0 : W.frozen? ⟨w.heap.size, 0, none⟩ = false := frozen_of hbW 0
  have fb1 : W.frozen? ⟨w.heap.size, 1, none⟩ = false := frozen_of hbW 1
  have fb2 : W.frozen? ⟨w.heap.size, 2, none⟩ = false := frozen_of hbW 2
  have e3' : W.cell? ⟨tb, 3, none⟩ = some (.int .i64 t.pl) := by simpa using e3
  have hib : (0 : Int) < ((Pl.all s.data.toList).length : Int) := by omega
  have hin : 0 < (Pl.all s.data.toList).length := hA0
  have hne1 : w.heap.size ≠ w1.heap.size := by omega
  have hne2 : w.heap.size ≠ tb := by omega
  clear hbk2 hbW e0 e1 e2 e3
  generalize (Pl.all s.data.toList).length = al at *
  go_quiet (fail)
  go_wp2_with fail
  go_region_held3 (fun w' => w'.cell? ⟨w1.heap.size, 0, none⟩ = some (.slice (some ⟨tb, 0, none⟩) al cap) ∧ w'.cell? ⟨w1.heap.size, 1, none⟩ = some (.int .i64 0) ∧ w'.cell? ⟨tb, 3, none⟩ = some (.int .i64 t.pl)) (go_keep) (fail)
  go_wp2_with fail
  refine bodyPost_ret (v := .tuple #[.agg #[.string ⟨#[]⟩, .slice none 0 0, .int .i64 0], .int .i64 2, .int .i64 t.pl]) (by simp [results, Tryz.results17, go_sem, b0, b1, b2]) rfl ⟨?_, by rw [HER.out]; simp, _, _, _, _, by rw [HER.out]; rfl⟩
  exact (((below_dn hbelW (nq + 1)).setCell (Nat.le_refl _) _).setCell (Nat.le_refl _) _).setCell (Nat.le_refl _) _

end Go.Proofs.YtmfnlpmlmgjleaaGreatDoor
