import Derived.Test.YtkjhhooecopolaaGreatDoorPj22
namespace Go.Proofs.YtkjhhooecopolaaGreatDoor
open Go.RowKit

set_option maxRecDepth 100000 in
set_option maxHeartbeats 2000000 in
theorem mread_none (s : ByteArray) (w : World) (hs : s.size ≤ 400) (hw0 : (Pl.wd Pl.POLYGON (Pl.all s.data.toList)).1 = false) (hw : (Pl.wd Pl.MULTI (Pl.all s.data.toList)).1 = false) :
    Calls Tryz.prog 14 #[.string s] w fun e w' => Below w.heap.size w w' ∧ (Pl.err s.data.toList).1 ≠ 0 ∧ ∃ W so pn pc, e = .returned (.tuple #[.agg #[.string W, .slice so pn pc, .int .i64 0], .int .i64 (Pl.err s.data.toList).1, .int .i64 (Pl.err s.data.toList).2]) := by
  have hsz : s.data.toList.length = s.size := by simp
  have hAl : (Pl.all s.data.toList).length ≤ 402 := by have := Pl.all_length s.data.toList; omega
  have hA0 : 0 < (Pl.all s.data.toList).length := by
    obtain ⟨r, hr⟩ := all_head s.data.toList
    rw [hr]; simp
  have hchA := Pl.all_chain s.data.toList
  have hpw : Pl.pWhole (Pl.all s.data.toList) = (false, Pl.all s.data.toList, []) := by
    unfold Pl.pWhole; rw [if_neg (by rw [hw0]; simp), if_neg (by rw [hw]; simp)]
  have HPW : Hid (Pl.pWhole (Pl.all s.data.toList) = (false, Pl.all s.data.toList, [])) := hpw
  have HW0 : Hid ((Pl.wd Pl.POLYGON (Pl.all s.data.toList)).1 = false) := hw0
  have HHW : Hid ((Pl.wd Pl.MULTI (Pl.all s.data.toList)).1 = false) := hw
  obtain ⟨r, hr⟩ := all_head s.data.toList
  generalize Pl.tk s.data.toList 0 = t at hr
  have HER : Hid (Pl.err s.data.toList = (2, t.pl)) := by
    show _ = _
    rw [err_form (by omega) (by rw [hpw]; simp), hpw]
    simp only
    rw [hr]; rfl
  have HR : Hid (Pl.all s.data.toList = t :: r) := hr
  clear hpw hw hw0 hr
  go_enter Tryz.func14, Tryz.ntmps14
  go_wp2_with fail
  refine (rTokens_any s _ hs).mono ?_
  rintro e w1 ⟨v, rfl, hown, hb1⟩
  obtain ⟨tb, cap, rfl, htb, htb0, hfr⟩ := PS.fresh hA0 hown
  have hs1 := hb1.size
  simp at hs1 htb0
  go_wp2_with fail
  have hP1 := (hfr _ rfl).alloc (.cells #[.string ⟨#[]⟩, .slice none 0 0, .int .i64 0] 29)
  refine (rword_any w1.heap.size tb cap s.data.toList _ _ _ Pl.POLYGON hchA hP1 hAl).mono ?_
  rintro e w2' ⟨rfl, hP2', hf2'⟩
  rw [HW0.out]
  rw [wd_false HW0.out] at hP2'
  go_wp2_with fail
  refine (rword_any w1.heap.size tb cap s.data.toList _ _ _ Pl.MULTI hchA hP2' hAl).mono ?_
  rintro e w3 ⟨rfl, hP3, hf2''⟩
  have hf := hf2'.trans hf2''
  rw [HHW.out]
  rw [wd_false HHW.out] at hP3
  have hs3 := hf.size
  simp at hs3
  have hb0 : w3.heap[w.heap.size]? = some (.cells #[.string ⟨#[]⟩, .slice none 0 0, .int .i64 0] 29 (0, 0)) := by
    rw [hf.block w.heap.size (by simp; omega) (by omega), Below.heap_alloc _ _ _ (by simp; omega), Below.heap_alloc _ _ _ (by omega), hb1.block w.heap.size (by simp)]
    exact heap_alloc_new w _
  have hP3' := hP3
  rw [HR.out] at hP3'
  rw [← HR.out] at hP3'
  obtain ⟨c, hc, hbk⟩ := hP3.box
  have hc0 : c = [] := by
    have := congrArg List.length hc
    simp at this
    exact this
  subst hc0
  have hbel : Below w.heap.size w w3 := by
    have q1 : Below w.heap.size w w1 := ((Below.refl _ w).alloc (Nat.le_refl _) _).trans (hb1.mono (by simp))
    exact ((q1.alloc (by omega) (.cells #[.slice (some ⟨tb, 0, none⟩) (Pl.all s.data.toList).length cap, .int .i64 0, .bool false, .int .i64 (-1)] 55)).alloc (by simp; omega) (.cells #[.string ⟨#[]⟩, .slice none 0 0, .int .i64 0] 29)).trans (hf.below w.heap.size (by omega) (by simp; omega))
  have hb2c : w3.cell? ⟨w1.heap.size, 2, none⟩ = some (.bool false) := cell_of hbk 2
  have fb2c : w3.frozen? ⟨w1.heap.size, 2, none⟩ = false := frozen_of hbk 2
  have hPx : PS w1.heap.size tb cap (Pl.all s.data.toList) (t :: r) true (w3.setCell ⟨w1.heap.size, 2, none⟩ (.bool true)) := by
    have q := hP3.put (bad' := true) [] (l' := t :: r) (by rw [HR.out]; rfl) (fun k hk hne => heap_set_ne hne (.bool true)) (heap_set (o := 2) hbk (.bool true))
    exact q
  obtain ⟨c, hc, hbk2, e0, e1, e2, e3, hcl, htl⟩ := hPx.cells
  have hc0 : c = [] := by
    have := congrArg List.length hc
    rw [HR.out] at this
    simp at this
    exact this
  subst hc0
  have hbW : (w3.setCell ⟨w1.heap.size, 2, none⟩ (.bool true)).heap[w.heap.size]? = some (.cells #[.string ⟨#[]⟩, .slice none 0 0, .int .i64 0] 29 (0, 0)) := (heap_set_ne (by omega) _).trans hb0
  have hbelW := hbel.setCell (p := ⟨w1.heap.size, 2, none⟩) (by show w.heap.size ≤ w1.heap.size; omega) (.bool true)
  clear hP3 hP3' hf hf2' hf2'' hP2' hP1 hfr hown hPx hbk hb0 hbel
  go_wp2_with fail
  generalize w3.setCell ⟨w1.heap.size, 2, none⟩ (.bool true) = W at *
  have c0 : W.cell? ⟨w1.heap.size, 0, none⟩ = some (.slice (some ⟨tb, 0, none⟩) (Pl.all s.data.toList).length cap) := cell_of hbk2 0
  have c1 : W.cell? ⟨w1.heap.size, 1, none⟩ = some (.int .i64 0) := cell_of hbk2 1
  have c2 : W.cell? ⟨w1.heap.size, 2, none⟩ = some (.bool true) := cell_of hbk2 2
  have b0 : W.cell? ⟨w.heap.size, 0, none⟩ = some (.string ⟨#[]⟩) := cell_of hbW 0
  have b1 : W.cell? ⟨w.heap.size, 1, none⟩ = some (.slice none 0 0) := cell_of hbW 1
  have b2 : W.cell? ⟨w.heap.size, 2, none⟩ = some (.int .i64 0) := cell_of hbW 2
  have fb0 : W.frozen? ⟨w.heap.size, 0, none⟩ = false := frozen_of hbW 0
  have fb1 : W.frozen? ⟨w.heap.size, 1, none⟩ = false := frozen_of hbW 1
  have fb2 : W.frozen? ⟨w.heap.size, 2, none⟩ = false := frozen_of hbW 2
  have e3' : W.cell? ⟨tb, 3, none⟩ = some (.int .i64 t.pl) := by simpa using e3
  have hib : (0 : Int) < ((Pl.all s.data.toList).length : Int) := by omega
  have hin : 0 < (Pl.all s.data.toList).length := hA0
  have hne1 : w.heap.size ≠ w1.heap.size := by omega
  have hne2 : w.heap.size ≠ tb := by omega
  clear hbk2 hbW e0 e1 e2 e3
  generalize (Pl.all s.data.toList).length = al at *
  go_quiet (fail)
  go_wp2_with fail
  go_region_held3 (fun w' => w'.cell? ⟨w1.heap.size, 0, none⟩ = some (.slice (some ⟨tb, 0, none⟩) al cap) ∧ w'.cell? ⟨w1.heap.size, 1, none⟩ = some (.int .i64 0) ∧ w'.cell? ⟨tb, 3, none⟩ = some (.int .i64 t.pl)) (go_keep) (fail)
  go_wp2_with fail
  refine bodyPost_ret (v := .tuple #[.agg #[.string ⟨#[]⟩, .slice none 0 0, .int .i64 0], .int .i64 2, .int .i64 t.pl]) (by simp [results, Tryz.results14, go_sem, b0, b1, b2]) rfl ⟨?_, by rw [HER.out]; simp, _, _, _, _, by rw [HER.out]; rfl⟩
  exact (((below_dn hbelW (nq + 1)).setCell (Nat.le_refl _) _).setCell (Nat.le_refl _) _).setCell (Nat.le_refl _) _

end Go.Proofs.YtkjhhooecopolaaGreatDoor

namespace Go.Proofs.YtkjhhooecopolaaGreatDoor
open Go.RowKit

set_option maxRecDepth 100000 in
set_option maxHeartbeats 2000000 in
theorem mread_multi (s : ByteArray) (w : World) (hs : s.size ≤ 400) (hw0 : (Pl.wd Pl.POLYGON (Pl.all s.data.toList)).1 = false) (hw : (Pl.wd Pl.MULTI (Pl.all s.data.toList)).1 = true) :
    Calls Tryz.prog 14 #[.string s] w fun e w' => Below w.heap.size w w' ∧ ∃ W so pn pc, e = .returned (.tuple #[.agg #[.string W, .slice so pn pc, .int .i64 0], .int .i64 (Pl.err s.data.toList).1, .int .i64 (Pl.err s.data.toList).2]) ∧
      ((Pl.err s.data.toList).1 = 0 → W = ⟨Pl.MULTI.toArray⟩ ∧ RdMulti w' (.slice so pn pc) (Pl.pWhole (Pl.all s.data.toList)).2.2) := by
  have hsz : s.data.toList.length = s.size := by simp
  have hAl : (Pl.all s.data.toList).length ≤ 402 := by have := Pl.all_length s.data.toList; omega
  have hA0 : 0 < (Pl.all s.data.toList).length := by
    obtain ⟨r, hr⟩ := all_head s.data.toList
    rw [hr]; simp
  have hchA := Pl.all_chain s.data.toList
  have hg1 := Pl.wd_goes (q := Pl.MULTI) hchA
  have hl1 := Pl.wd_lt hw
  have hpw : Pl.pWhole (Pl.all s.data.toList) = Pl.pMulti (Pl.wd Pl.MULTI (Pl.all s.data.toList)).2 := by
    unfold Pl.pWhole; rw [if_neg (by rw [hw0]; simp), if_pos hw]
  have HPW : Hid (Pl.pWhole (Pl.all s.data.toList) = Pl.pMulti (Pl.wd Pl.MULTI (Pl.all s.data.toList)).2) := hpw
  have HW0 : Hid ((Pl.wd Pl.POLYGON (Pl.all s.data.toList)).1 = false) := hw0
  have HHW : Hid ((Pl.wd Pl.MULTI (Pl.all s.data.toList)).1 = true) := hw
  clear hpw hw hw0
  go_enter Tryz.func14, Tryz.ntmps14
  go_wp2_with fail
  refine (rTokens_any s _ hs).mono ?_
  rintro e w1 ⟨v, rfl, hown, hb1⟩
  obtain ⟨tb, cap, rfl, htb, htb0, hfr⟩ := PS.fresh hA0 hown
  have hs1 := hb1.size
  simp at hs1 htb0
  go_wp2_with fail
  have hP1 := (hfr _ rfl).alloc (.cells #[.string ⟨#[]⟩, .slice none 0 0, .int .i64 0] 29)
  refine (rword_any w1.heap.size tb cap s.data.toList _ _ _ Pl.POLYGON hchA hP1 hAl).mono ?_
  rintro e w2' ⟨rfl, hP2', hf2'⟩
  rw [HW0.out]
  rw [wd_false HW0.out] at hP2'
  go_wp2_with fail
  refine (rword_any w1.heap.size tb cap s.data.toList _ _ _ Pl.MULTI hchA hP2' hAl).mono ?_
  rintro e w2 ⟨rfl, hP2, hf2''⟩
  have hf2 := hf2'.trans hf2''
  rw [HHW.out]
  go_wp2_with fail
  refine (multi_it w1.heap.size tb cap s.data.toList _ _ _ hg1.2 hP2 hAl (by omega)).mono ?_
  rintro e w3 ⟨v3, rfl, hP3, hf3, ⟨so, n3, cc3, rfl⟩, x3, hx3, hxe⟩
  have hf := hf2.trans hf3
  have hs3 := hf.size
  simp at hs3
  have hhb : w3.heap[w1.heap.size + 1]? = some (.cells #[.string ⟨#[]⟩, .slice none 0 0, .int .i64 0] 29 (0, 0)) := by
    rw [hf.block (w1.heap.size + 1) (by simp) (by omega)]
    have := heap_alloc_new (w1.alloc (.cells #[.slice (some ⟨tb, 0, none⟩) (Pl.all s.data.toList).length cap, .int .i64 0, .bool false, .int .i64 (-1)] 55)) (.cells #[.string ⟨#[]⟩, .slice none 0 0, .int .i64 0] 29)
    simpa using this
  have hb0 : w3.heap[w.heap.size]? = some (.cells #[.string ⟨#[]⟩, .slice none 0 0, .int .i64 0] 29 (0, 0)) := by
    rw [hf.block w.heap.size (by simp; omega) (by omega), Below.heap_alloc _ _ _ (by simp; omega), Below.heap_alloc _ _ _ (by omega), hb1.block w.heap.size (by simp)]
    exact heap_alloc_new w _
  have h0 : w3.cell? ⟨w1.heap.size + 1, 0, none⟩ = some (.string ⟨#[]⟩) := cell_of hhb 0
  have h1 : w3.cell? ⟨w1.heap.size + 1, 1, none⟩ = some (.slice none 0 0) := cell_of hhb 1
  have h2 : w3.cell? ⟨w1.heap.size + 1, 2, none⟩ = some (.int .i64 0) := cell_of hhb 2
  have k0 : w3.frozen? ⟨w1.heap.size + 1, 0, none⟩ = false := frozen_of hhb 0
  have k1 : w3.frozen? ⟨w1.heap.size + 1, 1, none⟩ = false := frozen_of hhb 1
  have k2 : w3.frozen? ⟨w1.heap.size + 1, 2, none⟩ = false := frozen_of hhb 2
  have hlb : w1.heap.size + 1 < w3.heap.size := by omega
  have hxx : Hid ((Pl.pMulti (Pl.wd Pl.MULTI (Pl.all s.data.toList)).2).1 = true → x3 = (Pl.pMulti (Pl.wd Pl.MULTI (Pl.all s.data.toList)).2).2.2) := hxe
  clear hxe
  go_wp2_with fail
  have hPW : PS w1.heap.size tb cap (Pl.all s.data.toList) (Pl.pMulti (Pl.wd Pl.MULTI (Pl.all s.data.toList)).2).2.1 (!(Pl.pMulti (Pl.wd Pl.MULTI (Pl.all s.data.toList)).2).1) (((w3.setCell ⟨w1.heap.size + 1, 0, none⟩ (.string ⟨#[77, 85, 76, 84, 73, 80, 79, 76, 89, 71, 79, 78]⟩)).setCell ⟨w1.heap.size + 1, 1, none⟩ (.slice so n3 cc3)).setCell ⟨w1.heap.size + 1, 2, none⟩ (.int .i64 0)) :=
    hP3.at2 htb (fun k hk => (heap_set_ne (by omega) _).trans ((heap_set_ne (by omega) _).trans (heap_set_ne (by omega) _)))
  have hbW := ((heap_set_ne (b := w1.heap.size + 1) (o := 2) (by omega) (.int .i64 0)).trans ((heap_set_ne (b := w1.heap.size + 1) (o := 1) (by omega) (.slice so n3 cc3)).trans ((heap_set_ne (b := w1.heap.size + 1) (o := 0) (by omega) (.string ⟨#[77, 85, 76, 84, 73, 80, 79, 76, 89, 71, 79, 78]⟩)).trans hb0)))
  have hhW := (heap_set (o := 2) (heap_set (o := 1) (heap_set (o := 0) hhb (.string ⟨#[77, 85, 76, 84, 73, 80, 79, 76, 89, 71, 79, 78]⟩)) (.slice so n3 cc3)) (.int .i64 0))
  have hbel : Below w.heap.size w (((w3.setCell ⟨w1.heap.size + 1, 0, none⟩ (.string ⟨#[77, 85, 76, 84, 73, 80, 79, 76, 89, 71, 79, 78]⟩)).setCell ⟨w1.heap.size + 1, 1, none⟩ (.slice so n3 cc3)).setCell ⟨w1.heap.size + 1, 2, none⟩ (.int .i64 0)) := by
    have q1 : Below w.heap.size w w1 := ((Below.refl _ w).alloc (Nat.le_refl _) _).trans (hb1.mono (by simp))
    have q2 := ((q1.alloc (by omega) (.cells #[.slice (some ⟨tb, 0, none⟩) (Pl.all s.data.toList).length cap, .int .i64 0, .bool false, .int .i64 (-1)] 55)).alloc (by simp; omega) (.cells #[.string ⟨#[]⟩, .slice none 0 0, .int .i64 0] 29)).trans (hf.below w.heap.size (by omega) (by simp; omega))
    exact ((q2.setCell (by show w.heap.size ≤ w1.heap.size + 1; omega) _).setCell (by show w.heap.size ≤ w1.heap.size + 1; omega) _).setCell (by show w.heap.size ≤ w1.heap.size + 1; omega) _
  have hrdW : Hid (RdMulti (((w3.setCell ⟨w1.heap.size + 1, 0, none⟩ (.string ⟨#[77, 85, 76, 84, 73, 80, 79, 76, 89, 71, 79, 78]⟩)).setCell ⟨w1.heap.size + 1, 1, none⟩ (.slice so n3 cc3)).setCell ⟨w1.heap.size + 1, 2, none⟩ (.int .i64 0)) (.slice so n3 cc3) x3) := by
    refine keeps_multi _ _ _ _ hx3 fun k cur e hc he => ?_
    have hkb : k ≠ w1.heap.size + 1 := fun ek => by
      rw [ek, hhb] at hc
      injection hc with hc
      injection hc with _ hc _
      rw [← hc] at he
      simp at he
    exact (heap_set_ne hkb _).trans ((heap_set_ne hkb _).trans (heap_set_ne hkb _))
  have hPW' := hPW
  rw [show (Pl.pMulti (Pl.wd Pl.MULTI (Pl.all s.data.toList)).2).2.1 = (Pl.pWhole (Pl.all s.data.toList)).2.1 from by rw [HPW.out], show (Pl.pMulti (Pl.wd Pl.MULTI (Pl.all s.data.toList)).2).1 = (Pl.pWhole (Pl.all s.data.toList)).1 from by rw [HPW.out]] at hPW'
  have hxv : Hid ((Pl.pWhole (Pl.all s.data.toList)).1 = true → x3 = (Pl.pWhole (Pl.all s.data.toList)).2.2) := fun h => by
    have h' := h
    rw [HPW.out] at h' ⊢
    exact hxx.out h'
  clear hPW h0 h1 h2 k0 k1 k2 hhb hb0 hx3 hP3 hf3 hf hP2 hf2 hP1 hfr hown
  generalize ((w3.setCell ⟨w1.heap.size + 1, 0, none⟩ (.string ⟨#[77, 85, 76, 84, 73, 80, 79, 76, 89, 71, 79, 78]⟩)).setCell ⟨w1.heap.size + 1, 1, none⟩ (.slice so n3 cc3)).setCell ⟨w1.heap.size + 1, 2, none⟩ (.int .i64 0) = W at *
  obtain ⟨t, r, hlr⟩ : ∃ t r, (Pl.pWhole (Pl.all s.data.toList)).2.1 = t :: r := by
    have hg := (Pl.pWhole_goes _ hchA).2
    cases hq : (Pl.pWhole (Pl.all s.data.toList)).2.1 with
    | nil => rw [hq] at hg; exact hg.elim
    | cons t r => exact ⟨t, r, rfl⟩
  have hbk := hPW'.took
  have hPc := hPW'
  rw [hlr] at hPc
  obtain ⟨c, hc, _, e0, e1, e2, e3, hcl, htl⟩ := hPc.cells
  have hcc : c = Pl.took s.data.toList := List.append_cancel_right (hc.trans (by rw [← hlr]; exact (Pl.took_append s.data.toList).symm))
  subst hcc
  have c0 : W.cell? ⟨w1.heap.size, 0, none⟩ = some (.slice (some ⟨tb, 0, none⟩) (Pl.all s.data.toList).length cap) := cell_of hbk 0
  have c1 : W.cell? ⟨w1.heap.size, 1, none⟩ = some (.int .i64 (Pl.took s.data.toList).length) := cell_of hbk 1
  have c2 : W.cell? ⟨w1.heap.size, 2, none⟩ = some (.bool (!(Pl.pWhole (Pl.all s.data.toList)).1)) := cell_of hbk 2
  have c3 : W.cell? ⟨w1.heap.size, 3, none⟩ = some (.int .i64 (outOf (Pl.took s.data.toList))) := cell_of hbk 3
  have b0 : W.cell? ⟨w.heap.size, 0, none⟩ = some (.string ⟨#[]⟩) := cell_of hbW 0
  have b1 : W.cell? ⟨w.heap.size, 1, none⟩ = some (.slice none 0 0) := cell_of hbW 1
  have b2 : W.cell? ⟨w.heap.size, 2, none⟩ = some (.int .i64 0) := cell_of hbW 2
  have fb0 : W.frozen? ⟨w.heap.size, 0, none⟩ = false := frozen_of hbW 0
  have fb1 : W.frozen? ⟨w.heap.size, 1, none⟩ = false := frozen_of hbW 1
  have fb2 : W.frozen? ⟨w.heap.size, 2, none⟩ = false := frozen_of hbW 2
  have x0 : W.cell? ⟨w1.heap.size + 1, 0, none⟩ = some (.string ⟨#[77, 85, 76, 84, 73, 80, 79, 76, 89, 71, 79, 78]⟩) := cell_of hhW 0
  have x1 : W.cell? ⟨w1.heap.size + 1, 1, none⟩ = some (.slice so n3 cc3) := cell_of hhW 1
  have x2 : W.cell? ⟨w1.heap.size + 1, 2, none⟩ = some (.int .i64 0) := cell_of hhW 2
  have hib : ((Pl.took s.data.toList).length : Int) < ((Pl.all s.data.toList).length : Int) := by omega
  have hin : (Pl.took s.data.toList).length < (Pl.all s.data.toList).length := hcl
  have hne1 : w.heap.size ≠ w1.heap.size := by omega
  have hne2 : w.heap.size ≠ tb := by omega
  have HEF : Hid (¬ ((Pl.pWhole (Pl.all s.data.toList)).1 = true ∧ Pl.hk (Pl.pWhole (Pl.all s.data.toList)).2.1 = 101) → Pl.err s.data.toList = (2, Pl.hpl (Pl.pWhole (Pl.all s.data.toList)).2.1)) := err_form (by omega)
  have HEO : Hid ((Pl.pWhole (Pl.all s.data.toList)).1 = true ∧ Pl.hk (Pl.pWhole (Pl.all s.data.toList)).2.1 = 101 → (0 ≤ outOf (Pl.took s.data.toList) → ((Pl.err s.data.toList).1 = 3 ∧ ((Pl.err s.data.toList).2 : Int) = outOf (Pl.took s.data.toList))) ∧ (outOf (Pl.took s.data.toList) < 0 → Pl.err s.data.toList = (0, 0))) := fun h => err_out (by omega) h
  rw [hlr] at HEF HEO
  clear hbk hPc hPW' hc hlr hhW
  generalize outOf (Pl.took s.data.toList) = oc at *
  generalize (Pl.took s.data.toList).length = tl at *
  generalize (Pl.all s.data.toList).length = al at *
  cases hb : (Pl.pWhole (Pl.all s.data.toList)).1
  · rw [hb] at c2 HEF
    have HER : Hid (Pl.err s.data.toList = (2, t.pl)) := HEF.out (fun h => by cases h.1)
    clear HEF HEO
    go_wp2_with fail
    go_quiet (fail)
    go_wp2_with fail
    go_region_held3 (fun w' => w'.cell? ⟨w1.heap.size, 0, none⟩ = some (.slice (some ⟨tb, 0, none⟩) al cap) ∧ w'.cell? ⟨w1.heap.size, 1, none⟩ = some (.int .i64 tl) ∧ w'.cell? ⟨tb, tl * 4 + 3, none⟩ = some (.int .i64 t.pl)) (go_keep) (fail)
    go_wp2_with fail
    refine bodyPost_ret (v := .tuple #[.agg #[.string ⟨#[]⟩, .slice none 0 0, .int .i64 0], .int .i64 2, .int .i64 t.pl]) (by simp [results, Tryz.results14, go_sem, b0, b1, b2]) rfl ⟨?_, _, _, _, _, by rw [HER.out]; rfl, fun h => by rw [HER.out] at h; cases h⟩
    exact (((below_dn hbel (nq + 1)).setCell (Nat.le_refl _) _).setCell (Nat.le_refl _) _).setCell (Nat.le_refl _) _
  · rw [hb] at c2 HEF HEO
    by_cases ht : t.k = 101
    · obtain ⟨ho1, ho2⟩ := HEO.out ⟨rfl, ht⟩
      have HO1 : Hid (0 ≤ oc → ((Pl.err s.data.toList).1 = 3 ∧ ((Pl.err s.data.toList).2 : Int) = oc)) := ho1
      have HO2 : Hid (oc < 0 → Pl.err s.data.toList = (0, 0)) := ho2
      rw [ht] at e0
      clear HEF HEO ho1 ho2
      by_cases hoc : 0 ≤ oc
      · obtain ⟨h3, h4⟩ := HO1.out hoc
        have H3 : Hid ((Pl.err s.data.toList).1 = 3) := h3
        have H4 : Hid (((Pl.err s.data.toList).2 : Int) = oc) := h4
        clear h3 h4 HO1 HO2
        go_wp2_with fail
        go_quiet (fail)
        go_wp2_with fail
        go_region_held3 (fun w' => w'.cell? ⟨w1.heap.size, 3, none⟩ = some (.int .i64 oc)) (go_keep) (fail)
        go_wp2_with fail
        refine bodyPost_ret (v := .tuple #[.agg #[.string ⟨#[]⟩, .slice none 0 0, .int .i64 0], .int .i64 3, .int .i64 oc]) (by simp [results, Tryz.results14, go_sem, b0, b1, b2]) rfl ⟨?_, _, _, _, _, by rw [H3.out, H4.out]; rfl, fun h => by rw [H3.out] at h; cases h⟩
        exact (((below_dn hbel (nq + 1)).setCell (Nat.le_refl _) _).setCell (Nat.le_refl _) _).setCell (Nat.le_refl _) _
      · have HER : Hid (Pl.err s.data.toList = (0, 0)) := HO2.out (by omega)
        clear HO1 HO2
        go_wp2_with fail
        go_quiet (fail)
        go_wp2_with fail
        refine bodyPost_ret (v := .tuple #[.agg #[.string ⟨#[77, 85, 76, 84, 73, 80, 79, 76, 89, 71, 79, 78]⟩, .slice so n3 cc3, .int .i64 0], .int .i64 0, .int .i64 0]) (by simp [results, Tryz.results14, go_sem, b0, b1, b2]) rfl ⟨?_, _, _, _, _, by rw [HER.out]; rfl, fun _ => ⟨rfl, ?_⟩⟩
        · exact (((below_dn hbel nq).setCell (Nat.le_refl _) _).setCell (Nat.le_refl _) _).setCell (Nat.le_refl _) _
        · rw [← hxv.out hb]
          refine keeps_multi _ _ _ _ hrdW.out fun k cur e hcx he => ?_
          have hkb : k ≠ w.heap.size := fun ek => by
            rw [ek, hbW] at hcx
            injection hcx with hcx
            injection hcx with _ hcx _
            rw [← hcx] at he
            simp at he
          exact (heap_set_ne hkb _).trans ((heap_set_ne hkb _).trans (heap_set_ne hkb _))
    · have HER : Hid (Pl.err s.data.toList = (2, t.pl)) := HEF.out (fun h => ht h.2)
      have htk : ((t.k : Int) != 101) = true := by rw [bne_iff_ne]; omega
      clear HEF HEO
      go_wp2_with fail
      go_quiet (fail)
      go_wp2_with fail
      go_region_held3 (fun w' => w'.cell? ⟨w1.heap.size, 0, none⟩ = some (.slice (some ⟨tb, 0, none⟩) al cap) ∧ w'.cell? ⟨w1.heap.size, 1, none⟩ = some (.int .i64 tl) ∧ w'.cell? ⟨tb, tl * 4 + 3, none⟩ = some (.int .i64 t.pl)) (go_keep) (fail)
      go_wp2_with fail
      refine bodyPost_ret (v := .tuple #[.agg #[.string ⟨#[]⟩, .slice none 0 0, .int .i64 0], .int .i64 2, .int .i64 t.pl]) (by simp [results, Tryz.results14, go_sem, b0, b1, b2]) rfl ⟨?_, _, _, _, _, by rw [HER.out]; rfl, fun h => by rw [HER.out] at h; cases h⟩
      exact (((below_dn hbel (nq + 1)).setCell (Nat.le_refl _) _).setCell (Nat.le_refl _) _).setCell (Nat.le_refl _) _

end Go.Proofs.YtkjhhooecopolaaGreatDoor
