import Derived.Test.YtkjhhooecopolaaGreatDoorSgqK
import Derived.Test.YtkjhhooecopolaaGreatDoorKj25
import Derived.Test.YtkjhhooecopolaaGreatDoorKj16
import Derived.Test.YtkjhhooecopolaaGreatDoorKj23
import Derived.Test.YtkjhhooecopolaaGreatDoorThqK
import Derived.Test.YtkjhhooecopolaaGreatDoorKj14
namespace Go.Proofs.YtkjhhooecopolaaGreatDoor
open Go.RowKit

namespace Pl
/-- The rings of a good text. -/
def rings (s : List UInt8) : List (List (Int × Int)) := (pWhole (all s)).2.2.flatten
def badPt (x y d : Int) : Bool := decide (d < 1) || decide (d > 60) || decide (x < -100000) || decide (x > 100000) || decide (y < -100000) || decide (y > 100000)
/-- What Wind answers. -/
def wind (s : List UInt8) (x y d : Int) : Int × Bool × Nat × Nat :=
  if (err s).1 = 0 then
    if badPt x y d then (0, false, 5, 0)
    else if (Ge.allEdges (rings s)).any (Ge.fo (x, y) d) then (0, true, 0, 0)
    else (Ge.total (Ge.fu (x, y) d) (Ge.allEdges (rings s)), false, 0, 0)
  else (0, false, err s)
def windV (r : Int × Bool × Nat × Nat) : Value := .tuple #[.int .i64 r.1, .bool r.2.1, .int .i64 r.2.2.1, .int .i64 r.2.2.2]
end Pl

theorem flat_small {ps : List (List (List (Int × Int)))} (hok : okMulti ps) : ∀ e ∈ Ge.allEdges ps.flatten, smallE e := fun e he => by
  obtain ⟨g, hg, h1, h2⟩ := Ge.all_mem he
  obtain ⟨p, hp, hgp⟩ := List.mem_flatten.1 hg
  have ho := ((hok.2 p hp).2 g hgp).1
  exact ⟨(ho _ h1).1, (ho _ h1).2, (ho _ h2).1, (ho _ h2).2⟩

theorem flat_len {ps : List (List (List (Int × Int)))} (hok : okMulti ps) : (Ge.allEdges ps.flatten).length ≤ 65000000 := by
  have h := Ge.flat_le 402 402 ps (fun p hp => ⟨(hok.2 p hp).1, fun g hg => ((hok.2 p hp).2 g hg).2⟩)
  have := hok.1
  omega

theorem ptOf {x y d : Int} (h : Pl.badPt x y d = false) : PtOf (frN x d) (frD x d) (frN y d) (frD y d) x y d := by
  unfold Pl.badPt at h
  simp only [Bool.or_eq_false_iff, decide_eq_false_iff_not] at h
  obtain ⟨⟨⟨⟨⟨h1, h2⟩, h3⟩, h4⟩, h5⟩, h6⟩ := h
  have hd : d ≠ 0 := by omega
  have a1 := fr_le (frN_eq x d) (gcd_pos hd)
  have a2 := fr_le (frD_eq x d) (gcd_pos hd)
  have a3 := fr_le (frN_eq y d) (gcd_pos hd)
  have a4 := fr_le (frD_eq y d) (gcd_pos hd)
  have b1 := frD_pos (n := x) (d := d) (by omega)
  have b2 := frD_pos (n := y) (d := d) (by omega)
  have g1 := gcd_pos (n := x) hd
  have g2 := gcd_pos (n := y) hd
  exact ⟨⟨by omega, by omega, by omega, by omega⟩, ⟨_, by omega, frN_eq x d, frD_eq x d⟩, ⟨_, by omega, frN_eq y d, frD_eq y d⟩⟩

theorem rdMulti_of {s : ByteArray} {w' : World} {W : ByteArray} {so : Option Addr} {pn pc : Nat} (h : (Pl.err s.data.toList).1 = 0)
    (hr : ((Pl.err s.data.toList).1 = 0 → ((∃ gs, (Pl.pWhole (Pl.all s.data.toList)).2.2 = [gs] ∧ W = ⟨Pl.POLYGON.toArray⟩ ∧ RdMulti w' (.slice so pn pc) [gs] ∧ okPoly gs ∧ Pl.ptext s.data.toList = Pl.POLYGON ++ ([32] ++ Pl.polyT gs)) ∨
        (W = ⟨Pl.MULTI.toArray⟩ ∧ RdMulti w' (.slice so pn pc) (Pl.pWhole (Pl.all s.data.toList)).2.2 ∧ okMulti (Pl.pWhole (Pl.all s.data.toList)).2.2 ∧ Pl.ptext s.data.toList = Pl.bodyT (Pl.pWhole (Pl.all s.data.toList)).2.2)))) :
    RdMulti w' (.slice so pn pc) (Pl.pWhole (Pl.all s.data.toList)).2.2 ∧ okMulti (Pl.pWhole (Pl.all s.data.toList)).2.2 := by
  rcases hr h with ⟨gs, e, _, h1, h2, _⟩ | ⟨_, h1, h2, _⟩
  · rw [e]
    exact ⟨h1, by simp, fun g hg => by rw [List.mem_singleton.1 hg]; exact h2⟩
  · exact ⟨h1, h2⟩

set_option maxRecDepth 100000 in
set_option maxHeartbeats 4000000 in
theorem rwind_any (s : ByteArray) (x y d : Int) (w : World) (hm : s.size ≤ maxLen) :
    Calls Tryz.prog 54 #[.string s, .int .i64 x, .int .i64 y, .int .i64 d] w fun e w' => e = .returned (Pl.windV (Pl.wind s.data.toList x y d)) ∧ Below w.heap.size w w' := by
  have HR : Hid (∀ w1, Calls Tryz.prog 14 #[.string s] w1 fun e w' => Below w1.heap.size w1 w' ∧ ∃ W so pn pc, e = .returned (.tuple #[.agg #[.string W, .slice so pn pc, .int .i64 0], .int .i64 (Pl.err s.data.toList).1, .int .i64 (Pl.err s.data.toList).2]) ∧
      ((Pl.err s.data.toList).1 = 0 → RdMulti w' (.slice so pn pc) (Pl.pWhole (Pl.all s.data.toList)).2.2 ∧ okMulti (Pl.pWhole (Pl.all s.data.toList)).2.2)) := fun w1 => by
    refine (mread_any s w1 hm).mono ?_
    rintro e w' ⟨hb, W, so, pn, pc, rfl, hr⟩
    exact ⟨hb, W, so, pn, pc, rfl, fun h => rdMulti_of h hr⟩
  by_cases h0 : (Pl.err s.data.toList).1 = 0
  · have he2 := (err_zero h0).2.1
    have hwd : Pl.wind s.data.toList x y d = if Pl.badPt x y d then (0, false, 5, 0)
        else if (Ge.allEdges (Pl.rings s.data.toList)).any (Ge.fo (x, y) d) then (0, true, 0, 0)
        else (Ge.total (Ge.fu (x, y) d) (Ge.allEdges (Pl.rings s.data.toList)), false, 0, 0) := if_pos h0
    rw [hwd]
    clear hwd
    have HR2 : Hid (∀ w1, Calls Tryz.prog 14 #[.string s] w1 fun e w' => Below w1.heap.size w1 w' ∧ ∃ W so pn pc, e = .returned (.tuple #[.agg #[.string W, .slice so pn pc, .int .i64 0], .int .i64 0, .int .i64 0]) ∧
        RdMulti w' (.slice so pn pc) (Pl.pWhole (Pl.all s.data.toList)).2.2 ∧ okMulti (Pl.pWhole (Pl.all s.data.toList)).2.2) := fun w1 => by
      refine (HR.out w1).mono ?_
      rintro e w' ⟨hb, W, so, pn, pc, rfl, hr⟩
      exact ⟨hb, W, so, pn, pc, by rw [h0, he2]; rfl, hr h0⟩
    have HRG : Hid (Pl.rings s.data.toList = (Pl.pWhole (Pl.all s.data.toList)).2.2.flatten) := rfl
    generalize (Pl.pWhole (Pl.all s.data.toList)).2.2 = PS at *
    generalize Pl.rings s.data.toList = RG at *
    clear HR he2 h0
    rcases (show d < 1 ∨ (¬ d < 1 ∧ 60 < d) ∨ (¬ d < 1 ∧ ¬ 60 < d ∧ x < -100000) ∨ (¬ d < 1 ∧ ¬ 60 < d ∧ ¬ x < -100000 ∧ 100000 < x) ∨ (¬ d < 1 ∧ ¬ 60 < d ∧ ¬ x < -100000 ∧ ¬ 100000 < x ∧ y < -100000) ∨ (¬ d < 1 ∧ ¬ 60 < d ∧ ¬ x < -100000 ∧ ¬ 100000 < x ∧ ¬ y < -100000 ∧ 100000 < y) ∨ (¬ d < 1 ∧ ¬ 60 < d ∧ ¬ x < -100000 ∧ ¬ 100000 < x ∧ ¬ y < -100000 ∧ ¬ 100000 < y) by omega) with h1 | ⟨h1, h2⟩ | ⟨h1, h2, h3⟩ | ⟨h1, h2, h3, h4⟩ | ⟨h1, h2, h3, h4, h5⟩ | ⟨h1, h2, h3, h4, h5, h6⟩ | ⟨h1, h2, h3, h4, h5, h6⟩
    rotate_left 6
    · have hbad : Pl.badPt x y d = false := by
        unfold Pl.badPt
        simp only [Bool.or_eq_false_iff, decide_eq_false_iff_not]
        omega
      have HPT : Hid (PtOf (frN x d) (frD x d) (frN y d) (frD y d) x y d) := ptOf hbad
      rw [hbad]
      have HF1 : Hid (∀ w1, Calls Tryz.prog 46 #[.int .i64 x, .int .i64 d] w1 fun e w' => e = .returned (.agg #[.int .i64 (frN x d), .int .i64 (frD x d)]) ∧ Below w1.heap.size w1 w') := fun w1 => frac_loop x d w1 _ rfl (by omega) (by omega) (by omega) (by
        by_cases hx : x < 0
        · exact Or.inl ⟨decide_eq_true hx, by omega⟩
        · exact Or.inr ⟨decide_eq_false hx, by omega⟩)
      have HF2 : Hid (∀ w1, Calls Tryz.prog 46 #[.int .i64 y, .int .i64 d] w1 fun e w' => e = .returned (.agg #[.int .i64 (frN y d), .int .i64 (frD y d)]) ∧ Below w1.heap.size w1 w') := fun w1 => frac_loop y d w1 _ rfl (by omega) (by omega) (by omega) (by
        by_cases hx : y < 0
        · exact Or.inl ⟨decide_eq_true hx, by omega⟩
        · exact Or.inr ⟨decide_eq_false hx, by omega⟩)
      generalize frN x d = XN at *
      generalize frD x d = XD at *
      generalize frN y d = YN at *
      generalize frD y d = YD at *
      simp only [Bool.false_eq_true, if_false]
      clear hbad
      obtain ⟨ES, hES⟩ : ∃ ES, ES = Ge.allEdges PS.flatten := ⟨_, rfl⟩
      rw [HRG.out, ← hES]
      have HES : Hid (ES = Ge.allEdges PS.flatten) := hES
      clear HRG hES
      go_enter Tryz.func54, Tryz.ntmps54
      go_wp2_with fail
      refine (HR2.out _).mono ?_
      rintro e w1 ⟨hb1, W, so, pn, pc, rfl, hrd, hok⟩
      have HRD : Hid (RdMulti w1 (.slice so pn pc) PS ∧ okMulti PS) := ⟨hrd, hok⟩
      clear hrd hok
      have hSB := heap_alloc_new w1 (.cells #[.string W, .slice so pn pc, .int .i64 0] 29)
      have hbA : Below w1.heap.size w1 (w1.alloc (.cells #[.string W, .slice so pn pc, .int .i64 0] 29)) := (Below.refl _ _).alloc (Nat.le_refl _) _
      have hsA : w1.heap.size < (w1.alloc (.cells #[.string W, .slice so pn pc, .int .i64 0] 29)).heap.size := by simp
      go_wp2_with fail
      generalize w1.alloc (.cells #[.string W, .slice so pn pc, .int .i64 0] 29) = w2 at *
      refine (HF1.out _).mono ?_
      rintro e w3 ⟨rfl, hb3⟩
      go_wp2_with fail
      refine (HF2.out _).mono ?_
      rintro e w4 ⟨rfl, hb4⟩
      have hs3 := hb3.size
      have hs4 := hb4.size
      have hSB4 := (hb4.block _ (Nat.lt_of_lt_of_le hsA hs3)).trans ((hb3.block _ hsA).trans hSB)
      have hb14 : Below w1.heap.size w1 w4 := (hbA.trans (hb3.mono (by omega))).trans (hb4.mono (by omega))
      have x0 : w4.cell? ⟨w1.heap.size, 0, none⟩ = some (.string W) := cell_of' hSB4 0
      have x1 : w4.cell? ⟨w1.heap.size, 1, none⟩ = some (.slice so pn pc) := cell_of' hSB4 1
      have x2 : w4.cell? ⟨w1.heap.size, 2, none⟩ = some (.int .i64 0) := cell_of' hSB4 2
      have hlt4 : w1.heap.size < w4.heap.size := by omega
      have HED : Hid (Calls Tryz.prog 79 #[.agg #[.string W, .slice so pn pc, .int .i64 0]] (w4.alloc (.cells #[.int .i64 XN, .int .i64 XD, .int .i64 YN, .int .i64 YD] 100)) fun e w' => ∃ v, e = .returned v ∧ RdEdges w' v ES ∧ Below (w4.alloc (.cells #[.int .i64 XN, .int .i64 XD, .int .i64 YN, .int .i64 YD] 100)).heap.size (w4.alloc (.cells #[.int .i64 XN, .int .i64 XD, .int .i64 YN, .int .i64 YD] 100)) w') :=
        HES.out ▸ redges_any PS W _ _ (keeps_below keeps_multi HRD.out.1 (hb14.alloc hb14.size _)) HRD.out.2
      have hb05 : Below w.heap.size w (w4.alloc (.cells #[.int .i64 XN, .int .i64 XD, .int .i64 YN, .int .i64 YD] 100)) := by
        have := hb1.trans (hb14.mono hb1.size)
        exact this.alloc this.size _
      have hPB := heap_alloc_new w4 (.cells #[.int .i64 XN, .int .i64 XD, .int .i64 YN, .int .i64 YD] 100)
      have hsP : w4.heap.size < (w4.alloc (.cells #[.int .i64 XN, .int .i64 XD, .int .i64 YN, .int .i64 YD] 100)).heap.size := by simp
      have HSM : Hid (∀ e ∈ ES, smallE e) := HES.out ▸ flat_small HRD.out.2
      have hel : ES.length ≤ 65000000 := HES.out ▸ flat_len HRD.out.2
      clear hb3 hb4 hSB hSB4 hbA hsA HF1 HF2 HR2 HRD hb14
      go_wp2_with fail
      refine HED.out.mono ?_
      rintro e w5 ⟨v, rfl, hre, hb5⟩
      obtain ⟨lo, lc, rfl⟩ := rdEdges_slice hre
      have hP5 := (hb5.block _ hsP).trans hPB
      have hbel5 := hb05.trans (hb5.mono hb05.size)
      have hs5 : w4.heap.size < w5.heap.size := Nat.lt_of_lt_of_le hsP hb5.size
      have HRE : Hid (RdEdges w5 (.slice lo ES.length lc) ES) := hre
      clear HED hPB hsP hb05 hb5 hre x0 x1 x2
      go_wp2_with fail
      go_loopg [17] ES.length (fun m iv wr => ∃ i : Nat, i + m = ES.length ∧ iv = .int .i64 i ∧ Hid ((∀ e ∈ ES.take i, Ge.fo (x, y) d e = false) ∧ Below w5.heap.size w5 wr))
      case atStart => exact ⟨0, by omega, rfl, by simp, Below.refl _ _⟩
      case round =>
        obtain ⟨i, him, rfl, HB⟩ := hrel
        have hb6 := HB.out.2
        have hs6 := hb6.size
        have hP6 := (hb6.block _ hs5).trans hP5
        have p0 : wr.cell? ⟨w4.heap.size, 0, none⟩ = some (.int .i64 XN) := cell_of' hP6 0
        have p1 : wr.cell? ⟨w4.heap.size, 1, none⟩ = some (.int .i64 XD) := cell_of' hP6 1
        have p2 : wr.cell? ⟨w4.heap.size, 2, none⟩ = some (.int .i64 YN) := cell_of' hP6 2
        have p3 : wr.cell? ⟨w4.heap.size, 3, none⟩ = some (.int .i64 YD) := cell_of' hP6 3
        have hb06 : Below w.heap.size w wr := hbel5.trans (hb6.mono hbel5.size)
        have hsz6 : w4.heap.size < wr.heap.size := by omega
        by_cases hlt : i < ES.length
        · obtain ⟨e, hek⟩ : ∃ e, ES[i]? = some e := ⟨_, List.getElem?_eq_getElem hlt⟩
          obtain ⟨b, rfl, hb, c0, c1, c2, c3⟩ := rdEdges_get HRE.out hek
          have r0 := (hb6.cell (p := ⟨b, i * 4, none⟩) hb).trans c0
          have r1 := (hb6.cell (p := ⟨b, i * 4 + 1, none⟩) hb).trans c1
          have r2 := (hb6.cell (p := ⟨b, i * 4 + 2, none⟩) hb).trans c2
          have r3 := (hb6.cell (p := ⟨b, i * 4 + 3, none⟩) hb).trans c3
          have hbr : b < wr.heap.size := Nat.lt_of_lt_of_le hb hs6
          have hki : (i : Int) < (ES.length : Int) := by omega
          have hmem := List.mem_of_getElem? hek
          have HH : Hid (∀ w1, Calls Tryz.prog 80 #[.agg #[.int .i64 e.1.1, .int .i64 e.1.2, .int .i64 e.2.1, .int .i64 e.2.2], .agg #[.int .i64 XN, .int .i64 XD, .int .i64 YN, .int .i64 YD]] w1 fun e' w' => e' = .returned (.bool (Ge.fo (x, y) d e)) ∧ Below w1.heap.size w1 w') := fun w1 => rholds_any e XN XD YN YD x y d w1 (HSM.out e hmem) HPT.out
          clear c0 c1 c2 c3
          cases hfo : Ge.fo (x, y) d e
          · rw [hfo] at HH
            have HN : Hid (∀ e ∈ ES.take (i + 1), Ge.fo (x, y) d e = false) := fun e' he' => by
              obtain ⟨h1, h2⟩ := List.getElem?_eq_some_iff.1 hek
              rw [List.take_succ_eq_append_getElem h1, h2] at he'
              rcases List.mem_append.1 he' with h | h
              · exact HB.out.1 e' h
              · rw [List.mem_singleton.1 h]; exact hfo
            clear hfo hek hmem HB
            go_wp2_with fail
            go_region_held3 (fun w' => w'.cell? ⟨b, i * 4, none⟩ = some (.int .i64 e.1.1) ∧ w'.cell? ⟨b, i * 4 + 1, none⟩ = some (.int .i64 e.1.2) ∧ w'.cell? ⟨b, i * 4 + 2, none⟩ = some (.int .i64 e.2.1) ∧ w'.cell? ⟨b, i * 4 + 3, none⟩ = some (.int .i64 e.2.2) ∧ w'.cell? ⟨w4.heap.size, 0, none⟩ = some (.int .i64 XN) ∧ w'.cell? ⟨w4.heap.size, 1, none⟩ = some (.int .i64 XD) ∧ w'.cell? ⟨w4.heap.size, 2, none⟩ = some (.int .i64 YN) ∧ w'.cell? ⟨w4.heap.size, 3, none⟩ = some (.int .i64 YD)) (go_keep) (first | (go_at_call 80; refine (HH.out _).mono ?_; rintro e' w7 ⟨rfl, hb7⟩; have s0 := (hb7.cell (p := ⟨b, i * 4, none⟩) hbr).trans r0; have s1 := (hb7.cell (p := ⟨b, i * 4 + 1, none⟩) hbr).trans r1; have s2 := (hb7.cell (p := ⟨b, i * 4 + 2, none⟩) hbr).trans r2; have s3 := (hb7.cell (p := ⟨b, i * 4 + 3, none⟩) hbr).trans r3; have t0 := (hb7.cell (p := ⟨w4.heap.size, 0, none⟩) hsz6).trans p0; have t1 := (hb7.cell (p := ⟨w4.heap.size, 1, none⟩) hsz6).trans p1; have t2 := (hb7.cell (p := ⟨w4.heap.size, 2, none⟩) hsz6).trans p2; have t3 := (hb7.cell (p := ⟨w4.heap.size, 3, none⟩) hsz6).trans p3))
            have HN2 : Hid ((∀ e ∈ ES.take (i + 1), Ge.fo (x, y) d e = false) ∧ Below w5.heap.size w5 w7) := ⟨HN.out, hb6.drew.trans (hb7.mono hs6)⟩
            clear hb7 HN
            go_wp2_with fail
            go_roundg (gk - 1)
            case measure => omega
            case rel => exact ⟨i + 1, by omega, by go_num, HN2⟩
          · rw [hfo] at HH
            have HA : Hid (ES.any (Ge.fo (x, y) d) = true) := List.any_eq_true.2 ⟨e, hmem, hfo⟩
            clear hfo hek hmem HB
            go_wp2_with fail
            go_region_held3 (fun w' => w'.cell? ⟨b, i * 4, none⟩ = some (.int .i64 e.1.1) ∧ w'.cell? ⟨b, i * 4 + 1, none⟩ = some (.int .i64 e.1.2) ∧ w'.cell? ⟨b, i * 4 + 2, none⟩ = some (.int .i64 e.2.1) ∧ w'.cell? ⟨b, i * 4 + 3, none⟩ = some (.int .i64 e.2.2) ∧ w'.cell? ⟨w4.heap.size, 0, none⟩ = some (.int .i64 XN) ∧ w'.cell? ⟨w4.heap.size, 1, none⟩ = some (.int .i64 XD) ∧ w'.cell? ⟨w4.heap.size, 2, none⟩ = some (.int .i64 YN) ∧ w'.cell? ⟨w4.heap.size, 3, none⟩ = some (.int .i64 YD)) (go_keep) (first | (go_at_call 80; refine (HH.out _).mono ?_; rintro e' w7 ⟨rfl, hb7⟩; have s0 := (hb7.cell (p := ⟨b, i * 4, none⟩) hbr).trans r0; have s1 := (hb7.cell (p := ⟨b, i * 4 + 1, none⟩) hbr).trans r1; have s2 := (hb7.cell (p := ⟨b, i * 4 + 2, none⟩) hbr).trans r2; have s3 := (hb7.cell (p := ⟨b, i * 4 + 3, none⟩) hbr).trans r3; have t0 := (hb7.cell (p := ⟨w4.heap.size, 0, none⟩) hsz6).trans p0; have t1 := (hb7.cell (p := ⟨w4.heap.size, 1, none⟩) hsz6).trans p1; have t2 := (hb7.cell (p := ⟨w4.heap.size, 2, none⟩) hsz6).trans p2; have t3 := (hb7.cell (p := ⟨w4.heap.size, 3, none⟩) hsz6).trans p3))
            have hbz := hb06.drew.trans (hb7.mono (by have := hb06.size; exact this))
            go_wp2_with fail
            exact bodyPost_ret (v := .tuple #[.int .i64 0, .bool true, .int .i64 0, .int .i64 0]) (by simp [results, Tryz.results54, go_sem]) rfl ⟨rfl, hbz⟩
        · have hi : i = ES.length := by omega
          subst hi
          have HNO : Hid (∀ e ∈ ES, Ge.fo (x, y) d e = false) := by
            have := HB.out.1
            rw [List.take_length] at this; exact this
          have HA : Hid (¬ ES.any (Ge.fo (x, y) d) = true) := fun h => by
            obtain ⟨e, h1, h2⟩ := List.any_eq_true.1 h
            rw [HNO.out e h1] at h2; cases h2
          have HO : Hid (Calls Tryz.prog 81 #[.slice lo ES.length lc, .agg #[.int .i64 XN, .int .i64 XD, .int .i64 YN, .int .i64 YD]] wr fun e w' => e = .returned (.int .i64 (Ge.total (Ge.fu (x, y) d) ES)) ∧ Below wr.heap.size wr w') :=
            over_any ES _ XN XD YN YD x y d wr (keeps_own HRE.out fun k cur hc => hb6.block k (lt_of_heap hc)) (by omega) HSM.out HPT.out (by omega) HNO.out
          clear HB
          go_wp2_with fail
          refine HO.out.mono ?_
          rintro e w7 ⟨rfl, hb7⟩
          have hbz := hb06.trans (hb7.mono hb06.size)
          go_wp2_with fail
          exact bodyPost_ret (v := .tuple #[.int .i64 (Ge.total (Ge.fu (x, y) d) ES), .bool false, .int .i64 0, .int .i64 0]) (by simp [results, Tryz.results54, go_sem]) rfl ⟨rfl, hbz⟩
    all_goals
      have hbad : Pl.badPt x y d = true := by
        unfold Pl.badPt
        simp only [Bool.or_eq_true, decide_eq_true_eq]
        omega
      rw [hbad]
      simp only [if_true, Pl.windV]
      clear hbad HRG
      go_enter Tryz.func54, Tryz.ntmps54
      go_wp2_with fail
      refine (HR2.out _).mono ?_
      rintro e w1 ⟨hb1, W, so, pn, pc, rfl, _⟩
      go_wp2_with fail
      exact bodyPost_ret (v := .tuple #[.int .i64 0, .bool false, .int .i64 5, .int .i64 0]) (by simp [results, Tryz.results54, go_sem]) rfl ⟨rfl, hb1.alloc hb1.size _⟩
  · have hw : Pl.wind s.data.toList x y d = (0, false, Pl.err s.data.toList) := if_neg h0
    rw [hw]
    have hne : (((Pl.err s.data.toList).1 : Int) != 0) = true := by rw [bne_iff_ne]; omega
    simp only [Pl.windV]
    generalize (Pl.err s.data.toList).1 = E at *
    generalize (Pl.err s.data.toList).2 = Pp at *
    clear hw h0
    go_enter Tryz.func54, Tryz.ntmps54
    go_wp2_with fail
    refine (HR.out _).mono ?_
    rintro e w1 ⟨hb1, W, so, pn, pc, rfl, _⟩
    go_wp2_with fail
    exact bodyPost_ret (v := .tuple #[.int .i64 0, .bool false, .int .i64 E, .int .i64 Pp]) (by simp [results, Tryz.results54, go_sem]) rfl ⟨rfl, hb1.alloc hb1.size _⟩

end Go.Proofs.YtkjhhooecopolaaGreatDoor

namespace Go.Proofs.YtkjhhooecopolaaGreatDoor
open Go.RowKit

namespace Ge
theorem rel_scale {x y d X Y D G : Int} (hx : x = G * X) (hy : y = G * Y) (hd : d = G * D) (a : Pt) : rel (x, y) d a = (G * (rel (X, Y) D a).1, G * (rel (X, Y) D a).2) := by
  unfold rel
  rw [hx, hy, hd]
  simp only [Prod.mk.injEq]
  constructor <;> grind
theorem sc {G z : Int} (h : 0 < G) : (0 < G * z ↔ 0 < z) ∧ (G * z < 0 ↔ z < 0) ∧ (G * z = 0 ↔ z = 0) ∧ (G * z ≤ 0 ↔ z ≤ 0) := by
  rcases Int.lt_trichotomy z 0 with hz | hz | hz
  · have := Int.mul_neg_of_pos_of_neg h hz; omega
  · subst hz; omega
  · have := Int.mul_pos h hz; omega
theorem cr_scale (G : Int) (u v : Pt) : cr (G * u.1, G * u.2) (G * v.1, G * v.2) = (G * G) * cr u v := by unfold cr; grind
theorem dt_scale (G : Int) (u v : Pt) : dt (G * u.1, G * u.2) (G * v.1, G * v.2) = (G * G) * dt u v := by unfold dt; grind
theorem fo_scale {x y d X Y D G : Int} (hG : 0 < G) (hx : x = G * X) (hy : y = G * Y) (hd : d = G * D) (e : Pt × Pt) : fo (x, y) d e = fo (X, Y) D e := by
  unfold fo on
  rw [rel_scale hx hy hd, rel_scale hx hy hd, cr_scale, dt_scale]
  have h2 := Int.mul_pos hG hG
  congr 1
  · exact decide_eq_decide.2 (sc h2).2.2.1
  · exact decide_eq_decide.2 (sc h2).2.2.2
theorem fr_scale {x y d X Y D G : Int} (hG : 0 < G) (hx : x = G * X) (hy : y = G * Y) (hd : d = G * D) (a b : Pt) : fr (x, y) d a b = fr (X, Y) D a b := by
  unfold fr right
  rw [rel_scale hx hy hd, rel_scale hx hy hd, cr_scale]
  have h2 := Int.mul_pos hG hG
  simp only [(sc h2).1, (sc h2).2.1, (sc hG).1, (sc hG).2.2.2]
theorem total_same {f g : Pt → Pt → Int} (l : List (Pt × Pt)) (h : ∀ a b, f a b = g a b) : total f l = total g l := by
  unfold total
  congr 1
  exact List.map_congr_left fun e _ => h e.1 e.2
end Ge

theorem ok_multi {s : List UInt8} (h : (Pl.err s).1 = 0) : okMulti (Pl.pWhole (Pl.all s)).2.2 := by
  cases hw : (Pl.wd Pl.POLYGON (Pl.all s)).1
  · exact (Pl.text_multi h hw).2.1
  · obtain ⟨gs, e, h1, _⟩ := Pl.text_poly h hw
    rw [e]
    exact ⟨by simp, fun g hg => by rw [List.mem_singleton.1 hg]; exact h1⟩

theorem flatten_len {ps : List (List (List (Int × Int)))} (h : ∀ p ∈ ps, p.length ≤ 402) : ps.flatten.length ≤ ps.length * 402 := by
  induction ps with
  | nil => simp
  | cons p r ih =>
    have h1 := ih (fun x hx => h x (by simp [hx]))
    have h2 := h p (by simp)
    rw [List.flatten_cons, List.length_append, List.length_cons, Nat.add_mul]
    omega
theorem rings_ok {s : List UInt8} (h : (Pl.err s).1 = 0) : (∀ g ∈ Pl.rings s, okRing g ∧ g.length ≤ 402) ∧ (Pl.rings s).length ≤ 161604 ∧ (∀ e ∈ Ge.allEdges (Pl.rings s), smallE e) ∧ (Ge.allEdges (Pl.rings s)).length ≤ 65000000 := by
  have hok := ok_multi h
  refine ⟨fun g hg => ?_, ?_, flat_small hok, flat_len hok⟩
  · obtain ⟨p, hp, hgp⟩ := List.mem_flatten.1 hg
    exact (hok.2 p hp).2 g hgp
  · have h1 := flatten_len (fun p hp => (hok.2 p hp).1)
    have h2 := hok.1
    unfold Pl.rings
    omega

/-- What turnsAround answers is what Wind asks for. -/
theorem wind_good {s : List UInt8} {x y d : Int} (h : (Pl.err s).1 = 0) (hb : Pl.badPt x y d = false) {X Y D G : Int} (hG : 0 < G) (hx : x = G * X) (hy : y = G * Y) (hd : d = G * D) :
    Pl.wind s x y d = if (Ge.allEdges (Pl.rings s)).any (Ge.fo (X, Y) D) then (0, true, 0, 0) else (Ge.total (Ge.fr (X, Y) D) (Ge.allEdges (Pl.rings s)), false, 0, 0) := by
  unfold Pl.wind
  rw [if_pos h, if_neg (by rw [hb]; simp)]
  have e1 : Ge.fo (x, y) d = Ge.fo (X, Y) D := funext fun e => Ge.fo_scale hG hx hy hd e
  rw [e1]
  by_cases ha : (Ge.allEdges (Pl.rings s)).any (Ge.fo (X, Y) D) = true
  · rw [if_pos ha, if_pos ha]
  · rw [if_neg ha, if_neg ha]
    have hno : ∀ e, e ∈ Ge.allEdges (Pl.rings s) → Ge.fo (x, y) d e = false := fun e he => by
      rw [e1]
      cases hf : Ge.fo (X, Y) D e
      · rfl
      · exact absurd (List.any_eq_true.2 ⟨e, he, hf⟩) ha
    rw [← Ge.rays_same (x, y) d (Pl.rings s) hno, Ge.total_same _ (Ge.fr_scale hG hx hy hd)]

end Go.Proofs.YtkjhhooecopolaaGreatDoor

namespace Go.Proofs.YtkjhhooecopolaaGreatDoor
open Go.RowKit

namespace Pl
/-! How many points a text can bear: each takes up two signs' tokens. -/
def Cnt {α : Type} (sz : α → Nat) (item : List Tk → Bool × List Tk × α) : Prop := ∀ l, (item l).1 = true → sz (item l).2.2 + (item l).2.1.length ≤ l.length
def sumBy {α : Type} (sz : α → Nat) (l : List α) : Nat := (l.map sz).sum
theorem sumBy_snoc {α : Type} (sz : α → Nat) (l : List α) (x : α) : sumBy sz (l ++ [x]) = sumBy sz l + sz x := by simp [sumBy]
theorem mk_le (c : Nat) (l : List Tk) : (mk c l).2.length ≤ l.length := by
  cases l with
  | nil => simp [mk]
  | cons t r =>
    have e : mk c (t :: r) = if t.k = c then (true, r) else (false, t :: r) := rfl
    rw [e]
    split <;> simp
theorem wd_le (q : List UInt8) (l : List Tk) : (wd q l).2.length ≤ l.length := by
  cases l with
  | nil => simp [wd]
  | cons t r =>
    have e : wd q (t :: r) = if t.k = 119 ∧ t.raw = q then (true, r) else (false, t :: r) := rfl
    rw [e]
    split <;> simp
theorem cnt_row {α : Type} {sz : α → Nat} {item : List Tk → Bool × List Tk × α} (hi : Cnt sz item) :
    ∀ (f : Nat) (l : List Tk) (acc : List α), (pRow item f l acc).1 = true → sumBy sz (pRow item f l acc).2.2 + (pRow item f l acc).2.1.length ≤ sumBy sz acc + l.length
  | 0, l, acc, h => by cases h
  | f + 1, l, acc, h => by
    unfold pRow at h ⊢
    by_cases h1 : (item l).1 = true
    · have k1 := hi l h1
      rw [if_pos h1] at h ⊢
      by_cases h2 : (mk 44 (item l).2.1).1 = true
      · rw [if_pos h2] at h ⊢
        have ih := cnt_row hi f _ _ h
        have k2 := mk_le 44 (item l).2.1
        rw [sumBy_snoc] at ih
        omega
      · rw [if_neg h2]
        have k2 := mk_le 41 (item l).2.1
        simp only
        rw [sumBy_snoc]
        omega
    · rw [if_neg h1] at h; cases h
theorem cnt_pt : Cnt (fun _ => 1) pPt := fun l h => by
  match l, h with
  | [], h => cases h
  | [x], h => cases h
  | x :: y :: r, h =>
    have e : pPt (x :: y :: r) = if x.k = 110 then (if y.k = 110 then (true, r, (x.n, y.n)) else (false, y :: r, (0, 0))) else (false, x :: y :: r, (0, 0)) := rfl
    rw [e] at h ⊢
    split
    · split
      · simp; omega
      · simp; omega
    · rename_i hx; rw [if_neg hx] at h; cases h
theorem cnt_ring : Cnt (sumBy fun _ => 1) pRing := fun l h => by
  unfold pRing at h ⊢
  by_cases h1 : (mk 40 l).1 = true
  · have k1 := mk_le 40 l
    rw [if_pos h1] at h ⊢
    by_cases h2 : (mk 41 (mk 40 l).2).1 = true
    · have k2 := mk_le 41 (mk 40 l).2
      rw [if_pos h2]
      simp [sumBy]
      omega
    · rw [if_neg h2] at h ⊢
      have k := cnt_row cnt_pt _ _ _ h
      have e : sumBy (fun _ : Int × Int => 1) [] = 0 := rfl
      omega
  · rw [if_neg h1] at h; cases h
theorem cnt_poly : Cnt (sumBy (sumBy fun _ => 1)) pPoly := fun l h => by
  unfold pPoly at h ⊢
  by_cases h0 : (wd EMPTY l).1 = true
  · have k0 := wd_le EMPTY l
    rw [if_pos h0]
    simp [sumBy]
    exact k0
  · rw [if_neg h0] at h ⊢
    by_cases h1 : (mk 40 l).1 = true
    · have k1 := mk_le 40 l
      rw [if_pos h1] at h ⊢
      have k := cnt_row cnt_ring _ _ _ h
      have e : sumBy (sumBy fun _ => 1) ([] : List (List (Int × Int))) = 0 := rfl
      omega
    · rw [if_neg h1] at h; cases h
theorem cnt_multi : Cnt (sumBy (sumBy (sumBy fun _ => 1))) pMulti := fun l h => by
  unfold pMulti at h ⊢
  by_cases h0 : (wd EMPTY l).1 = true
  · have k0 := wd_le EMPTY l
    rw [if_pos h0]
    simp [sumBy]
    exact k0
  · rw [if_neg h0] at h ⊢
    by_cases h1 : (mk 40 l).1 = true
    · have k1 := mk_le 40 l
      rw [if_pos h1] at h ⊢
      have k := cnt_row cnt_poly _ _ _ h
      have e : sumBy (sumBy (sumBy fun _ => 1)) ([] : List (List (List (Int × Int)))) = 0 := rfl
      omega
    · rw [if_neg h1] at h; cases h
theorem sumBy_one {α : Type} (l : List α) : sumBy (fun _ => 1) l = l.length := by
  induction l with
  | nil => rfl
  | cons a l ih =>
    have e : sumBy (fun _ => 1) (a :: l) = 1 + sumBy (fun _ => 1) l := by simp [sumBy]
    rw [e, ih, List.length_cons]
    omega
theorem edges_le (rg : List (List (Int × Int))) : (Ge.allEdges rg).length ≤ sumBy (sumBy fun _ => 1) rg := by
  induction rg with
  | nil => simp [Ge.allEdges]
  | cons g r ih =>
    have e : Ge.allEdges (g :: r) = Ge.edges g ++ Ge.allEdges r := List.flatMap_cons
    have h1 : (Ge.edges g).length ≤ g.length := by rw [← Ge.edT_all]; exact Ge.edT_le g _
    have h2 : sumBy (sumBy fun _ => 1) (g :: r) = sumBy (fun _ => 1) g + sumBy (sumBy fun _ => 1) r := by simp [sumBy]
    rw [e, List.length_append, h2, sumBy_one]
    omega
theorem sum_flat (ps : List (List (List (Int × Int)))) : sumBy (sumBy fun _ => 1) ps.flatten = sumBy (sumBy (sumBy fun _ => 1)) ps := by
  induction ps with
  | nil => rfl
  | cons p r ih =>
    have h1 : sumBy (sumBy fun _ => 1) (p ++ r.flatten) = sumBy (sumBy fun _ => 1) p + sumBy (sumBy fun _ => 1) r.flatten := by simp [sumBy]
    have h2 : sumBy (sumBy (sumBy fun _ => 1)) (p :: r) = sumBy (sumBy fun _ => 1) p + sumBy (sumBy (sumBy fun _ => 1)) r := by simp [sumBy]
    rw [List.flatten_cons, h1, h2, ih]
/-- A good text has at most 402 edges. -/
theorem edges_few {s : List UInt8} (h : (err s).1 = 0) : (Ge.allEdges (rings s)).length ≤ 402 := by
  obtain ⟨h5, _, h1, _⟩ := err_zero h
  have hl := all_length s
  have k : sumBy (sumBy (sumBy fun _ => 1)) (pWhole (all s)).2.2 ≤ (all s).length := by
    unfold pWhole at h1 ⊢
    by_cases hw : (wd POLYGON (all s)).1 = true
    · rw [if_pos hw] at h1 ⊢
      have k1 := cnt_poly _ h1
      have k2 := wd_le POLYGON (all s)
      have e : sumBy (sumBy (sumBy fun _ => 1)) [(pPoly (wd POLYGON (all s)).2).2.2] = sumBy (sumBy fun _ => 1) (pPoly (wd POLYGON (all s)).2).2.2 := by simp [sumBy]
      simp only
      rw [e]
      omega
    · rw [if_neg hw] at h1 ⊢
      by_cases hm : (wd MULTI (all s)).1 = true
      · rw [if_pos hm] at h1 ⊢
        have k1 := cnt_multi _ h1
        have k2 := wd_le MULTI (all s)
        omega
      · rw [if_neg hm] at h1; cases h1
  have k2 := edges_le (rings s)
  have k3 : sumBy (sumBy fun _ => 1) (rings s) = sumBy (sumBy (sumBy fun _ => 1)) (pWhole (all s)).2.2 := sum_flat _
  have k4 : s.length ≤ 400 := by
    unfold err at h
    by_cases hs : 400 < s.length
    · rw [if_pos hs] at h; cases h
    · omega
  omega
end Pl

end Go.Proofs.YtkjhhooecopolaaGreatDoor
