import Derived.Test.YtkjhhooecopolaaGreatDoorVj34
import Derived.Test.YtkjhhooecopolaaGreatDoorVj36
import Derived.Test.YtkjhhooecopolaaGreatDoorVj21
namespace Go.Proofs.YtkjhhooecopolaaGreatDoor
open Go.RowKit

namespace Ge
theorem rel_scale {x y d X Y D G : Int} (hx : x = G * X) (hy : y = G * Y) (hd : d = G * D) (a : Pt) : rel (x, y) d a = (G * (rel (X, Y) D a).1, G * (rel (X, Y) D a).2) := by
  unfold rel
  rw [hx, hy, hd]
  simp only [Prod.mk.injEq]
  constructor <;> grind
theorem sc {G z : Int} (h : 0 < G) : (0 < G * z ↔ 0 < z) ∧ (G * z < 0 ↔ z < 0) ∧ (G * z = 0 ↔ z = 0) ∧ (G * z ≤ 0 ↔ z ≤ 0) := by
  rcases Int.lt_trichotomy z 0 with hz | hz | hz
  · have := Int.mul_neg_of_pos_of_neg h hz; omega
  · subst hz; omega
  · have := Int.mul_pos h hz; omega
theorem cr_scale (G : Int) (u v : Pt) : cr (G * u.1, G * u.2) (G * v.1, G * v.2) = (G * G) * cr u v := by unfold cr; grind
theorem dt_scale (G : Int) (u v : Pt) : dt (G * u.1, G * u.2) (G * v.1, G * v.2) = (G * G) * dt u v := by unfold dt; grind
theorem fo_scale {x y d X Y D G : Int} (hG : 0 < G) (hx : x = G * X) (hy : y = G * Y) (hd : d = G * D) (e : Pt × Pt) : fo (x, y) d e = fo (X, Y) D e := by
  unfold fo on
  rw [rel_scale hx hy hd, rel_scale hx hy hd, cr_scale, dt_scale]
  have h2 := Int.mul_pos hG hG
  congr 1
  · exact decide_eq_decide.2 (sc h2).2.2.1
  · exact decide_eq_decide.2 (sc h2).2.2.2
theorem fr_scale {x y d X Y D G : Int} (hG : 0 < G) (hx : x = G * X) (hy : y = G * Y) (hd : d = G * D) (a b : Pt) : fr (x, y) d a b = fr (X, Y) D a b := by
  unfold fr right
  rw [rel_scale hx hy hd, rel_scale hx hy hd, cr_scale]
  have h2 := Int.mul_pos hG hG
  simp only [(sc h2).1, (sc h2).2.1, (sc hG).1, (sc hG).2.2.2]
theorem total_same {f g : Pt → Pt → Int} (l : List (Pt × Pt)) (h : ∀ a b, f a b = g a b) : total f l = total g l := by
  unfold total
  congr 1
  exact List.map_congr_left fun e _ => h e.1 e.2
end Ge

theorem ok_multi {s : List UInt8} (h : (Pl.err s).1 = 0) : okMulti (Pl.pWhole (Pl.all s)).2.2 := by
  cases hw : (Pl.wd Pl.POLYGON (Pl.all s)).1
  · exact (Pl.text_multi h hw).2.1
  · obtain ⟨gs, e, h1, _⟩ := Pl.text_poly h hw
    rw [e]
    exact ⟨by simp, fun g hg => by rw [List.mem_singleton.1 hg]; exact h1⟩

theorem flatten_len {ps : List (List (List (Int × Int)))} (h : ∀ p ∈ ps, p.length ≤ 402) : ps.flatten.length ≤ ps.length * 402 := by
  induction ps with
  | nil => simp
  | cons p r ih =>
    have h1 := ih (fun x hx => h x (by simp [hx]))
    have h2 := h p (by simp)
    rw [List.flatten_cons, List.length_append, List.length_cons, Nat.add_mul]
    omega
theorem rings_ok {s : List UInt8} (h : (Pl.err s).1 = 0) : (∀ g ∈ Pl.rings s, okRing g ∧ g.length ≤ 402) ∧ (Pl.rings s).length ≤ 161604 ∧ (∀ e ∈ Ge.allEdges (Pl.rings s), smallE e) ∧ (Ge.allEdges (Pl.rings s)).length ≤ 65000000 := by
  have hok := ok_multi h
  refine ⟨fun g hg => ?_, ?_, flat_small hok, flat_len hok⟩
  · obtain ⟨p, hp, hgp⟩ := List.mem_flatten.1 hg
    exact (hok.2 p hp).2 g hgp
  · have h1 := flatten_len (fun p hp => (hok.2 p hp).1)
    have h2 := hok.1
    unfold Pl.rings
    omega

/-- What turnsAround answers is what Wind asks for. -/
theorem wind_good {s : List UInt8} {x y d : Int} (h : (Pl.err s).1 = 0) (hb : Pl.badPt x y d = false) {X Y D G : Int} (hG : 0 < G) (hx : x = G * X) (hy : y = G * Y) (hd : d = G * D) :
    Pl.wind s x y d = if (Ge.allEdges (Pl.rings s)).any (Ge.fo (X, Y) D) then (0, true, 0, 0) else (Ge.total (Ge.fr (X, Y) D) (Ge.allEdges (Pl.rings s)), false, 0, 0) := by
  unfold Pl.wind
  rw [if_pos h, if_neg (by rw [hb]; simp)]
  have e1 : Ge.fo (x, y) d = Ge.fo (X, Y) D := funext fun e => Ge.fo_scale hG hx hy hd e
  rw [e1]
  by_cases ha : (Ge.allEdges (Pl.rings s)).any (Ge.fo (X, Y) D) = true
  · rw [if_pos ha, if_pos ha]
  · rw [if_neg ha, if_neg ha]
    have hno : ∀ e, e ∈ Ge.allEdges (Pl.rings s) → Ge.fo (x, y) d e = false := fun e he => by
      rw [e1]
      cases hf : Ge.fo (X, Y) D e
      · rfl
      · exact absurd (List.any_eq_true.2 ⟨e, he, hf⟩) ha
    rw [← Ge.rays_same (x, y) d (Pl.rings s) hno, Ge.total_same _ (Ge.fr_scale hG hx hy hd)]

end Go.Proofs.YtkjhhooecopolaaGreatDoor

namespace Go.Proofs.YtkjhhooecopolaaGreatDoor
open Go.RowKit

theorem rdB_below {w w' : World} {v : Value} {es : List Ed} (h : RdB w v es) (hb : Below w.heap.size w w') : RdB w' v es := by
  obtain ⟨xs, h1, h2, h3⟩ := h
  exact ⟨xs, h1, keeps_own h2 fun k cur hc => hb.block k (lt_of_heap hc), h3⟩

theorem bad_iff (x y d : Int) : Pl.badPt x y d = (decide (d < 1) || decide (60 < d) || !inR 100000 x || !inR 100000 y) := by
  unfold Pl.badPt inR
  rw [Bool.eq_iff_iff]
  simp only [Bool.or_eq_true, decide_eq_true_eq, Bool.not_eq_true', decide_eq_false_iff_not]
  omega

set_option maxRecDepth 100000 in
set_option maxHeartbeats 2000000 in
theorem wind_any (s : ByteArray) (x y d : Int) (w : World) (hm : s.size ≤ maxLen) (hGl : Gl w) :
    Calls Tryz.prog 17 #[.string s, .int .i64 x, .int .i64 y, .int .i64 d] w fun e w' => e = .returned (Pl.windV (Pl.wind s.data.toList x y d)) ∧ Below w.heap.size w w' := by
  by_cases h0 : (Pl.err s.data.toList).1 = 0
  · have hp2 := (err_zero h0).2.1
    obtain ⟨hro, hrl, hse, hel⟩ := rings_ok h0
    have HR : Hid (∀ w1, Gl w1 → Calls Tryz.prog 33 #[.string s] w1 fun e w' => Below w1.heap.size w1 w' ∧ ∃ rb rv, e = .returned (.tuple #[.pointer (some ⟨rb, 0, none⟩), .int .i64 0, .int .i64 0]) ∧
        w'.cell? ⟨rb, 6, none⟩ = some rv ∧ rb < w'.heap.size ∧ RdRings w' rv (Pl.rings s.data.toList)) := fun w1 g1 => by
      refine (readText_any s w1 hm g1).mono ?_
      rintro e w' ⟨hb, pv, rfl, hrd⟩
      obtain ⟨rb, rfl, _, hR⟩ := hrd h0
      obtain ⟨c, t, r, tv, rv, hc, hl', hbk, hown, hrings⟩ := hR
      exact ⟨hb, rb, rv, by rw [h0, hp2]; rfl, cell_of hbk 6, lt_of_heap hbk, rdRings_of hrings⟩
    have HW1 : Hid (∀ w1, Calls Tryz.prog 34 #[.int .i64 x, .int .i64 100000] w1 fun e w' => e = .returned (.bool (inR 100000 x)) ∧ w' = w1) := fun w1 => within_any x 100000 w1 (by omega) (by omega)
    have HW2 : Hid (∀ w1, Calls Tryz.prog 34 #[.int .i64 y, .int .i64 100000] w1 fun e w' => e = .returned (.bool (inR 100000 y)) ∧ w' = w1) := fun w1 => within_any y 100000 w1 (by omega) (by omega)
    have hbad := bad_iff x y d
    have hwd : Pl.badPt x y d = true → Pl.wind s.data.toList x y d = (0, false, 5, 0) := fun h => by unfold Pl.wind; rw [if_pos h0, if_pos h]
    by_cases h1 : d < 1
    · rw [hwd (by rw [hbad]; simp [h1])]
      simp only [Pl.windV]
      clear hwd hbad HW1 HW2
      go_enter Tryz.func17, Tryz.ntmps17
      go_wp2_with fail
      refine (HR.out _ hGl).mono ?_
      rintro e w1 ⟨hb1, rb, rv, rfl, c6, hlt, hrr⟩
      go_wp2_with fail
      refine bodyPost_ret (v := .tuple #[.int .i64 0, .bool false, .int .i64 5, .int .i64 0]) (by simp [results, Tryz.results17, go_sem]) rfl ⟨rfl, hb1⟩
    · by_cases h2 : 60 < d
      · rw [hwd (by rw [hbad]; simp [h2])]
        simp only [Pl.windV]
        clear hwd hbad HW1 HW2
        go_enter Tryz.func17, Tryz.ntmps17
        go_wp2_with fail
        refine (HR.out _ hGl).mono ?_
        rintro e w1 ⟨hb1, rb, rv, rfl, c6, hlt, hrr⟩
        go_wp2_with fail
        refine bodyPost_ret (v := .tuple #[.int .i64 0, .bool false, .int .i64 5, .int .i64 0]) (by simp [results, Tryz.results17, go_sem]) rfl ⟨rfl, hb1⟩
      · cases hix : inR 100000 x
        · rw [hwd (by rw [hbad, hix]; simp)]
          rw [hix] at HW1
          simp only [Pl.windV]
          clear hwd hbad HW2 hix
          go_enter Tryz.func17, Tryz.ntmps17
          go_wp2_with fail
          refine (HR.out _ hGl).mono ?_
          rintro e w1 ⟨hb1, rb, rv, rfl, c6, hlt, hrr⟩
          go_wp2_with fail
          refine (HW1.out _).mono ?_
          rintro e w2 ⟨rfl, rfl⟩
          go_wp2_with fail
          refine bodyPost_ret (v := .tuple #[.int .i64 0, .bool false, .int .i64 5, .int .i64 0]) (by simp [results, Tryz.results17, go_sem]) rfl ⟨rfl, hb1⟩
        · cases hiy : inR 100000 y
          · rw [hwd (by rw [hbad, hiy]; simp)]
            rw [hix] at HW1
            rw [hiy] at HW2
            simp only [Pl.windV]
            clear hwd hbad hix hiy
            go_enter Tryz.func17, Tryz.ntmps17
            go_wp2_with fail
            refine (HR.out _ hGl).mono ?_
            rintro e w1 ⟨hb1, rb, rv, rfl, c6, hlt, hrr⟩
            go_wp2_with fail
            refine (HW1.out _).mono ?_
            rintro e w2 ⟨rfl, rfl⟩
            go_wp2_with fail
            refine (HW2.out _).mono ?_
            rintro e w2 ⟨rfl, rfl⟩
            go_wp2_with fail
            refine bodyPost_ret (v := .tuple #[.int .i64 0, .bool false, .int .i64 5, .int .i64 0]) (by simp [results, Tryz.results17, go_sem]) rfl ⟨rfl, hb1⟩
          · have hbf : Pl.badPt x y d = false := by rw [hbad, hix, hiy]; simp [h1, h2]
            have hxr : -100000 ≤ x ∧ x ≤ 100000 := of_decide_eq_true hix
            have hyr : -100000 ≤ y ∧ y ≤ 100000 := of_decide_eq_true hiy
            obtain ⟨G, hGe⟩ : ∃ G, Int.gcd (Int.gcd x y : Nat) d = G := ⟨_, rfl⟩
            have hGp : 0 < G := by rw [← hGe]; exact gcd_pos (by omega)
            have dvG : (G : Int) ∣ (Int.gcd x y : Nat) := by rw [← hGe]; exact Int.gcd_dvd_left _ _
            have dx : (G : Int) ∣ x := Int.dvd_trans dvG (Int.gcd_dvd_left _ _)
            have dy : (G : Int) ∣ y := Int.dvd_trans dvG (Int.gcd_dvd_right _ _)
            have dd : (G : Int) ∣ d := by rw [← hGe]; exact Int.gcd_dvd_right _ _
            have ex := (Int.mul_tdiv_cancel' dx).symm
            have ey := (Int.mul_tdiv_cancel' dy).symm
            have ed := (Int.mul_tdiv_cancel' dd).symm
            rw [wind_good h0 hbf (show (0 : Int) < G by omega) ex ey ed]
            have lx := fr_le ex hGp
            have ly := fr_le ey hGp
            have ld := fr_le ed hGp
            have fx : Fl (floatOfInt .f64 x) x := fl_ofInt (by omega)
            have fy : Fl (floatOfInt .f64 y) y := fl_ofInt (by omega)
            have HNA : Hid (∀ w1, Calls Tryz.prog 37 #[.complex .f64 (floatOfInt .f64 x) (floatOfInt .f64 y), .int .i64 d] w1 fun e w' => e = .returned (.agg #[.complex .f64 (floatOfInt .f64 (x.tdiv G)) (floatOfInt .f64 (y.tdiv G)), .int .i64 (d.tdiv G)]) ∧ Below w1.heap.size w1 w') := fun w1 => nodeAt_any d fx fy (by omega) (by omega) (by omega) G hGe w1
            have HPA : Hid (∀ w1, Calls Tryz.prog 38 #[.int .i64 x, .int .i64 y] w1 fun e w' => e = .returned (.complex .f64 (floatOfInt .f64 x) (floatOfInt .f64 y)) ∧ w' = w1) := fun w1 => pointAt_any x y w1
            have hDp : 0 < d.tdiv (G : Int) := by
              rcases Int.lt_trichotomy (d.tdiv (G : Int)) 0 with h | h | h
              · have := Int.mul_neg_of_pos_of_neg (show (0 : Int) < G by omega) h; omega
              · rw [h] at ed; omega
              · exact h
            have HTA : Hid (∀ v w1, RdB w1 v (Ge.allEdges (Pl.rings s.data.toList)) → Calls Tryz.prog 35 #[v, .agg #[.complex .f64 (floatOfInt .f64 (x.tdiv G)) (floatOfInt .f64 (y.tdiv G)), .int .i64 (d.tdiv G)]] w1 fun e w' => e = .returned (if (Ge.allEdges (Pl.rings s.data.toList)).any (Ge.fo (x.tdiv G, y.tdiv G) (d.tdiv G)) then .tuple #[.int .i64 0, .bool true] else .tuple #[.int .i64 (Ge.total (Ge.fr (x.tdiv G, y.tdiv G) (d.tdiv G)) (Ge.allEdges (Pl.rings s.data.toList))), .bool false]) ∧ Below w1.heap.size w1 w') := fun v w1 hv =>
              turnsAround_any _ v w1 hv hel hse (fl_ofInt (by omega)) (fl_ofInt (by omega)) ⟨by omega, by omega, by omega⟩
            have HEO : Hid (∀ v w1, RdRings w1 v (Pl.rings s.data.toList) → Calls Tryz.prog 36 #[v] w1 fun e w' => ∃ v, e = .returned v ∧ RdB w' v (Ge.allEdges (Pl.rings s.data.toList)) ∧ Below w1.heap.size w1 w') := fun v w1 hv => edgesOf_any _ v w1 hv hro hrl
            rw [hix] at HW1
            rw [hiy] at HW2
            clear hwd hbad hbf hix hiy dvG dx dy dd ex ey ed lx ly ld fx fy hDp hGe hel hse hro hrl hp2 h0
            generalize Pl.rings s.data.toList = RG at *
            generalize Ge.allEdges RG = ES at *
            generalize x.tdiv (G : Int) = XQ at *
            generalize y.tdiv (G : Int) = YQ at *
            generalize d.tdiv (G : Int) = DQ at *
            go_enter Tryz.func17, Tryz.ntmps17
            go_wp2_with fail
            refine (HR.out _ hGl).mono ?_
            rintro e w1 ⟨hb1, rb, rv, rfl, c6, hlt, hrr⟩
            go_wp2_with fail
            refine (HW1.out _).mono ?_
            rintro e w2 ⟨rfl, rfl⟩
            go_wp2_with fail
            refine (HW2.out _).mono ?_
            rintro e w2 ⟨rfl, rfl⟩
            go_wp2_with fail
            refine (HEO.out _ _ hrr).mono ?_
            rintro e w3 ⟨ev, rfl, hrb, hb3⟩
            have hbel3 := hb1.trans (hb3.mono hb1.size)
            go_wp2_with fail
            refine (HPA.out _).mono ?_
            rintro e w4 ⟨rfl, rfl⟩
            go_wp2_with fail
            refine (HNA.out _).mono ?_
            rintro e w5 ⟨rfl, hb5⟩
            have hbel5 := hbel3.trans (hb5.mono hbel3.size)
            have hrb5 := rdB_below hrb hb5
            go_wp2_with fail
            refine (HTA.out _ _ hrb5).mono ?_
            rintro e w6 ⟨rfl, hb6⟩
            have hbel6 := hbel5.trans (hb6.mono hbel5.size)
            by_cases ha : ES.any (Ge.fo (XQ, YQ) DQ) = true
            · rw [if_pos ha]
              go_wp2_with fail
              refine bodyPost_ret (v := .tuple #[.int .i64 0, .bool true, .int .i64 0, .int .i64 0]) (by simp [results, Tryz.results17, go_sem]) rfl ⟨?_, hbel6⟩
              first
                | rfl
                | (rw [if_pos ha]; rfl)
            · rw [if_neg ha]
              go_wp2_with fail
              refine bodyPost_ret (v := .tuple #[.int .i64 (Ge.total (Ge.fr (XQ, YQ) DQ) ES), .bool false, .int .i64 0, .int .i64 0]) (by simp [results, Tryz.results17, go_sem]) rfl ⟨?_, hbel6⟩
              first
                | rfl
                | (rw [if_neg ha]; rfl)
  · have hw : Pl.wind s.data.toList x y d = (0, false, Pl.err s.data.toList) := if_neg h0
    rw [hw]
    have hne : (((Pl.err s.data.toList).1 : Int) != 0) = true := by rw [bne_iff_ne]; omega
    have HR : Hid (∀ w1, Gl w1 → Calls Tryz.prog 33 #[.string s] w1 fun e w' => Below w1.heap.size w1 w' ∧ ∃ pv, e = .returned (.tuple #[.pointer pv, .int .i64 (Pl.err s.data.toList).1, .int .i64 (Pl.err s.data.toList).2])) := fun w1 g1 => by
      refine (readText_any s w1 hm g1).mono ?_
      rintro e w' ⟨hb, pv, rfl, _⟩
      exact ⟨hb, pv, rfl⟩
    simp only [Pl.windV]
    generalize (Pl.err s.data.toList).1 = E at *
    generalize (Pl.err s.data.toList).2 = Pp at *
    clear hw h0
    go_enter Tryz.func17, Tryz.ntmps17
    go_wp2_with fail
    refine (HR.out _ hGl).mono ?_
    rintro e w1 ⟨hb1, pv, rfl⟩
    go_wp2_with fail
    refine bodyPost_ret (v := .tuple #[.int .i64 0, .bool false, .int .i64 E, .int .i64 Pp]) (by simp [results, Tryz.results17, go_sem]) rfl ⟨rfl, hb1⟩

end Go.Proofs.YtkjhhooecopolaaGreatDoor
