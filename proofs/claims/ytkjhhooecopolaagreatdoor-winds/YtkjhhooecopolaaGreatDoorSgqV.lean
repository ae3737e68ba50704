import Derived.Test.YtkjhhooecopolaaGreatDoorVj30
namespace Go.Proofs.YtkjhhooecopolaaGreatDoor
open Go.RowKit

set_option maxRecDepth 100000 in
set_option maxHeartbeats 4000000 in
theorem over_any (l : List Ed) (v : Value) (XN XD YN YD x y dd : Int) (w : World) (hR : RdEdges w v l) (hl : l.length ≤ 65000000) (he : ∀ e ∈ l, smallE e) (hp : PtOf XN XD YN YD x y dd) (hdd : 0 < dd)
    (hno : ∀ e ∈ l, Ge.fo (x, y) dd e = false) :
    Calls Tryz.prog 81 #[v, .agg (poA XN XD YN YD)] w fun e w' => e = .returned (.int .i64 (Ge.total (Ge.fu (x, y) dd) l)) ∧ Below w.heap.size w w' := by
  obtain ⟨so, cap, rfl⟩ := rdEdges_slice hR
  have HR : Hid (RdEdges w (.slice so l.length cap) l) := hR
  have HE : Hid (∀ e ∈ l, smallE e) := he
  have HP : Hid (PtOf XN XD YN YD x y dd) := hp
  have HN : Hid (∀ e ∈ l, Ge.fo (x, y) dd e = false) := hno
  have HT : Hid (∀ k : Nat, -(k : Int) ≤ Ge.total (Ge.fu (x, y) dd) (l.take k) ∧ Ge.total (Ge.fu (x, y) dd) (l.take k) ≤ (k : Int)) := fun k => by
    have h := total_in (Ge.fu (x, y) dd) (fu_in _ _) (l.take k)
    have h2 : (l.take k).length ≤ k := by simp; omega
    omega
  have HDD : Hid (0 < dd) := hdd
  clear hR he hp hno hdd
  simp only [poA]
  have hb0 : Below w.heap.size w (w.alloc (.cells #[.int .i64 XN, .int .i64 XD, .int .i64 YN, .int .i64 YD] 100)) := (Below.refl _ _).alloc (Nat.le_refl _) _
  have hP0 := heap_alloc_new w (.cells #[.int .i64 XN, .int .i64 XD, .int .i64 YN, .int .i64 YD] 100)
  have HB0 : Hid (Below w.heap.size w (w.alloc (.cells #[.int .i64 XN, .int .i64 XD, .int .i64 YN, .int .i64 YD] 100)) ∧ (w.alloc (.cells #[.int .i64 XN, .int .i64 XD, .int .i64 YN, .int .i64 YD] 100)).heap[w.heap.size]? = some (.cells #[.int .i64 XN, .int .i64 XD, .int .i64 YN, .int .i64 YD] 100 (0, 0))) := ⟨hb0, hP0⟩
  clear hb0 hP0
  go_enter Tryz.func81, Tryz.ntmps81
  go_wp2_with fail
  go_loopg [5, 6] l.length (fun n tv iv wr => ∃ k : Nat, k + n = l.length ∧ iv = .int .i64 k ∧ tv = .int .i64 (Ge.total (Ge.fu (x, y) dd) (l.take k)) ∧ Hid (Below w.heap.size w wr ∧ w.heap.size < wr.heap.size ∧ wr.heap[w.heap.size]? = some (.cells #[.int .i64 XN, .int .i64 XD, .int .i64 YN, .int .i64 YD] 100 (0, 0))))
  case atStart => exact ⟨0, by omega, rfl, rfl, HB0.out.1, by simp, HB0.out.2⟩
  case round =>
    obtain ⟨k, hkn, rfl, rfl, HB⟩ := hrel
    obtain ⟨hbel, hwz, hPb⟩ := HB.out
    have hTk := HT.out k
    by_cases hlt : k < l.length
    · obtain ⟨e, hek⟩ : ∃ e, l[k]? = some e := ⟨_, List.getElem?_eq_getElem hlt⟩
      obtain ⟨b, rfl, hb, c0, c1, c2, c3⟩ := rdEdges_get HR.out hek
      have r0 := (hbel.cell (p := ⟨b, k * 4, none⟩) hb).trans c0
      have r1 := (hbel.cell (p := ⟨b, k * 4 + 1, none⟩) hb).trans c1
      have r2 := (hbel.cell (p := ⟨b, k * 4 + 2, none⟩) hb).trans c2
      have r3 := (hbel.cell (p := ⟨b, k * 4 + 3, none⟩) hb).trans c3
      have p0 : wr.cell? ⟨w.heap.size, 0, none⟩ = some (.int .i64 XN) := cell_of' hPb 0
      have p1 : wr.cell? ⟨w.heap.size, 1, none⟩ = some (.int .i64 XD) := cell_of' hPb 1
      have p2 : wr.cell? ⟨w.heap.size, 2, none⟩ = some (.int .i64 YN) := cell_of' hPb 2
      have p3 : wr.cell? ⟨w.heap.size, 3, none⟩ = some (.int .i64 YD) := cell_of' hPb 3
      have hbr : b < wr.heap.size := Nat.lt_of_lt_of_le hb hbel.size
      have hki : (k : Int) < (l.length : Int) := by omega
      have hmem := List.mem_of_getElem? hek
      have HTT : Hid (Ge.total (Ge.fu (x, y) dd) (l.take (k + 1)) = Ge.total (Ge.fu (x, y) dd) (l.take k) + Ge.fu (x, y) dd e.1 e.2) := total_take _ hek
      have HSM : Hid (smallE e) := HE.out e hmem
      have HNO : Hid (Ge.fo (x, y) dd e = false) := HN.out e hmem
      generalize Ge.total (Ge.fu (x, y) dd) (l.take k) = T at *
      clear hek c0 c1 c2 c3 HE HN HR HT HB0 HB hmem
      obtain ⟨⟨ex, ey⟩, fx, fy⟩ := e
      simp only at r0 r1 r2 r3
      have hst := over_step HP.out ((ex, ey), fx, fy) HDD.out _ _ _ _ rfl rfl rfl rfl
      have HH : Hid (∀ w1, Calls Tryz.prog 80 #[.agg #[.int .i64 ex, .int .i64 ey, .int .i64 fx, .int .i64 fy], .agg #[.int .i64 XN, .int .i64 XD, .int .i64 YN, .int .i64 YD]] w1 fun e w' => e = .returned (.bool false) ∧ Below w1.heap.size w1 w') := fun w1 => by
        have := rholds_any ((ex, ey), fx, fy) XN XD YN YD x y dd w1 HSM.out HP.out
        rw [HNO.out] at this; exact this
      have m1 : -50000000 ≤ ex * XD ∧ ex * XD ≤ 50000000 := mul_in (a := 50) (b := 1000000) HSM.out.a ⟨by have := HP.out.inn.xd; omega, HP.out.inn.xd.2⟩
      have m2 : -50000000 ≤ fx * XD ∧ fx * XD ≤ 50000000 := mul_in (a := 50) (b := 1000000) HSM.out.c ⟨by have := HP.out.inn.xd; omega, HP.out.inn.xd.2⟩
      have H1 : Hid (∀ w1, Calls Tryz.prog 49 #[.agg #[.int .i64 XN, .int .i64 XD], .agg #[.int .i64 ex, .int .i64 1]] w1 fun e w' => e = .returned (.int .i64 (XN * 1 - ex * XD).sign) ∧ Below w1.heap.size w1 w') := fun w1 => fcmp_any XN XD ex 1 _ _ w1 rfl rfl (by have := HP.out.inn.xn; omega) (by omega)
      have H2 : Hid (∀ w1, Calls Tryz.prog 49 #[.agg #[.int .i64 XN, .int .i64 XD], .agg #[.int .i64 fx, .int .i64 1]] w1 fun e w' => e = .returned (.int .i64 (XN * 1 - fx * XD).sign) ∧ Below w1.heap.size w1 w') := fun w1 => fcmp_any XN XD fx 1 _ _ w1 rfl rfl (by have := HP.out.inn.xn; omega) (by omega)
      have H3 : Hid (∀ w1, Calls Tryz.prog 133 #[.agg #[.int .i64 ex, .int .i64 ey, .int .i64 fx, .int .i64 fy], .agg #[.int .i64 XN, .int .i64 XD, .int .i64 YN, .int .i64 YD]] w1 fun e w' => e = .returned (.int .i64 ((fx - ex) * (YN - ey * YD) * XD - (fy - ey) * (XN - ex * XD) * YD).sign) ∧ Below w1.heap.size w1 w') := fun w1 => side_any ex ey fx fy XN XD YN YD w1 HSM.out.a HSM.out.b HSM.out.c HSM.out.d HP.out.inn
      have H4 : Hid (∀ w1, Calls Tryz.prog 135 #[.agg #[.int .i64 ex, .int .i64 ey, .int .i64 fx, .int .i64 fy]] w1 fun e w' => e = .returned (.int .i64 (fx - ex)) ∧ Below w1.heap.size w1 w') := fun w1 => rDx_any ex ey fx fy w1 HSM.out.a HSM.out.c
      simp only at hst
      generalize Ge.fu (x, y) dd (ex, ey) (fx, fy) = FU at *
      generalize (XN * 1 - ex * XD).sign = SA at *
      generalize (XN * 1 - fx * XD).sign = SB at *
      generalize ((fx - ex) * (YN - ey * YD) * XD - (fy - ey) * (XN - ex * XD) * YD).sign = SS at *
      generalize hDX : fx - ex = DX at *
      have HST : Hid (FU = (if DX > 0 ∧ SA ≥ 0 ∧ SB < 0 ∧ SS < 0 then -1 else 0) + (if DX < 0 ∧ SB ≥ 0 ∧ SA < 0 ∧ SS > 0 then 1 else 0)) := hst
      clear hst m1 m2 HSM HNO HP HDD hDX
      have hL0 : Below w.heap.size w (wr.alloc (.cells #[.int .i64 ex, .int .i64 ey, .int .i64 fx, .int .i64 fy] 151)) := hbel.alloc hbel.size _
      have hE0 := heap_alloc_new wr (.cells #[.int .i64 ex, .int .i64 ey, .int .i64 fx, .int .i64 fy] 151)
      have hP0 : (wr.alloc (.cells #[.int .i64 ex, .int .i64 ey, .int .i64 fx, .int .i64 fy] 151)).heap[w.heap.size]? = some (.cells #[.int .i64 XN, .int .i64 XD, .int .i64 YN, .int .i64 YD] 100 (0, 0)) := by
        rw [Below.heap_alloc _ _ _ hwz]; exact hPb
      have hsz : wr.heap.size + 1 = (wr.alloc (.cells #[.int .i64 ex, .int .i64 ey, .int .i64 fx, .int .i64 fy] 151)).heap.size := by simp
      go_wp2_with fail
      generalize wr.alloc (.cells #[.int .i64 ex, .int .i64 ey, .int .i64 fx, .int .i64 fy] 151) = w0 at *
      generalize hEe : wr.heap.size = E at *
      clear r0 r1 r2 r3 p0 p1 p2 p3
      refine (HH.out _).mono ?_
      rintro e w1 ⟨rfl, hb1⟩
      have hE1 := (hb1.block _ (show E < w0.heap.size by omega)).trans hE0
      have hP1 := (hb1.block _ (show w.heap.size < w0.heap.size by omega)).trans hP0
      have hb1z := hb1.size
      have hL1 := hL0.trans (hb1.mono (by omega))
      have e10 : w1.cell? ⟨E, 0, none⟩ = some (.int .i64 ex) := cell_of' hE1 0
      have e11 : w1.cell? ⟨E, 1, none⟩ = some (.int .i64 ey) := cell_of' hE1 1
      have e12 : w1.cell? ⟨E, 2, none⟩ = some (.int .i64 fx) := cell_of' hE1 2
      have e13 : w1.cell? ⟨E, 3, none⟩ = some (.int .i64 fy) := cell_of' hE1 3
      have q10 : w1.cell? ⟨w.heap.size, 0, none⟩ = some (.int .i64 XN) := cell_of' hP1 0
      have q11 : w1.cell? ⟨w.heap.size, 1, none⟩ = some (.int .i64 XD) := cell_of' hP1 1
      have q12 : w1.cell? ⟨w.heap.size, 2, none⟩ = some (.int .i64 YN) := cell_of' hP1 2
      have q13 : w1.cell? ⟨w.heap.size, 3, none⟩ = some (.int .i64 YD) := cell_of' hP1 3
      go_wp2_with fail
      refine (H1.out _).mono ?_
      rintro e w2 ⟨rfl, hb2⟩
      have hE2 := (hb2.block _ (show E < w1.heap.size by omega)).trans hE1
      have hP2 := (hb2.block _ (show w.heap.size < w1.heap.size by omega)).trans hP1
      have hb2z := hb2.size
      have hL2 := hL1.trans (hb2.mono (by omega))
      have e20 : w2.cell? ⟨E, 0, none⟩ = some (.int .i64 ex) := cell_of' hE2 0
      have e21 : w2.cell? ⟨E, 1, none⟩ = some (.int .i64 ey) := cell_of' hE2 1
      have e22 : w2.cell? ⟨E, 2, none⟩ = some (.int .i64 fx) := cell_of' hE2 2
      have e23 : w2.cell? ⟨E, 3, none⟩ = some (.int .i64 fy) := cell_of' hE2 3
      have q20 : w2.cell? ⟨w.heap.size, 0, none⟩ = some (.int .i64 XN) := cell_of' hP2 0
      have q21 : w2.cell? ⟨w.heap.size, 1, none⟩ = some (.int .i64 XD) := cell_of' hP2 1
      have q22 : w2.cell? ⟨w.heap.size, 2, none⟩ = some (.int .i64 YN) := cell_of' hP2 2
      have q23 : w2.cell? ⟨w.heap.size, 3, none⟩ = some (.int .i64 YD) := cell_of' hP2 3
      go_wp2_with fail
      refine (H2.out _).mono ?_
      rintro e w3 ⟨rfl, hb3⟩
      have hE3 := (hb3.block _ (show E < w2.heap.size by omega)).trans hE2
      have hP3 := (hb3.block _ (show w.heap.size < w2.heap.size by omega)).trans hP2
      have hb3z := hb3.size
      have hL3 := hL2.trans (hb3.mono (by omega))
      have e30 : w3.cell? ⟨E, 0, none⟩ = some (.int .i64 ex) := cell_of' hE3 0
      have e31 : w3.cell? ⟨E, 1, none⟩ = some (.int .i64 ey) := cell_of' hE3 1
      have e32 : w3.cell? ⟨E, 2, none⟩ = some (.int .i64 fx) := cell_of' hE3 2
      have e33 : w3.cell? ⟨E, 3, none⟩ = some (.int .i64 fy) := cell_of' hE3 3
      have q30 : w3.cell? ⟨w.heap.size, 0, none⟩ = some (.int .i64 XN) := cell_of' hP3 0
      have q31 : w3.cell? ⟨w.heap.size, 1, none⟩ = some (.int .i64 XD) := cell_of' hP3 1
      have q32 : w3.cell? ⟨w.heap.size, 2, none⟩ = some (.int .i64 YN) := cell_of' hP3 2
      have q33 : w3.cell? ⟨w.heap.size, 3, none⟩ = some (.int .i64 YD) := cell_of' hP3 3
      go_wp2_with fail
      refine (H3.out _).mono ?_
      rintro e w4 ⟨rfl, hb4⟩
      have hE4 := (hb4.block _ (show E < w3.heap.size by omega)).trans hE3
      have hP4 := (hb4.block _ (show w.heap.size < w3.heap.size by omega)).trans hP3
      have hb4z := hb4.size
      have hL4 := hL3.trans (hb4.mono (by omega))
      have e40 : w4.cell? ⟨E, 0, none⟩ = some (.int .i64 ex) := cell_of' hE4 0
      have e41 : w4.cell? ⟨E, 1, none⟩ = some (.int .i64 ey) := cell_of' hE4 1
      have e42 : w4.cell? ⟨E, 2, none⟩ = some (.int .i64 fx) := cell_of' hE4 2
      have e43 : w4.cell? ⟨E, 3, none⟩ = some (.int .i64 fy) := cell_of' hE4 3
      have q40 : w4.cell? ⟨w.heap.size, 0, none⟩ = some (.int .i64 XN) := cell_of' hP4 0
      have q41 : w4.cell? ⟨w.heap.size, 1, none⟩ = some (.int .i64 XD) := cell_of' hP4 1
      have q42 : w4.cell? ⟨w.heap.size, 2, none⟩ = some (.int .i64 YN) := cell_of' hP4 2
      have q43 : w4.cell? ⟨w.heap.size, 3, none⟩ = some (.int .i64 YD) := cell_of' hP4 3
      clear hE0 hE1 hE2 hE3 hP0 hP1 hP2 hP3 hb1 hb2 hb3 hb4 hL0 hL1 hL2 hL3 hbel hPb
      go_wp2_with fail
      refine (H4.out _).mono ?_
      rintro e w5 ⟨rfl, hb5⟩
      have hE5 := (hb5.block _ (show E < w4.heap.size by omega)).trans hE4
      have hP5 := (hb5.block _ (show w.heap.size < w4.heap.size by omega)).trans hP4
      have hb5z := hb5.size
      have hL5 := hL4.trans (hb5.mono (by omega))
      have e50 : w5.cell? ⟨E, 0, none⟩ = some (.int .i64 ex) := cell_of' hE5 0
      have e51 : w5.cell? ⟨E, 1, none⟩ = some (.int .i64 ey) := cell_of' hE5 1
      have e52 : w5.cell? ⟨E, 2, none⟩ = some (.int .i64 fx) := cell_of' hE5 2
      have e53 : w5.cell? ⟨E, 3, none⟩ = some (.int .i64 fy) := cell_of' hE5 3
      clear hE4 hP4 hb5 hL4 hE5 H1 H2 H3 HH
      clear e10 e11 e12 e13 e20 e21 e22 e23 e30 e31 e32 e33 e40 e41 e42 e43 q10 q11 q12 q13 q20 q21 q22 q23 q30 q31 q32 q33 q40 q41 q42 q43
      rcases (show DX < 0 ∨ DX = 0 ∨ 0 < DX by omega) with hdx | hdx | hdx <;> rcases (show SA < 0 ∨ 0 ≤ SA by omega) with hsa | hsa <;> rcases (show SB < 0 ∨ 0 ≤ SB by omega) with hsb | hsb <;> rcases (show SS < 0 ∨ SS = 0 ∨ 0 < SS by omega) with hss | hss | hss
      all_goals
        go_wp2_with fail
        refine (H4.out _).mono ?_
        rintro e w6 ⟨rfl, hb6⟩
        have hP6 := (hb6.block _ (show w.heap.size < w5.heap.size by omega)).trans hP5
        have hb6z := hb6.size
        have hL6 := hL5.trans (hb6.mono (by omega))
        clear hb6 hL5
        go_wp2_with fail
        go_roundg (gk - 1)
        case measure => omega
        case rel =>
          refine ⟨k + 1, by omega, by go_num, ?_, hL6, by omega, hP6⟩
          congr 1
          rw [HTT.out, HST.out]
          repeat' split
          all_goals omega
    · have hk : k = l.length := by omega
      subst hk
      rw [List.take_length]
      clear HR HE HN HT
      go_wp2_with fail
      go_ret
      exact ⟨rfl, hbel⟩

end Go.Proofs.YtkjhhooecopolaaGreatDoor
