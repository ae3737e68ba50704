import Derived.Test.YtmfnlpmlmgjleaaGreatDoorVj30
import Derived.Test.YtmfnlpmlmgjleaaGreatDoorVj26
import Derived.Test.YtmfnlpmlmgjleaaGreatDoorVj19
import Derived.Test.YtmfnlpmlmgjleaaGreatDoorVj20
import Derived.Deep.RegionLaw
import Derived.Deep.RegionWith
namespace Go.Proofs.YtmfnlpmlmgjleaaGreatDoor
open Go.RowKit

set_option maxRecDepth 100000 in
set_option maxHeartbeats 4000000 in
theorem over_any (l : List Ed) (v : Value) (XN XD YN YD x y dd : Int) (w : World) (hR : RdEdges w v l) (hl : l.length ≤ 65000000) (he : ∀ e ∈ l, smallE e) (hp : PtOf XN XD YN YD x y dd) (hdd : 0 < dd)
    (hno : ∀ e ∈ l, Ge.fo (x, y) dd e = false) :
    Calls Tryz.prog 29 #[v, .agg (poA XN XD YN YD)] w fun e w' => e = .returned (.int .i64 (Ge.total (Ge.fu (x, y) dd) l)) ∧ Below w.heap.size w w' := by
  obtain ⟨so, cap, rfl⟩ := rdEdges_slice hR
  have HR : Hid (RdEdges w (.slice so l.length cap) l) := hR
  have HE : Hid (∀ e ∈ l, smallE e) := he
  have HP : Hid (PtOf XN XD YN YD x y dd) := hp
  have HN : Hid (∀ e ∈ l, Ge.fo (x, y) dd e = false) := hno
  have HT : Hid (∀ k : Nat, -(k : Int) ≤ Ge.total (Ge.fu (x, y) dd) (l.take k) ∧ Ge.total (Ge.fu (x, y) dd) (l.take k) ≤ (k : Int)) := fun k => by
    have h := total_in (Ge.fu (x, y) dd) (fu_in _ _) (l.take k)
    have h2 : (l.take k).length ≤ k := by simp; omega
    omega
  have HDD : Hid (0 < dd) := hdd
  clear hR he hp hno hdd
  simp only [poA]
  have hb0 : Below w.heap.size w (w.alloc (.cells #[.int .i64 XN, .int .i64 XD, .int .i64 YN, .int .i64 YD] 73)) := (Below.refl _ _).alloc (Nat.le_refl _) _
  have hP0 := heap_alloc_new w (.cells #[.int .i64 XN, .int .i64 XD, .int .i64 YN, .int .i64 YD] 73)
  have HB0 : Hid (Below w.heap.size w (w.alloc (.cells #[.int .i64 XN, .int .i64 XD, .int .i64 YN, .int .i64 YD] 73)) ∧ (w.alloc (.cells #[.int .i64 XN, .int .i64 XD, .int .i64 YN, .int .i64 YD] 73)).heap[w.heap.size]? = some (.cells #[.int .i64 XN, .int .i64 XD, .int .i64 YN, .int .i64 YD] 73 (0, 0))) := ⟨hb0, hP0⟩
  clear hb0 hP0
  go_enter Tryz.func29, Tryz.ntmps29
  go_wp2_with fail
  go_loopg [5, 6] l.length (fun n tv iv wr => ∃ k : Nat, k + n = l.length ∧ iv = .int .i64 k ∧ tv = .int .i64 (Ge.total (Ge.fu (x, y) dd) (l.take k)) ∧ Hid (Below w.heap.size w wr ∧ w.heap.size < wr.heap.size ∧ wr.heap[w.heap.size]? = some (.cells #[.int .i64 XN, .int .i64 XD, .int .i64 YN, .int .i64 YD] 73 (0, 0))))
  case atStart => exact ⟨0, by omega, rfl, rfl, HB0.out.1, by simp, HB0.out.2⟩
  case round =>
    obtain ⟨k, hkn, rfl, rfl, HB⟩ := hrel
    obtain ⟨hbel, hwz, hPb⟩ := HB.out
    have hTk := HT.out k
    by_cases hlt : k < l.length
    · obtain ⟨e, hek⟩ : ∃ e, l[k]? = some e := ⟨_, List.getElem?_eq_getElem hlt⟩
      obtain ⟨b, rfl, hb, c0, c1, c2, c3⟩ := rdEdges_get HR.out hek
      have r0 := (hbel.cell (p := ⟨b, k * 4, none⟩) hb).trans c0
      have r1 := (hbel.cell (p := ⟨b, k * 4 + 1, none⟩) hb).trans c1
      have r2 := (hbel.cell (p := ⟨b, k * 4 + 2, none⟩) hb).trans c2
      have r3 := (hbel.cell (p := ⟨b, k * 4 + 3, none⟩) hb).trans c3
      have p0 : wr.cell? ⟨w.heap.size, 0, none⟩ = some (.int .i64 XN) := cell_of' hPb 0
      have p1 : wr.cell? ⟨w.heap.size, 1, none⟩ = some (.int .i64 XD) := cell_of' hPb 1
      have p2 : wr.cell? ⟨w.heap.size, 2, none⟩ = some (.int .i64 YN) := cell_of' hPb 2
      have p3 : wr.cell? ⟨w.heap.size, 3, none⟩ = some (.int .i64 YD) := cell_of' hPb 3
      have hbr : b < wr.heap.size := Nat.lt_of_lt_of_le hb hbel.size
      have hki : (k : Int) < (l.length : Int) := by omega
      have hmem := List.mem_of_getElem? hek
      have HTT : Hid (Ge.total (Ge.fu (x, y) dd) (l.take (k + 1)) = Ge.total (Ge.fu (x, y) dd) (l.take k) + Ge.fu (x, y) dd e.1 e.2) := total_take _ hek
      have HSM : Hid (smallE e) := HE.out e hmem
      have HNO : Hid (Ge.fo (x, y) dd e = false) := HN.out e hmem
      generalize Ge.total (Ge.fu (x, y) dd) (l.take k) = T at *
      clear hek c0 c1 c2 c3 HE HN HR HT HB0 HB hmem
      obtain ⟨⟨ex, ey⟩, fx, fy⟩ := e
      simp only at r0 r1 r2 r3
      have hst := over_step HP.out ((ex, ey), fx, fy) HDD.out _ _ _ _ rfl rfl rfl rfl
      have HH : Hid (∀ w1, Calls Tryz.prog 28 #[.agg #[.int .i64 ex, .int .i64 ey, .int .i64 fx, .int .i64 fy], .agg #[.int .i64 XN, .int .i64 XD, .int .i64 YN, .int .i64 YD]] w1 fun e w' => e = .returned (.bool false) ∧ Below w1.heap.size w1 w') := fun w1 => by
        have := rholds_any ((ex, ey), fx, fy) XN XD YN YD x y dd w1 HSM.out HP.out
        rw [HNO.out] at this; exact this
      have m1 : -50000000 ≤ ex * XD ∧ ex * XD ≤ 50000000 := mul_in (a := 50) (b := 1000000) HSM.out.a ⟨by have := HP.out.inn.xd; omega, HP.out.inn.xd.2⟩
      have m2 : -50000000 ≤ fx * XD ∧ fx * XD ≤ 50000000 := mul_in (a := 50) (b := 1000000) HSM.out.c ⟨by have := HP.out.inn.xd; omega, HP.out.inn.xd.2⟩
      have H1 : Hid (∀ w1, Calls Tryz.prog 52 #[.agg #[.int .i64 XN, .int .i64 XD], .agg #[.int .i64 ex, .int .i64 1]] w1 fun e w' => e = .returned (.int .i64 (XN * 1 - ex * XD).sign) ∧ Below w1.heap.size w1 w') := fun w1 => fcmp_any XN XD ex 1 _ _ w1 rfl rfl (by have := HP.out.inn.xn; omega) (by omega)
      have H2 : Hid (∀ w1, Calls Tryz.prog 52 #[.agg #[.int .i64 XN, .int .i64 XD], .agg #[.int .i64 fx, .int .i64 1]] w1 fun e w' => e = .returned (.int .i64 (XN * 1 - fx * XD).sign) ∧ Below w1.heap.size w1 w') := fun w1 => fcmp_any XN XD fx 1 _ _ w1 rfl rfl (by have := HP.out.inn.xn; omega) (by omega)
      have H3 : Hid (∀ w1, Calls Tryz.prog 50 #[.agg #[.int .i64 ex, .int .i64 ey, .int .i64 fx, .int .i64 fy], .agg #[.int .i64 XN, .int .i64 XD, .int .i64 YN, .int .i64 YD]] w1 fun e w' => e = .returned (.int .i64 ((fx - ex) * (YN - ey * YD) * XD - (fy - ey) * (XN - ex * XD) * YD).sign) ∧ Below w1.heap.size w1 w') := fun w1 => side_any ex ey fx fy XN XD YN YD w1 HSM.out.a HSM.out.b HSM.out.c HSM.out.d HP.out.inn
      have H4 : Hid (∀ w1, Calls Tryz.prog 53 #[.agg #[.int .i64 ex, .int .i64 ey, .int .i64 fx, .int .i64 fy]] w1 fun e w' => e = .returned (.int .i64 (fx - ex)) ∧ Below w1.heap.size w1 w') := fun w1 => rDx_any ex ey fx fy w1 HSM.out.a HSM.out.c
      simp only at hst
      generalize Ge.fu (x, y) dd (ex, ey) (fx, fy) = FU at *
      generalize (XN * 1 - ex * XD).sign = SA at *
      generalize (XN * 1 - fx * XD).sign = SB at *
      generalize ((fx - ex) * (YN - ey * YD) * XD - (fy - ey) * (XN - ex * XD) * YD).sign = SS at *
      generalize hDX : fx - ex = DX at *
      have HST : Hid (FU = (if DX > 0 ∧ SA ≥ 0 ∧ SB < 0 ∧ SS < 0 then -1 else 0) + (if DX < 0 ∧ SB ≥ 0 ∧ SA < 0 ∧ SS > 0 then 1 else 0)) := hst
      clear hst m1 m2 HSM HNO HP HDD hDX
      have hL0 : Below w.heap.size w (wr.alloc (.cells #[.int .i64 ex, .int .i64 ey, .int .i64 fx, .int .i64 fy] 79)) := hbel.alloc hbel.size _
      have hE0 := heap_alloc_new wr (.cells #[.int .i64 ex, .int .i64 ey, .int .i64 fx, .int .i64 fy] 79)
      have hP0 : (wr.alloc (.cells #[.int .i64 ex, .int .i64 ey, .int .i64 fx, .int .i64 fy] 79)).heap[w.heap.size]? = some (.cells #[.int .i64 XN, .int .i64 XD, .int .i64 YN, .int .i64 YD] 73 (0, 0)) := by
        rw [Below.heap_alloc _ _ _ hwz]; exact hPb
      have hsz : wr.heap.size + 1 = (wr.alloc (.cells #[.int .i64 ex, .int .i64 ey, .int .i64 fx, .int .i64 fy] 79)).heap.size := by simp
      go_wp2_with fail
      generalize wr.alloc (.cells #[.int .i64 ex, .int .i64 ey, .int .i64 fx, .int .i64 fy] 79) = w0 at *
      generalize hEe : wr.heap.size = E at *
      clear r0 r1 r2 r3 p0 p1 p2 p3
      refine (HH.out _).mono ?_
      rintro e w1 ⟨rfl, hb1⟩
      have hE1 := (hb1.block _ (show E < w0.heap.size by omega)).trans hE0
      have hP1 := (hb1.block _ (show w.heap.size < w0.heap.size by omega)).trans hP0
      have hb1z := hb1.size
      have hL1 := hL0.trans (hb1.mono (by omega))
      have e10 : w1.cell? ⟨E, 0, none⟩ = some (.int .i64 ex) := cell_of' hE1 0
      have e11 : w1.cell? ⟨E, 1, none⟩ = some (.int .i64 ey) := cell_of' hE1 1
      have e12 : w1.cell? ⟨E, 2, none⟩ = some (.int .i64 fx) := cell_of' hE1 2
      have e13 : w1.cell? ⟨E, 3, none⟩ = some (.int .i64 fy) := cell_of' hE1 3
      have q10 : w1.cell? ⟨w.heap.size, 0, none⟩ = some (.int .i64 XN) := cell_of' hP1 0
      have q11 : w1.cell? ⟨w.heap.size, 1, none⟩ = some (.int .i64 XD) := cell_of' hP1 1
      have q12 : w1.cell? ⟨w.heap.size, 2, none⟩ = some (.int .i64 YN) := cell_of' hP1 2
      have q13 : w1.cell? ⟨w.heap.size, 3, none⟩ = some (.int .i64 YD) := cell_of' hP1 3
      go_wp2_with fail
      refine (H1.out _).mono ?_
      rintro e w2 ⟨rfl, hb2⟩
      have hE2 := (hb2.block _ (show E < w1.heap.size by omega)).trans hE1
      have hP2 := (hb2.block _ (show w.heap.size < w1.heap.size by omega)).trans hP1
      have hb2z := hb2.size
      have hL2 := hL1.trans (hb2.mono (by omega))
      have e20 : w2.cell? ⟨E, 0, none⟩ = some (.int .i64 ex) := cell_of' hE2 0
      have e21 : w2.cell? ⟨E, 1, none⟩ = some (.int .i64 ey) := cell_of' hE2 1
      have e22 : w2.cell? ⟨E, 2, none⟩ = some (.int .i64 fx) := cell_of' hE2 2
      have e23 : w2.cell? ⟨E, 3, none⟩ = some (.int .i64 fy) := cell_of' hE2 3
      have q20 : w2.cell? ⟨w.heap.size, 0, none⟩ = some (.int .i64 XN) := cell_of' hP2 0
      have q21 : w2.cell? ⟨w.heap.size, 1, none⟩ = some (.int .i64 XD) := cell_of' hP2 1
      have q22 : w2.cell? ⟨w.heap.size, 2, none⟩ = some (.int .i64 YN) := cell_of' hP2 2
      have q23 : w2.cell? ⟨w.heap.size, 3, none⟩ = some (.int .i64 YD) := cell_of' hP2 3
      go_wp2_with fail
      refine (H2.out _).mono ?_
      rintro e w3 ⟨rfl, hb3⟩
      have hE3 := (hb3.block _ (show E < w2.heap.size by omega)).trans hE2
      have hP3 := (hb3.block _ (show w.heap.size < w2.heap.size by omega)).trans hP2
      have hb3z := hb3.size
      have hL3 := hL2.trans (hb3.mono (by omega))
      have e30 : w3.cell? ⟨E, 0, none⟩ = some (.int .i64 ex) := cell_of' hE3 0
      have e31 : w3.cell? ⟨E, 1, none⟩ = some (.int .i64 ey) := cell_of' hE3 1
      have e32 : w3.cell? ⟨E, 2, none⟩ = some (.int .i64 fx) := cell_of' hE3 2
      have e33 : w3.cell? ⟨E, 3, none⟩ = some (.int .i64 fy) := cell_of' hE3 3
      have q30 : w3.cell? ⟨w.heap.size, 0, none⟩ = some (.int .i64 XN) := cell_of' hP3 0
      have q31 : w3.cell? ⟨w.heap.size, 1, none⟩ = some (.int .i64 XD) := cell_of' hP3 1
      have q32 : w3.cell? ⟨w.heap.size, 2, none⟩ = some (.int .i64 YN) := cell_of' hP3 2
      have q33 : w3.cell? ⟨w.heap.size, 3, none⟩ = some (.int .i64 YD) := cell_of' hP3 3
      go_wp2_with fail
      refine (H3.out _).mono ?_
      rintro e w4 ⟨rfl, hb4⟩
      have hE4 := (hb4.block _ (show E < w3.heap.size by omega)).trans hE3
      have hP4 := (hb4.block _ (show w.heap.size < w3.heap.size by omega)).trans hP3
      have hb4z := hb4.size
      have hL4 := hL3.trans (hb4.mono (by omega))
      have e40 : w4.cell? ⟨E, 0, none⟩ = some (.int .i64 ex) := cell_of' hE4 0
      have e41 : w4.cell? ⟨E, 1, none⟩ = some (.int .i64 ey) := cell_of' hE4 1
      have e42 : w4.cell? ⟨E, 2, none⟩ = some (.int .i64 fx) := cell_of' hE4 2
      have e43 : w4.cell? ⟨E, 3, none⟩ = some (.int .i64 fy) := cell_of' hE4 3
      have q40 : w4.cell? ⟨w.heap.size, 0, none⟩ = some (.int .i64 XN) := cell_of' hP4 0
      have q41 : w4.cell? ⟨w.heap.size, 1, none⟩ = some (.int .i64 XD) := cell_of' hP4 1
      have q42 : w4.cell? ⟨w.heap.size, 2, none⟩ = some (.int .i64 YN) := cell_of' hP4 2
      have q43 : w4.cell? ⟨w.heap.size, 3, none⟩ = some (.int .i64 YD) := cell_of' hP4 3
      clear hE0 hE1 hE2 hE3 hP0 hP1 hP2 hP3 hb1 hb2 hb3 hb4 hL0 hL1 hL2 hL3 hbel hPb
      go_wp2_with fail
      refine (H4.out _).mono ?_
      rintro e w5 ⟨rfl, hb5⟩
      have hE5 := (hb5.block _ (show E < w4.heap.size by omega)).trans hE4
      have hP5 := (hb5.block _ (show w.heap.size < w4.heap.size by omega)).trans hP4
      have hb5z := hb5.size
      have hL5 := hL4.trans (hb5.mono (by omega))
      have e50 : w5.cell? ⟨E, 0, none⟩ = some (.int .i64 ex) := cell_of' hE5 0
      have e51 : w5.cell? ⟨E, 1, none⟩ = some (.int .i64 ey) := cell_of' hE5 1
      have e52 : w5.cell? ⟨E, 2, none⟩ = some (.int .i64 fx) := cell_of' hE5 2
      have e53 : w5.cell? ⟨E, 3, none⟩ = some (.int .i64 fy) := cell_of' hE5 3
      clear hE4 hP4 hb5 hL4 hE5 H1 H2 H3 HH
      clear e10 e11 e12 e13 e20 e21 e22 e23 e30 e31 e32 e33 e40 e41 e42 e43 q10 q11 q12 q13 q20 q21 q22 q23 q30 q31 q32 q33 q40 q41 q42 q43
      rcases (show DX < 0 ∨ DX = 0 ∨ 0 < DX by omega) with hdx | hdx | hdx <;> rcases (show SA < 0 ∨ 0 ≤ SA by omega) with hsa | hsa <;> rcases (show SB < 0 ∨ 0 ≤ SB by omega) with hsb | hsb <;> rcases (show SS < 0 ∨ SS = 0 ∨ 0 < SS by omega) with hss | hss | hss
      all_goals
        go_wp2_with fail
        refine (H4.out _).mono ?_
        rintro e w6 ⟨rfl, hb6⟩
        have hP6 := (hb6.block _ (show w.heap.size < w5.heap.size by omega)).trans hP5
        have hb6z := hb6.size
        have hL6 := hL5.trans (hb6.mono (by omega))
        clear hb6 hL5
        go_wp2_with fail
        go_roundg (gk - 1)
        case measure => omega
        case rel =>
          refine ⟨k + 1, by omega, by go_num, ?_, hL6, by omega, hP6⟩
          congr 1
          rw [HTT.out, HST.out]
          repeat' split
          all_goals omega
    · have hk : k = l.length := by omega
      subst hk
      rw [List.take_length]
      clear HR HE HN HT
      go_wp2_with fail
      go_ret
      exact ⟨rfl, hbel⟩

end Go.Proofs.YtmfnlpmlmgjleaaGreatDoor

namespace Go.Proofs.YtmfnlpmlmgjleaaGreatDoor
open Go.RowKit

/-- The edges so far, the shape's own block, and what was there ahead of the call. -/
def EIn (w : World) (sh : Array Value) (lv : Value) (acc : List Ed) (wr : World) : Prop :=
  wr.ownsRow w.heap.size 79 4 lv acc.length (edRow acc) ∧ Below w.heap.size w wr ∧ w.heap.size < wr.heap.size ∧ wr.heap[w.heap.size]? = some (.cells sh 43 (0, 0))

theorem edRow_snoc (l : List Ed) (e : Ed) : edRow (l ++ [e]) = edRow l ++ (edA e).toList := by simp [edRow]

theorem EIn.alloc {w wr : World} {sh : Array Value} {lv : Value} {acc : List Ed} (h : EIn w sh lv acc wr) (o : Obj) : EIn w sh lv acc (wr.alloc o) := by
  obtain ⟨h1, h2, h3, h4⟩ := h
  refine ⟨own_kept h1 fun k hk => Below.heap_alloc _ _ _ (own_lt h1 k hk).2, h2.alloc h2.size _, by simp; omega, ?_⟩
  rw [Below.heap_alloc _ _ _ h3]; exact h4

theorem EIn.drew {w wr : World} {sh : Array Value} {lv : Value} {acc : List Ed} (h : EIn w sh lv acc wr) : EIn w sh lv acc wr.drew :=
  ⟨own_kept h.1 fun _ _ => rfl, h.2.1.drew, h.2.2.1, h.2.2.2⟩

theorem EIn.grown {w W5 w6 : World} {sh : Array Value} {lv lv' : Value} {acc acc' : List Ed} {o : Obj} (h : EIn w sh lv acc W5) (hg : (W5.alloc o).drew.grownBy w6 lv.ownBlock)
    (ho : w6.ownsRow w.heap.size 79 4 lv' acc'.length (edRow acc')) : EIn w sh lv' acc' w6 := by
  obtain ⟨h1, h2, h3, h4⟩ := h
  have hs := hg.size
  have hs' : W5.heap.size + 1 ≤ w6.heap.size := by
    have e : (W5.alloc o).drew.heap.size = W5.heap.size + 1 := by show (W5.alloc o).heap.size = _; simp
    omega
  have hne : lv.ownBlock ≠ some w.heap.size := own_elem h1 h4 (by decide)
  refine ⟨ho, ⟨hg.os.trans h2.os, hg.tape.trans h2.tape, hg.output.trans h2.output, ?_, fun k hk => ?_⟩, by omega, ?_⟩
  · have := h2.size; omega
  · have := h2.size
    exact (grown_heap_drew hg k (by omega) (own_base_ne h1 k hk)).trans (h2.block k hk)
  · exact (grown_heap_drew hg _ h3 hne).trans h4

theorem cell_alloc (w : World) (o : Obj) {b k : Nat} (h : b < w.heap.size) : (w.alloc o).cell? ⟨b, k, none⟩ = w.cell? ⟨b, k, none⟩ := by
  simp only [World.cell?]
  rw [Below.heap_alloc _ _ _ h]

theorem edgeInfo : (Tryz.prog.info? 79).map (fun i => (i.zero, i.size, i.bytes)) = some (some (.agg #[.int .i64 0, .int .i64 0, .int .i64 0, .int .i64 0]), 4, 32) := by kernel_rfl

theorem ring_cells {w : World} {so : Option Addr} {n cap : Nat} {g : List (Int × Int)} (hR : RdRing w (.slice so n cap) g) {k : Nat} {p : Int × Int} (hp : g[k]? = some p) :
    ∃ b, so = some ⟨b, 0, none⟩ ∧ b < w.heap.size ∧ w.cell? ⟨b, k * 2, none⟩ = some (.int .i64 p.1) ∧ w.cell? ⟨b, k * 2 + 1, none⟩ = some (.int .i64 p.2) := by
  obtain ⟨a0, a1⟩ := pairRow_get g k p hp
  obtain ⟨b, c, hv, hb, hc⟩ := own_get' hR a0
  injection hv with hv
  exact ⟨b, hv, hb, hc _ _ a0, hc _ _ a1⟩

set_option maxRecDepth 100000 in
set_option maxHeartbeats 4000000 in
theorem redges_any (ps : List (List (List (Int × Int)))) (W : ByteArray) (pv : Value) (w : World) (hR : RdMulti w pv ps) (hok : okMulti ps) :
    Calls Tryz.prog 27 #[.agg #[.string W, pv, .int .i64 0]] w fun e w' => ∃ v, e = .returned v ∧ RdEdges w' v (Ge.allEdges ps.flatten) ∧ Below w.heap.size w w' := by
  obtain ⟨so, cap, rfl⟩ := rdRow_slice hR
  obtain ⟨i0, hi, hz0, hz1, hz2⟩ := info_parts edgeInfo
  have HR : Hid (RdMulti w (.slice so ps.length cap) ps) := hR
  have HOK : Hid (okMulti ps) := hok
  have hl : ps.length ≤ 402 := hok.1
  clear hR hok
  have HIN : Hid (EIn w #[.string W, .slice so ps.length cap, .int .i64 0] (.slice none 0 0) [] (w.alloc (.cells #[.string W, .slice so ps.length cap, .int .i64 0] 43))) :=
    ⟨World.ownsRow_nil _ _ _ _, (Below.refl _ _).alloc (Nat.le_refl _) _, by simp, heap_alloc_new _ _⟩
  have HLEN : Hid (∀ i, (Ge.allEdges (ps.take i).flatten).length ≤ 65000000) := fun i => by
    have h := Ge.flat_le 402 402 (ps.take i) (fun p hp => ⟨(HOK.out.2 p (List.mem_of_mem_take hp)).1, fun g hg => ((HOK.out.2 p (List.mem_of_mem_take hp)).2 g hg).2⟩)
    have h2 : (ps.take i).length ≤ 402 := by simp; omega
    omega
  go_enter Tryz.func27, Tryz.ntmps27
  go_wp2_with fail
  go_loopg [3, 4] ps.length (fun m lv iv wr => ∃ i : Nat, i + m = ps.length ∧ iv = .int .i64 i ∧ Hid (EIn w #[.string W, .slice so ps.length cap, .int .i64 0] lv (Ge.allEdges (ps.take i).flatten) wr))
  case atStart => exact ⟨0, by omega, rfl, HIN⟩
  case round =>
    obtain ⟨i, him, rfl, HE⟩ := hrel
    obtain ⟨hown, hbel, hwz, hbx⟩ := HE.out
    have c1 : wr.cell? ⟨w.heap.size, 1, none⟩ = some (.slice so ps.length cap) := cell_of' hbx 1
    clear HIN
    by_cases hlt : i < ps.length
    · obtain ⟨p, hp⟩ : ∃ p, ps[i]? = some p := ⟨_, List.getElem?_eq_getElem hlt⟩
      obtain ⟨b, u, rfl, hb, e0, hru⟩ := rdRow_get HR.out hp
      obtain ⟨us, uc, rfl⟩ := rdRow_slice hru
      have HOKP : Hid (okPoly p) := HOK.out.2 p (List.mem_of_getElem? hp)
      have HRP : Hid (RdPoly w (.slice us p.length uc) p) := hru
      have HCP : Hid (w.cell? ⟨b, i, none⟩ = some (.slice us p.length uc)) := e0
      have hpl : p.length ≤ 402 := HOKP.out.1
      have HT : Hid (Ge.allEdges (ps.take (i + 1)).flatten = Ge.allEdges (ps.take i).flatten ++ Ge.allEdges p) := Ge.flat_take hp
      have hli := HLEN.out i
      have HL2 : Hid (∀ k, (Ge.allEdges (p.take k)).length ≤ 162000) := fun k => by
        have h := Ge.all_le 402 (p.take k) (fun g hg => (HOKP.out.2 g (List.mem_of_mem_take hg)).2)
        have h2 : (p.take k).length ≤ 402 := by simp; omega
        omega
      generalize Ge.allEdges (ps.take i).flatten = A1 at *
      have hki : (i : Int) < (ps.length : Int) := by omega
      obtain ⟨m1, hm1⟩ : ∃ m1, m1 = gk := ⟨_, rfl⟩
      clear hp e0 hru HOK HR hown hbx
      go_wp2_with fail
      go_loopg [3, 5] p.length (fun m lv kv wr => ∃ k : Nat, k + m = p.length ∧ kv = .int .i64 k ∧ Hid (EIn w #[.string W, .slice (some ⟨b, 0, none⟩) ps.length cap, .int .i64 0] lv (A1 ++ Ge.allEdges (p.take k)) wr))
      case atStart => exact ⟨0, by omega, rfl, by simpa [Ge.allEdges] using HE⟩
      case round =>
        obtain ⟨k, hkm, rfl, HE2⟩ := hrel
        obtain ⟨hown2, hbel2, hwz2, hbx2⟩ := HE2.out
        have d1 : wr.cell? ⟨w.heap.size, 1, none⟩ = some (.slice (some ⟨b, 0, none⟩) ps.length cap) := cell_of' hbx2 1
        have d2 := (hbel2.cell (p := ⟨b, i, none⟩) hb).trans HCP.out
        have hbr : b < wr.heap.size := Nat.lt_of_lt_of_le hb hbel2.size
        clear HE
        by_cases hlt2 : k < p.length
        · obtain ⟨g, hg⟩ : ∃ g, p[k]? = some g := ⟨_, List.getElem?_eq_getElem hlt2⟩
          obtain ⟨b2, u2, rfl, hb2, e2, hru2⟩ := rdRow_get HRP.out hg
          obtain ⟨gs, gc, rfl⟩ := rdRing_slice hru2
          have hgl : g.length ≤ 402 := (HOKP.out.2 g (List.mem_of_getElem? hg)).2
          have HRG : Hid (RdRing w (.slice gs g.length gc) g) := hru2
          have d3 := (hbel2.cell (p := ⟨b2, k, none⟩) hb2).trans e2
          have HT2 : Hid (Ge.allEdges (p.take (k + 1)) = Ge.allEdges (p.take k) ++ Ge.edges g) := Ge.all_take hg
          have hl2 := HL2.out k
          have hki2 : (k : Int) < (p.length : Int) := by omega
          have hbr2 : b2 < wr.heap.size := Nat.lt_of_lt_of_le hb2 hbel2.size
          obtain ⟨m2, hm2⟩ : ∃ m2, m2 = gk := ⟨_, rfl⟩
          generalize Ge.allEdges (p.take k) = A2 at *
          clear hg e2 hru2 hown2 hbx2
          go_wp2_with fail
          go_loopg [3, 7] g.length (fun m lv nv wr => ∃ n : Nat, n + m = g.length ∧ nv = .int .i64 n ∧ Hid (EIn w #[.string W, .slice (some ⟨b, 0, none⟩) ps.length cap, .int .i64 0] lv (A1 ++ A2 ++ Ge.edT g n) wr))
          case atStart => exact ⟨0, by omega, rfl, by simpa [Ge.edT_zero] using HE2⟩
          case round =>
            obtain ⟨n, hnm, rfl, HE3⟩ := hrel
            obtain ⟨hown3, hbel3, hwz3, hbx3⟩ := HE3.out
            clear HE2 d1 d2 d3
            by_cases hlt3 : n < g.length
            · obtain ⟨P, hP⟩ : ∃ P, g[n]? = some P := ⟨_, List.getElem?_eq_getElem hlt3⟩
              obtain ⟨F, hF⟩ : ∃ F, g[0]? = some F := ⟨_, List.getElem?_eq_getElem (show 0 < g.length by omega)⟩
              obtain ⟨b3, rfl, hb3, p0, p1⟩ := ring_cells HRG.out hP
              obtain ⟨b4, hb4, _, f0, f1⟩ := ring_cells HRG.out hF
              injection hb4 with hb4
              injection hb4 with hb4
              subst hb4
              rw [Nat.zero_mul] at f0 f1
              rw [Nat.zero_add] at f1
              have r0 := (hbel3.cell (p := ⟨b3, n * 2, none⟩) hb3).trans p0
              have r1 := (hbel3.cell (p := ⟨b3, n * 2 + 1, none⟩) hb3).trans p1
              have r2 := (hbel3.cell (p := ⟨b3, 0, none⟩) hb3).trans f0
              have r3 := (hbel3.cell (p := ⟨b3, 1, none⟩) hb3).trans f1
              have hbr3 : b3 < wr.heap.size := Nat.lt_of_lt_of_le hb3 hbel3.size
              have hki3 : (n : Int) < (g.length : Int) := by omega
              have h0g : (0 : Int) < (g.length : Int) := by omega
              have HP : Hid (g[n]? = some P) := hP
              have HF : Hid (g[0]? = some F) := hF
              clear p0 p1 f0 f1 hP hF
              by_cases hn1 : n + 1 < g.length
              · obtain ⟨Q, hQ⟩ : ∃ Q, g[n + 1]? = some Q := ⟨_, List.getElem?_eq_getElem hn1⟩
                obtain ⟨b4, hb4, _, f0, f1⟩ := ring_cells HRG.out hQ
                injection hb4 with hb4
                injection hb4 with hb4
                subst hb4
                have r4 := (hbel3.cell (p := ⟨b3, (n + 1) * 2, none⟩) hb3).trans f0
                have r5 := (hbel3.cell (p := ⟨b3, (n + 1) * 2 + 1, none⟩) hb3).trans f1
                have hki4 : (n : Int) + 1 < (g.length : Int) := by omega
                have HQ : Hid (Ge.nextOf g n = some Q) := by unfold Ge.nextOf Hid; rw [if_pos hn1]; exact hQ
                clear f0 f1 hQ
                go_wp2_with fail
                have hEW : EIn w #[.string W, .slice (some ⟨b, 0, none⟩) ps.length cap, .int .i64 0] u3 (A1 ++ A2 ++ Ge.edT g n) (wr.alloc (.cells #[.int .i64 Q.1, .int .i64 Q.2] 77)) := HE3.out.alloc _
                have s0 : (wr.alloc (.cells #[.int .i64 Q.1, .int .i64 Q.2] 77)).cell? ⟨b3, n * 2, none⟩ = some (.int .i64 P.1) := by rw [← r0]; exact cell_alloc _ _ hbr3
                have s1 : (wr.alloc (.cells #[.int .i64 Q.1, .int .i64 Q.2] 77)).cell? ⟨b3, n * 2 + 1, none⟩ = some (.int .i64 P.2) := by rw [← r1]; exact cell_alloc _ _ hbr3
                have s2 : (wr.alloc (.cells #[.int .i64 Q.1, .int .i64 Q.2] 77)).cell? ⟨wr.heap.size, 0, none⟩ = some (.int .i64 Q.1) := cell_of' (heap_alloc_new _ _) 0
                have s3 : (wr.alloc (.cells #[.int .i64 Q.1, .int .i64 Q.2] 77)).cell? ⟨wr.heap.size, 1, none⟩ = some (.int .i64 Q.2) := cell_of' (heap_alloc_new _ _) 1
                have hQB := heap_alloc_new wr (.cells #[.int .i64 Q.1, .int .i64 Q.2] 77)
                have hsW : wr.heap.size < (wr.alloc (.cells #[.int .i64 Q.1, .int .i64 Q.2] 77)).heap.size := by simp
                generalize wr.alloc (.cells #[.int .i64 Q.1, .int .i64 Q.2] 77) = W4 at *
                have hbr4 : b3 < W4.heap.size := by omega
                clear r0 r1 r2 r3 r4 r5 HE3 hown3 hbx3 hbel3 hwz3
                generalize wr.heap.size = BQ at *
                obtain ⟨P1, P2⟩ := P
                obtain ⟨Q1, Q2⟩ := Q
                simp only at s0 s1 s2 s3
                by_cases hpq : (P1, P2) = (Q1, Q2)
                · injection hpq with hpq1 hpq2
                  subst hpq1 hpq2
                  have HN : Hid (EIn w #[.string W, .slice (some ⟨b, 0, none⟩) ps.length cap, .int .i64 0] u3 (A1 ++ A2 ++ Ge.edT g (n + 1)) W4.drew) := by
                    rw [Ge.edT_eq HP.out HQ.out rfl]; exact hEW.drew
                  clear hEW HF HRG
                  go_region_held3 (fun w' => w'.cell? ⟨b3, n * 2, none⟩ = some (.int .i64 P1) ∧ w'.cell? ⟨b3, n * 2 + 1, none⟩ = some (.int .i64 P2) ∧ w'.cell? ⟨BQ, 0, none⟩ = some (.int .i64 P1) ∧ w'.cell? ⟨BQ, 1, none⟩ = some (.int .i64 P2)) (go_keep) (fail)
                  go_wp2_with fail
                  go_roundg (gk - 1)
                  case measure => omega
                  case rel => exact ⟨n + 1, by omega, by go_num, HN⟩
                · have HNE : Hid (Ge.edT g (n + 1) = Ge.edT g n ++ [((P1, P2), (Q1, Q2))]) := Ge.edT_ne HP.out HQ.out hpq
                  have hal : (A1 ++ A2 ++ Ge.edT g n).length ≤ 66000000 := by
                    have := Ge.edT_le g n
                    simp only [List.length_append]; omega
                  have HA3 : Hid (∃ A3, A3 = A1 ++ A2 ++ Ge.edT g n) := ⟨_, rfl⟩
                  obtain ⟨A3, hA3⟩ := HA3.out
                  rw [← hA3] at hEW hal
                  have HA : Hid (A3 = A1 ++ A2 ++ Ge.edT g n) := hA3
                  clear hA3 HA3
                  rcases (show (P1 == Q1) = false ∨ ((P1 == Q1) = true ∧ (P2 == Q2) = false) by
                    by_cases h1 : P1 = Q1
                    · by_cases h2 : P2 = Q2
                      · exact absurd (by rw [h1, h2]) hpq
                      · exact Or.inr ⟨beq_iff_eq.2 h1, beq_eq_false_iff_ne.2 h2⟩
                    · exact Or.inl (beq_eq_false_iff_ne.2 h1)) with hq1 | ⟨hq1, hq2⟩
                  all_goals
                    clear hpq HP HQ HF HRG
                    go_region_held3 (fun w' => w'.cell? ⟨b3, n * 2, none⟩ = some (.int .i64 P1) ∧ w'.cell? ⟨b3, n * 2 + 1, none⟩ = some (.int .i64 P2) ∧ w'.cell? ⟨BQ, 0, none⟩ = some (.int .i64 Q1) ∧ w'.cell? ⟨BQ, 1, none⟩ = some (.int .i64 Q2)) (go_keep) (fail)
                    go_wp2_with fail
                    have hE5 : EIn w #[.string W, .slice (some ⟨b, 0, none⟩) ps.length cap, .int .i64 0] u3 A3 W4.drew := hEW.drew
                    have t0 : W4.drew.cell? ⟨b3, n * 2, none⟩ = some (.int .i64 P1) := s0
                    have t1 : W4.drew.cell? ⟨b3, n * 2 + 1, none⟩ = some (.int .i64 P2) := s1
                    have t2 : W4.drew.cell? ⟨BQ, 0, none⟩ = some (.int .i64 Q1) := s2
                    have t3 : W4.drew.cell? ⟨BQ, 1, none⟩ = some (.int .i64 Q2) := s3
                    clear hEW s0 s1 s2 s3
                    have hQB : W4.drew.heap[BQ]? = some (.cells #[.int .i64 Q1, .int .i64 Q2] 77 (0, 0)) := hQB
                    have hsW : BQ < W4.drew.heap.size := hsW
                    have hbr4 : b3 < W4.drew.heap.size := hbr4
                    generalize W4.drew = W5 at *
                    obtain ⟨ho5, hb5, hz5, hx5⟩ := hE5
                    have ne3 : u3.ownBlock ≠ some b3 := own_base_ne ho5 b3 hb3
                    have neQ : u3.ownBlock ≠ some BQ := own_elem ho5 hQB (by decide)
                    have hE5 : EIn w #[.string W, .slice (some ⟨b, 0, none⟩) ps.length cap, .int .i64 0] u3 A3 W5 := ⟨ho5, hb5, hz5, hx5⟩
                    go_region_held3 (fun w' => w'.cell? ⟨b3, n * 2, none⟩ = some (.int .i64 P1) ∧ w'.cell? ⟨b3, n * 2 + 1, none⟩ = some (.int .i64 P2) ∧ w'.cell? ⟨BQ, 0, none⟩ = some (.int .i64 Q1) ∧ w'.cell? ⟨BQ, 1, none⟩ = some (.int .i64 Q2))
                      (first
                        | go_keep
                        | (go_split_ands
                           refine ⟨?_, ?_, ?_, ?_⟩
                           · (rw [hgrow6.cell_far _ (by simp; omega) (Ne.symm ne3)]; assumption)
                           · (rw [hgrow6.cell_far _ (by simp; omega) (Ne.symm ne3)]; assumption)
                           · (rw [hgrow6.cell_far _ (by simp; omega) (Ne.symm neQ)]; assumption)
                           · (rw [hgrow6.cell_far _ (by simp; omega) (Ne.symm neQ)]; assumption)))
                      ((refine step_append_lies _ (by rfl) _ _ _ (by rfl) w.heap.size 79 i0 _ 4 32 Tryz.underlying74 hi hz0 hz1 hz2 rfl (by decide) u3 A3.length (edRow A3) (by rfl) (own_kept ho5 (fun k hk => Below.heap_alloc _ _ _ (own_lt ho5 k hk).2)) ⟨W5.heap.size, 0, none⟩ 1 1 [.int .i64 P1, .int .i64 P2, .int .i64 Q1, .int .i64 Q2] (by rfl) (by rfl) (World.news_of_block (cs := #[.int .i64 P1, .int .i64 P2, .int .i64 Q1, .int .i64 Q2]) (t := 79) (fr := (0, 0)) (heap_alloc_new W5 _)) (by simp [Value.oneCell']) (by decide) (by unfold maxLen; omega) (by omega) (by simp; omega) (W5.heap.size + 1) (by simp) ?_; intro g' cap' w6 ho6 hgrow6 hat6 hlt6))
                    have HN : Hid (EIn w #[.string W, .slice (some ⟨b, 0, none⟩) ps.length cap, .int .i64 0] (.slice (some ⟨g', 0, none⟩) (A3.length + 1) cap') (A1 ++ A2 ++ Ge.edT g (n + 1)) w6) := by
                      rw [HNE.out, ← List.append_assoc, ← HA.out]
                      exact hE5.grown hgrow6 (by rw [edRow_snoc, List.length_append]; exact ho6)
                    clear ho6 hgrow6 hE5 ho5 hb5 hx5 hz5
                    go_wp2_with fail
                    go_roundg (gk - 1)
                    case measure => omega
                    case rel => exact ⟨n + 1, by omega, by go_num, HN⟩
              · have HQ : Hid (Ge.nextOf g n = some F) := by unfold Ge.nextOf Hid; rw [if_neg hn1]; exact HF.out
                obtain ⟨Q, hQF⟩ : ∃ Q, Q = F := ⟨_, rfl⟩
                subst hQF
                have hki4 : ¬ ((n : Int) + 1 < (g.length : Int)) := by omega
                go_wp2_with fail
                have hEW : EIn w #[.string W, .slice (some ⟨b, 0, none⟩) ps.length cap, .int .i64 0] u3 (A1 ++ A2 ++ Ge.edT g n) (wr.alloc (.cells #[.int .i64 Q.1, .int .i64 Q.2] 77)) := HE3.out.alloc _
                have s0 : (wr.alloc (.cells #[.int .i64 Q.1, .int .i64 Q.2] 77)).cell? ⟨b3, n * 2, none⟩ = some (.int .i64 P.1) := by rw [← r0]; exact cell_alloc _ _ hbr3
                have s1 : (wr.alloc (.cells #[.int .i64 Q.1, .int .i64 Q.2] 77)).cell? ⟨b3, n * 2 + 1, none⟩ = some (.int .i64 P.2) := by rw [← r1]; exact cell_alloc _ _ hbr3
                have s2 : (wr.alloc (.cells #[.int .i64 Q.1, .int .i64 Q.2] 77)).cell? ⟨wr.heap.size, 0, none⟩ = some (.int .i64 Q.1) := cell_of' (heap_alloc_new _ _) 0
                have s3 : (wr.alloc (.cells #[.int .i64 Q.1, .int .i64 Q.2] 77)).cell? ⟨wr.heap.size, 1, none⟩ = some (.int .i64 Q.2) := cell_of' (heap_alloc_new _ _) 1
                have hQB := heap_alloc_new wr (.cells #[.int .i64 Q.1, .int .i64 Q.2] 77)
                have hsW : wr.heap.size < (wr.alloc (.cells #[.int .i64 Q.1, .int .i64 Q.2] 77)).heap.size := by simp
                generalize wr.alloc (.cells #[.int .i64 Q.1, .int .i64 Q.2] 77) = W4 at *
                have hbr4 : b3 < W4.heap.size := by omega
                clear r0 r1 r2 r3 HE3 hown3 hbx3 hbel3 hwz3
                generalize wr.heap.size = BQ at *
                obtain ⟨P1, P2⟩ := P
                obtain ⟨Q1, Q2⟩ := Q
                simp only at s0 s1 s2 s3
                by_cases hpq : (P1, P2) = (Q1, Q2)
                · injection hpq with hpq1 hpq2
                  subst hpq1 hpq2
                  have HN : Hid (EIn w #[.string W, .slice (some ⟨b, 0, none⟩) ps.length cap, .int .i64 0] u3 (A1 ++ A2 ++ Ge.edT g (n + 1)) W4.drew) := by
                    rw [Ge.edT_eq HP.out HQ.out rfl]; exact hEW.drew
                  clear hEW HF HRG
                  go_region_held3 (fun w' => w'.cell? ⟨b3, n * 2, none⟩ = some (.int .i64 P1) ∧ w'.cell? ⟨b3, n * 2 + 1, none⟩ = some (.int .i64 P2) ∧ w'.cell? ⟨BQ, 0, none⟩ = some (.int .i64 P1) ∧ w'.cell? ⟨BQ, 1, none⟩ = some (.int .i64 P2)) (go_keep) (fail)
                  go_wp2_with fail
                  go_roundg (gk - 1)
                  case measure => omega
                  case rel => exact ⟨n + 1, by omega, by go_num, HN⟩
                · have HNE : Hid (Ge.edT g (n + 1) = Ge.edT g n ++ [((P1, P2), (Q1, Q2))]) := Ge.edT_ne HP.out HQ.out hpq
                  have hal : (A1 ++ A2 ++ Ge.edT g n).length ≤ 66000000 := by
                    have := Ge.edT_le g n
                    simp only [List.length_append]; omega
                  have HA3 : Hid (∃ A3, A3 = A1 ++ A2 ++ Ge.edT g n) := ⟨_, rfl⟩
                  obtain ⟨A3, hA3⟩ := HA3.out
                  rw [← hA3] at hEW hal
                  have HA : Hid (A3 = A1 ++ A2 ++ Ge.edT g n) := hA3
                  clear hA3 HA3
                  rcases (show (P1 == Q1) = false ∨ ((P1 == Q1) = true ∧ (P2 == Q2) = false) by
                    by_cases h1 : P1 = Q1
                    · by_cases h2 : P2 = Q2
                      · exact absurd (by rw [h1, h2]) hpq
                      · exact Or.inr ⟨beq_iff_eq.2 h1, beq_eq_false_iff_ne.2 h2⟩
                    · exact Or.inl (beq_eq_false_iff_ne.2 h1)) with hq1 | ⟨hq1, hq2⟩
                  all_goals
                    clear hpq HP HQ HF HRG
                    go_region_held3 (fun w' => w'.cell? ⟨b3, n * 2, none⟩ = some (.int .i64 P1) ∧ w'.cell? ⟨b3, n * 2 + 1, none⟩ = some (.int .i64 P2) ∧ w'.cell? ⟨BQ, 0, none⟩ = some (.int .i64 Q1) ∧ w'.cell? ⟨BQ, 1, none⟩ = some (.int .i64 Q2)) (go_keep) (fail)
                    go_wp2_with fail
                    have hE5 : EIn w #[.string W, .slice (some ⟨b, 0, none⟩) ps.length cap, .int .i64 0] u3 A3 W4.drew := hEW.drew
                    have t0 : W4.drew.cell? ⟨b3, n * 2, none⟩ = some (.int .i64 P1) := s0
                    have t1 : W4.drew.cell? ⟨b3, n * 2 + 1, none⟩ = some (.int .i64 P2) := s1
                    have t2 : W4.drew.cell? ⟨BQ, 0, none⟩ = some (.int .i64 Q1) := s2
                    have t3 : W4.drew.cell? ⟨BQ, 1, none⟩ = some (.int .i64 Q2) := s3
                    clear hEW s0 s1 s2 s3
                    have hQB : W4.drew.heap[BQ]? = some (.cells #[.int .i64 Q1, .int .i64 Q2] 77 (0, 0)) := hQB
                    have hsW : BQ < W4.drew.heap.size := hsW
                    have hbr4 : b3 < W4.drew.heap.size := hbr4
                    generalize W4.drew = W5 at *
                    obtain ⟨ho5, hb5, hz5, hx5⟩ := hE5
                    have ne3 : u3.ownBlock ≠ some b3 := own_base_ne ho5 b3 hb3
                    have neQ : u3.ownBlock ≠ some BQ := own_elem ho5 hQB (by decide)
                    have hE5 : EIn w #[.string W, .slice (some ⟨b, 0, none⟩) ps.length cap, .int .i64 0] u3 A3 W5 := ⟨ho5, hb5, hz5, hx5⟩
                    go_region_held3 (fun w' => w'.cell? ⟨b3, n * 2, none⟩ = some (.int .i64 P1) ∧ w'.cell? ⟨b3, n * 2 + 1, none⟩ = some (.int .i64 P2) ∧ w'.cell? ⟨BQ, 0, none⟩ = some (.int .i64 Q1) ∧ w'.cell? ⟨BQ, 1, none⟩ = some (.int .i64 Q2))
                      (first
                        | go_keep
                        | (go_split_ands
                           refine ⟨?_, ?_, ?_, ?_⟩
                           · (rw [hgrow6.cell_far _ (by simp; omega) (Ne.symm ne3)]; assumption)
                           · (rw [hgrow6.cell_far _ (by simp; omega) (Ne.symm ne3)]; assumption)
                           · (rw [hgrow6.cell_far _ (by simp; omega) (Ne.symm neQ)]; assumption)
                           · (rw [hgrow6.cell_far _ (by simp; omega) (Ne.symm neQ)]; assumption)))
                      ((refine step_append_lies _ (by rfl) _ _ _ (by rfl) w.heap.size 79 i0 _ 4 32 Tryz.underlying74 hi hz0 hz1 hz2 rfl (by decide) u3 A3.length (edRow A3) (by rfl) (own_kept ho5 (fun k hk => Below.heap_alloc _ _ _ (own_lt ho5 k hk).2)) ⟨W5.heap.size, 0, none⟩ 1 1 [.int .i64 P1, .int .i64 P2, .int .i64 Q1, .int .i64 Q2] (by rfl) (by rfl) (World.news_of_block (cs := #[.int .i64 P1, .int .i64 P2, .int .i64 Q1, .int .i64 Q2]) (t := 79) (fr := (0, 0)) (heap_alloc_new W5 _)) (by simp [Value.oneCell']) (by decide) (by unfold maxLen; omega) (by omega) (by simp; omega) (W5.heap.size + 1) (by simp) ?_; intro g' cap' w6 ho6 hgrow6 hat6 hlt6))
                    have HN : Hid (EIn w #[.string W, .slice (some ⟨b, 0, none⟩) ps.length cap, .int .i64 0] (.slice (some ⟨g', 0, none⟩) (A3.length + 1) cap') (A1 ++ A2 ++ Ge.edT g (n + 1)) w6) := by
                      rw [HNE.out, ← List.append_assoc, ← HA.out]
                      exact hE5.grown hgrow6 (by rw [edRow_snoc, List.length_append]; exact ho6)
                    clear ho6 hgrow6 hE5 ho5 hb5 hx5 hz5
                    go_wp2_with fail
                    go_roundg (gk - 1)
                    case measure => omega
                    case rel => exact ⟨n + 1, by omega, by go_num, HN⟩
            · have hn : n = g.length := by omega
              subst hn
              have HN : Hid (EIn w #[.string W, .slice (some ⟨b, 0, none⟩) ps.length cap, .int .i64 0] u3 (A1 ++ Ge.allEdges (p.take (k + 1))) wr) := by
                rw [HT2.out, ← List.append_assoc, ← Ge.edT_all]; exact HE3.out
              clear HE3 hown3 hbel3 hbx3 HRG HT2 HL2
              go_wp2_with fail
              go_roundg (m2 - 1)
              case measure => omega
              case rel => exact ⟨k + 1, by omega, by go_num, HN⟩
        · have hk : k = p.length := by omega
          subst hk
          have HN : Hid (EIn w #[.string W, .slice (some ⟨b, 0, none⟩) ps.length cap, .int .i64 0] u3 (Ge.allEdges (ps.take (i + 1)).flatten) wr) := by
            rw [HT.out]
            have := HE2.out
            rw [List.take_length] at this
            exact this
          clear HE2 hown2 hbx2 HRP HT HL2
          go_wp2_with fail
          go_roundg (m1 - 1)
          case measure => omega
          case rel => exact ⟨i + 1, by omega, by go_num, HN⟩
    · have hk : i = ps.length := by omega
      subst hk
      have HF : Hid (EIn w #[.string W, .slice so ps.length cap, .int .i64 0] u3 (Ge.allEdges ps.flatten) wr) := by
        rw [List.take_length] at HE; exact HE
      clear HE HR HOK HLEN hown hbel hbx
      go_wp2_with fail
      go_ret
      exact ⟨_, rfl, own_zero HF.out.1, HF.out.2.1⟩

end Go.Proofs.YtmfnlpmlmgjleaaGreatDoor
