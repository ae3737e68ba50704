import Derived.Test.YtkjhhooecopolaaGreatDoorKj51
import Derived.Deep.LoopGhost
import Derived.Deep.RegionHeld3
import Derived.Deep.QuietTactic
namespace Go.Proofs.YtkjhhooecopolaaGreatDoor
open Go.RowKit

theorem _root_.Go.Lib.CompInv.take {d dk : Array Ge.Nd} {k : Nat} (h : Lib.CompInv d d.size k dk) : dk.toList.take k = Ge.cpt d.toList := by
  rw [← Ge.cpt_compact]
  apply List.ext_getElem?
  intro j
  rw [List.getElem?_take]
  by_cases hj : j < k
  · have hs := h.size
    have hl := h.lt
    rw [if_pos hj, h.low j hj, Array.getElem?_toList, Array.getElem?_eq_getElem (by omega), getElem!_pos dk j (by omega)]
  · rw [if_neg hj, List.getElem?_eq_none (by rw [h.len]; omega)]

theorem RW.dn {w : World} {g cap n : Nat} {d : Array Ge.Nd} {wr : World} (h : RW w g cap n d wr) (q : Nat) : RW w g cap n d (wr.drewN q) := ⟨h.size, h.own, ⟨h.below.os, h.below.tape, h.below.output, h.below.size, h.below.block⟩⟩

set_option maxRecDepth 100000 in
set_option maxHeartbeats 2000000 in
theorem compact_core (w : World) (g cap n : Nat) (d : Array Ge.Nd) (wr0 : World) (h : RW w g cap n d wr0) (hd : ∀ i, i < n → NodeIn (d[i]!).1 (d[i]!).2.1 (d[i]!).2.2) (hn : n ≤ 200000) (hc : n ≤ cap) :
    Calls Tryz.prog 126 #[.slice (some ⟨g, 0, none⟩) n cap] wr0 fun r w' => ∃ v', r = .returned v' ∧ RdN w' v' (Ge.cpt d.toList) ∧ Below w.heap.size w w' := by
  have HR : Hid (RW w g cap n d wr0) := h
  have HD : Hid (∀ i, i < n → NodeIn (d[i]!).1 (d[i]!).2.1 (d[i]!).2.2) := hd
  have hds : d.size = n := h.size
  clear h hd
  by_cases h2 : n < 2
  · go_enter Tryz.func126, Tryz.ntmps126
    go_wp2_with fail
    go_ret
    refine ⟨_, rfl, ?_, HR.out.below⟩
    rw [cpt_whole (fun j hj => Lib.keeps_lt_one d j (by omega))]
    exact HR.out.rd
  · go_enter Tryz.func126, Tryz.ntmps126
    go_wp2_with fail
    go_loopg [3] n (fun gk s3 wr => ∃ k : Nat, 1 ≤ k ∧ k ≤ n ∧ n - k ≤ gk ∧ s3 = .int .i64 k ∧ Hid (RW w g cap n d wr ∧ ∀ j, j < k → Lib.keeps d j = true))
    case atStart => exact ⟨1, Nat.le_refl _, by omega, by omega, rfl, HR.out, Lib.keeps_lt_one d⟩
    case round =>
      obtain ⟨k, hk1, hk, hg, rfl, HI⟩ := hrel
      by_cases hlt : k < n
      · obtain ⟨c1, d1, f1, z1⟩ := HI.out.1.cells k hlt
        obtain ⟨c0, d0, f0, z0⟩ := HI.out.1.cells (k - 1) (by omega)
        have hki : (k : Int) < (n : Int) := by omega
        have hop := nd_eql d[k]! d[k - 1]! (HD.out k hlt) (HD.out (k - 1) (by omega))
        have HX : Hid (d[k]! = d[k - 1]! → Lib.keeps d k = false) := fun e => Lib.keeps_neg (by omega) e
        have HY : Hid (d[k]! ≠ d[k - 1]! → Lib.keeps d k = true) := fun e => Lib.keeps_pos e
        have HXY : Hid (decide (d[k]! = d[k - 1]!) = true ↔ d[k]! = d[k - 1]!) := decide_eq_true_iff
        clear f1 z1 f0 z0
        generalize hB : decide (d[k]! = d[k - 1]!) = bq at hop HXY
        generalize floatOfInt .f64 (d[k]!).1 = A1 at *
        generalize floatOfInt .f64 (d[k]!).2.1 = A2 at *
        generalize (d[k]!).2.2 = A3 at *
        generalize floatOfInt .f64 (d[k - 1]!).1 = B1 at *
        generalize floatOfInt .f64 (d[k - 1]!).2.1 = B2 at *
        generalize (d[k - 1]!).2.2 = B3 at *
        clear hB
        go_wp2_with fail
        go_quiet (fail)
        cases bq
        · have HK := HY.out (fun e => by have := HXY.out.2 e; cases this)
          have HK' : Hid (Lib.keeps d k = true) := HK
          clear HK HX HY HXY c0 c1 d0 d1
          go_wp2_with fail
          go_roundg (n - (k + 1))
          case measure => omega
          case rel =>
            refine ⟨k + 1, by omega, by omega, Nat.le_refl _, by go_num, HI.out.1.dn nq, fun j hj => ?_⟩
            by_cases e : j = k
            · subst e
              exact HK'.out
            · exact HI.out.2 j (by omega)
        · have HK : Hid (Lib.keeps d k = false) := HX.out (HXY.out.1 rfl)
          clear HX HY HXY c0 c1 d0 d1
          have hkc : k ≤ cap := by omega
          go_wp2_with fail
          go_loopg [3, 5] n (fun gk s3 s5 wr2 => ∃ (kk k2 : Nat) (dk : Array Ge.Nd), s3 = .int .i64 kk ∧ s5 = .int .i64 k2 ∧ 1 ≤ k2 ∧ k + k2 ≤ n ∧ n - (k + k2) ≤ gk ∧ Hid (RW w g cap n dk wr2 ∧ Lib.CompInv d (k + k2) kk dk))
          case atStart => exact ⟨k, 1, d, rfl, rfl, Nat.le_refl _, by omega, by omega, HI.out.1.dn nq, Lib.CompInv.start HI.out.2 HK.out⟩
          case round =>
            obtain ⟨kk, k2, dk, rfl, rfl, h1, hle, hg2, HJ⟩ := hrel
            have hkk := HJ.out.2.lt
            by_cases hlt2 : k + k2 < n
            · obtain ⟨c1, d1, _, _⟩ := HJ.out.1.cells (k + k2) hlt2
              obtain ⟨c0, d0, _, _⟩ := HJ.out.1.cells (k + k2 - 1) (by omega)
              obtain ⟨ck, dkk, f1, z1⟩ := HJ.out.1.cells kk (by omega)
              rw [HJ.out.2.high (k + k2) (by omega), show (k + k2) * 2 = k * 2 + k2 * 2 by omega] at c1
              rw [HJ.out.2.high (k + k2) (by omega), show (k + k2) * 2 = k * 2 + k2 * 2 by omega] at d1
              rw [HJ.out.2.high (k + k2 - 1) (by omega), show (k + k2 - 1) * 2 = k * 2 + (k2 - 1) * 2 by omega] at c0
              rw [HJ.out.2.high (k + k2 - 1) (by omega), show (k + k2 - 1) * 2 = k * 2 + (k2 - 1) * 2 by omega] at d0
              have hop2 := nd_neq d[k + k2]! d[k + k2 - 1]! (HD.out (k + k2) hlt2) (HD.out (k + k2 - 1) (by omega))
              have HX : Hid (d[k + k2]! = d[k + k2 - 1]! → Lib.keeps d (k + k2) = false) := fun e => Lib.keeps_neg (by omega) e
              have HY : Hid (d[k + k2]! ≠ d[k + k2 - 1]! → Lib.keeps d (k + k2) = true) := fun e => Lib.keeps_pos e
              have HXY : Hid (decide (d[k + k2]! = d[k + k2 - 1]!) = true ↔ d[k + k2]! = d[k + k2 - 1]!) := decide_eq_true_iff
              have HS : Hid (∀ q, RW w g cap n (dk.setIfInBounds kk d[k + k2]!) (((wr.drewN q).setCell ⟨g, kk * 2, none⟩ (.complex .f64 (floatOfInt .f64 (d[k + k2]!).1) (floatOfInt .f64 (d[k + k2]!).2.1))).setCell ⟨g, kk * 2 + 1, none⟩ (.int .i64 (d[k + k2]!).2.2))) := fun q => (HJ.out.1.dn q).set kk (by omega) _
              have hk2i : (k2 : Int) < (n : Int) - (k : Int) := by omega
              have hk2n : k2 < n - k := by omega
              generalize hB : decide (d[k + k2]! = d[k + k2 - 1]!) = bq at hop2 HXY
              clear hB hop
              generalize floatOfInt .f64 (d[k + k2]!).1 = A1' at *
              generalize floatOfInt .f64 (d[k + k2]!).2.1 = A2' at *
              generalize (d[k + k2]!).2.2 = A3' at *
              generalize floatOfInt .f64 (d[k + k2 - 1]!).1 = B1' at *
              generalize floatOfInt .f64 (d[k + k2 - 1]!).2.1 = B2' at *
              generalize (d[k + k2 - 1]!).2.2 = B3' at *
              go_wp2_with fail
              go_quiet (fail)
              cases bq
              · have HK2 : Hid (Lib.keeps d (k + k2) = true) := HY.out (fun e => by have := HXY.out.2 e; cases this)
                clear HX HY HXY
                simp only [Bool.not_false]
                go_wp2_with (simp only [st_complex]; go_simp)
                go_roundg (n - (k + (k2 + 1)))
                case measure => omega
                case rel => exact ⟨kk + 1, k2 + 1, dk.setIfInBounds kk d[k + k2]!, by go_num, by go_num, by omega, by omega, Nat.le_refl _, HS.out _, HJ.out.2.keep (by omega) HK2.out⟩
              · have HK2 : Hid (Lib.keeps d (k + k2) = false) := HX.out (HXY.out.1 rfl)
                clear HX HY HXY
                simp only [Bool.not_true]
                go_wp2_with fail
                go_roundg (n - (k + (k2 + 1)))
                case measure => omega
                case rel => exact ⟨kk, k2 + 1, dk, rfl, by go_num, by omega, by omega, Nat.le_refl _, HJ.out.1.dn _, HJ.out.2.skip HK2.out⟩
            · have hend : k + k2 = d.size := by omega
              obtain ⟨w', hcl, hbel, hrd⟩ := HJ.out.1.clear kk (by omega) (cap - kk)
              have HRD : Hid (RdN w' (.slice (some ⟨g, 0, none⟩) kk cap) (Ge.cpt d.toList)) := by
                have hI := HJ.out.2
                rw [hend] at hI
                rw [← hI.take]
                exact hrd
              have HBE : Hid (Below w.heap.size w w') := hbel
              have hk2n : ¬ k2 < n - k := by omega
              have hkkn : kk ≤ n := by omega
              have hkkc : kk ≤ cap := by omega
              clear hrd hbel
              go_wp2_with fail
              go_ret
              exact ⟨_, rfl, HRD.out, HBE.out⟩
      · have : k = n := by omega
        subst this
        go_wp2_with fail
        go_ret
        refine ⟨_, rfl, ?_, HI.out.1.below⟩
        rw [cpt_whole (fun j hj => HI.out.2 j (by omega))]
        exact HI.out.1.rd

theorem compact_any (w : World) (lv : Value) (S : List Ge.Nd) (wr : World) (h : NL w lv S wr) (hl : S.length ≤ 200000) :
    Calls Tryz.prog 126 #[lv] wr fun r w' => ∃ v', r = .returned v' ∧ RdN w' v' (Ge.cpt S) ∧ Below w.heap.size w w' := by
  rcases h.own.2 with ⟨rfl, h0⟩ | ⟨g, cap, cur, rfl, hg, hblk, hnc, hcm, hcs, htk⟩
  · have hS : S = [] := List.length_eq_zero_iff.1 h0
    subst hS
    have HB : Hid (Below w.heap.size w wr) := h.below
    clear h h0 hl
    go_enter Tryz.func126, Tryz.ntmps126
    go_wp2_with fail
    go_ret
    exact ⟨_, rfl, World.ownsRow_nil _ _ _ _, HB.out⟩
  · have hR : RW w g cap S.length S.toArray wr := ⟨by simp, h.own, h.below⟩
    have hi : ∀ i, i < S.length → NodeIn (S.toArray[i]!).1 (S.toArray[i]!).2.1 (S.toArray[i]!).2.2 := fun i hi => by
      have e : S.toArray[i]! = S[i] := by rw [getElem!_pos S.toArray i (by simpa using hi)]; simp
      rw [e]
      exact h.inn _ (List.getElem_mem hi)
    exact compact_core w g cap S.length S.toArray wr hR hi hl hnc

end Go.Proofs.YtkjhhooecopolaaGreatDoor
