import Derived.Test.YtkjhhooecopolaaGreatDoorVj24
import Derived.Test.YtkjhhooecopolaaGreatDoorVj37
namespace Go.Proofs.YtkjhhooecopolaaGreatDoor
open Go.RowKit

theorem wind_err (s : List UInt8) (x y d : Int) : (Pl.wind s x y d).2.2.1 ≤ 5 := by
  have h := err_small s
  unfold Pl.wind
  split
  · split
    · exact Nat.le_refl 5
    · split
      · exact Nat.zero_le 5
      · exact Nat.zero_le 5
  · show (Pl.err s).1 ≤ 5
    omega

set_option maxRecDepth 100000 in
set_option maxHeartbeats 1000000 in
theorem plays_wind (x y d : Int) (rule : Value) (s : ByteArray) (w : World) (hm : s.size ≤ maxLen) (hG : Gl w) :
    Calls Tryz.prog 27 #[.agg #[.int .i64 2, .int .i64 x, .int .i64 y, .int .i64 d, rule, .string s]] w fun e w' => e = .returned (.bool true) ∧ Below w.heap.size w w' := by
  have he := wind_err s.data.toList x y d
  have HP : Hid (∀ w1, Gl w1 → Calls Tryz.prog 17 #[.string s, .int .i64 x, .int .i64 y, .int .i64 d] w1 fun e w' => e = .returned (Pl.windV (Pl.wind s.data.toList x y d)) ∧ Below w1.heap.size w1 w') := fun w1 g1 => wind_any s x y d w1 hm g1
  have HM : Hid (∀ w1, Calls Tryz.prog 54 #[.string s, .int .i64 x, .int .i64 y, .int .i64 d] w1 fun e w' => e = .returned (Pl.windV (Pl.wind s.data.toList x y d)) ∧ Below w1.heap.size w1 w') := fun w1 => rwind_any s x y d w1 hm
  generalize Pl.wind s.data.toList x y d = R at *
  obtain ⟨R1, R2, R3, R4⟩ := R
  simp only [Pl.windV] at HP HM he
  have HN : Hid (∀ w1, Calls Tryz.prog 19 #[.int .i64 (R3 : Int)] w1 fun e w' => e = .returned (.int .i64 (R3 : Int)) ∧ w' = w1) := fun w1 => num_any R3 w1 (by omega) (by omega)
  clear he
  have hb0 : Below w.heap.size w (w.alloc (.cells #[.int .i64 2, .int .i64 x, .int .i64 y, .int .i64 d, rule, .string s] 26)) := (Below.refl _ _).alloc (Nat.le_refl _) _
  have hE0 := heap_alloc_new w (.cells #[.int .i64 2, .int .i64 x, .int .i64 y, .int .i64 d, rule, .string s] 26)
  have hz0 : w.heap.size < (w.alloc (.cells #[.int .i64 2, .int .i64 x, .int .i64 y, .int .i64 d, rule, .string s] 26)).heap.size := by simp
  have hG0 : Gl (w.alloc (.cells #[.int .i64 2, .int .i64 x, .int .i64 y, .int .i64 d, rule, .string s] 26)) := hG.alloc _
  go_enter Tryz.func27, Tryz.ntmps27
  go_wp2_with fail
  generalize w.alloc (.cells #[.int .i64 2, .int .i64 x, .int .i64 y, .int .i64 d, rule, .string s] 26) = W at *
  refine (HP.out _ hG0).mono ?_
  rintro e w1 ⟨rfl, hb1⟩
  have hE1 := (hb1.block _ hz0).trans hE0
  have c1 : w1.cell? ⟨w.heap.size, 1, none⟩ = some (.int .i64 x) := cell_of hE1 1
  have c2 : w1.cell? ⟨w.heap.size, 2, none⟩ = some (.int .i64 y) := cell_of hE1 2
  have c3 : w1.cell? ⟨w.heap.size, 3, none⟩ = some (.int .i64 d) := cell_of hE1 3
  have c5 : w1.cell? ⟨w.heap.size, 5, none⟩ = some (.string s) := cell_of hE1 5
  have hbel1 := hb0.trans (hb1.mono hb0.size)
  go_wp2_with fail
  refine (HM.out _).mono ?_
  rintro e w2 ⟨rfl, hb2⟩
  have hbel2 := hbel1.trans (hb2.mono hbel1.size)
  go_wp2_with fail
  refine (HN.out _).mono ?_
  rintro e w3 ⟨rfl, rfl⟩
  go_wp2_with fail
  go_ret
  exact ⟨rfl, hbel2⟩

end Go.Proofs.YtkjhhooecopolaaGreatDoor

namespace Go.Proofs.YtkjhhooecopolaaGreatDoor
open Go.RowKit

/-- The steps of a script, where they lie. -/
def OpAt (w : World) (b o : Nat) (K x y d r : Int) (s : ByteArray) : Prop :=
  w.cell? ⟨b, o, none⟩ = some (.int .i64 K) ∧ w.cell? ⟨b, o + 1, none⟩ = some (.int .i64 x) ∧ w.cell? ⟨b, o + 2, none⟩ = some (.int .i64 y) ∧ w.cell? ⟨b, o + 3, none⟩ = some (.int .i64 d) ∧
    w.cell? ⟨b, o + 4, none⟩ = some (.int .u8 r) ∧ w.cell? ⟨b, o + 5, none⟩ = some (.string s)
def Script (w : World) (so : Option Addr) (n : Nat) : Prop :=
  ∀ k, k < n → ∃ b o K x y d r s, so = some ⟨b, o, none⟩ ∧ b < w.heap.size ∧ s.size ≤ maxLen ∧ OpAt w b (o + k * 6) K x y d r s

set_option maxRecDepth 100000 in
set_option maxHeartbeats 1000000 in
theorem upTo_print (so : Option Addr) (n cap : Nat) (w : World) (hG : Gl w) (hS : Script w so n) (_hn : n ≤ maxLen) :
    Calls Tryz.prog 13 #[.slice so n cap, .int .i64 1, .int .i64 1] w fun e w' => e = .returned (.int .i64 (-1)) ∧ Below w.heap.size w w' := by
  have HS : Hid (Script w so n) := hS
  clear hS
  go_enter Tryz.func13, Tryz.ntmps13
  go_wp2_with fail
  go_loopg [7] n (fun g iv wr => ∃ k : Nat, k + g = n ∧ iv = .int .i64 k ∧ Hid (Below w.heap.size w wr ∧ Gl wr))
  case atStart => exact ⟨0, by omega, rfl, Below.refl _ _, hG⟩
  case round =>
    obtain ⟨k, hkn, rfl, HB⟩ := hrel
    obtain ⟨hbel, hGr⟩ := HB.out
    by_cases hlt : k < n ∧ k < 1152921504606846976
    · obtain ⟨hlt, hmx⟩ := hlt
      obtain ⟨b, o, K, x, y, d, r, s, rfl, hb, hs, c0, c1, c2, c3, c4, c5⟩ := HS.out k hlt
      have hki : (k : Int) < (n : Int) := by omega
      have hkm : (k : Int) < 1152921504606846976 := by omega
      have e0 : wr.cell? ⟨b, o + k * 6, none⟩ = some (.int .i64 K) := (hbel.cell (p := ⟨b, o + k * 6, none⟩) hb).trans c0
      have e1 : wr.cell? ⟨b, o + k * 6 + 1, none⟩ = some (.int .i64 x) := (hbel.cell (p := ⟨b, o + k * 6 + 1, none⟩) hb).trans c1
      have e2 : wr.cell? ⟨b, o + k * 6 + 2, none⟩ = some (.int .i64 y) := (hbel.cell (p := ⟨b, o + k * 6 + 2, none⟩) hb).trans c2
      have e3 : wr.cell? ⟨b, o + k * 6 + 3, none⟩ = some (.int .i64 d) := (hbel.cell (p := ⟨b, o + k * 6 + 3, none⟩) hb).trans c3
      have e4 : wr.cell? ⟨b, o + k * 6 + 4, none⟩ = some (.int .u8 r) := (hbel.cell (p := ⟨b, o + k * 6 + 4, none⟩) hb).trans c4
      have e5 : wr.cell? ⟨b, o + k * 6 + 5, none⟩ = some (.string s) := (hbel.cell (p := ⟨b, o + k * 6 + 5, none⟩) hb).trans c5
      have hbr : b < wr.heap.size := by have := hbel.size; omega
      have HBEL : Hid (Below w.heap.size w wr) := hbel
      have HA : Hid (∀ o', Below w.heap.size w (wr.alloc o')) := fun o' => hbel.alloc hbel.size _
      clear c0 c1 c2 c3 c4 c5 hbel HB HS
      by_cases hK : K = 1
      · subst hK
        go_wp2_with fail
        refine (plays_print x y d (.int .u8 r) s _ hs (hGr.alloc _)).mono ?_
        rintro e w5 ⟨rfl, hb5⟩
        go_wp2_with fail
        go_roundg (gk - 1)
        case measure => omega
        case rel => exact ⟨k + 1, by omega, by go_num, (HA.out _).trans (hb5.mono (HA.out _).size), (hGr.alloc _).below hb5 (hGr.alloc _).sz⟩
      · rcases Int.lt_or_gt_of_ne hK with h | h
        · have q1 : decide (1 ≤ K) = false := by simp; omega
          go_wp2_with fail
          go_roundg (gk - 1)
          case measure => omega
          case rel => exact ⟨k + 1, by omega, by go_num, HA.out _, hGr.alloc _⟩
        · have q1 : decide (1 ≤ K) = true := by simp; omega
          have q2 : decide (K ≤ 1) = false := by simp; omega
          go_wp2_with fail
          go_roundg (gk - 1)
          case measure => omega
          case rel => exact ⟨k + 1, by omega, by go_num, HA.out _, hGr.alloc _⟩
    · clear HS
      by_cases h1 : k < n
      · have h2 : 1152921504606846976 ≤ k := by omega
        have hki : (k : Int) < (n : Int) := by omega
        have hkm : decide ((k : Int) < 1152921504606846976) = false := by simp; omega
        clear hlt
        go_wp2_with fail
        go_ret
        exact ⟨rfl, hbel⟩
      · have hki : decide ((k : Int) < (n : Int)) = false := by simp; omega
        clear hlt
        go_wp2_with fail
        go_ret
        exact ⟨rfl, hbel⟩

end Go.Proofs.YtkjhhooecopolaaGreatDoor
