import Derived.Test.YtkjhhooecopolaaGreatDoorKj39
namespace Go.Proofs.YtkjhhooecopolaaGreatDoor
open Go.RowKit Go.Deep

set_option maxRecDepth 100000 in
set_option maxHeartbeats 1000000 in
theorem upTo_nodes (so : Option Addr) (n cap : Nat) (w : World) (hG : Gl w) (hS : Script w so n) (_hn : n ≤ maxLen) :
    Calls Tryz.prog 13 #[.slice so n cap, .int .i64 3, .int .i64 3] w fun e w' => e = .returned (.int .i64 (-1)) ∧ Below w.heap.size w w' := by
  have HS : Hid (Script w so n) := hS
  clear hS
  go_enter Tryz.func13, Tryz.ntmps13
  go_wp2_with fail
  go_loopg [7] n (fun g iv wr => ∃ k : Nat, k + g = n ∧ iv = .int .i64 k ∧ Hid (Below w.heap.size w wr ∧ Gl wr))
  case atStart => exact ⟨0, by omega, rfl, Below.refl _ _, hG⟩
  case round =>
    obtain ⟨k, hkn, rfl, HB⟩ := hrel
    obtain ⟨hbel, hGr⟩ := HB.out
    by_cases hlt : k < n ∧ k < 1152921504606846976
    · obtain ⟨hlt, hmx⟩ := hlt
      obtain ⟨b, o, K, x, y, d, r, s, rfl, hb, hs, c0, c1, c2, c3, c4, c5⟩ := HS.out k hlt
      have hki : (k : Int) < (n : Int) := by omega
      have hkm : (k : Int) < 1152921504606846976 := by omega
      have e0 : wr.cell? ⟨b, o + k * 6, none⟩ = some (.int .i64 K) := (hbel.cell (p := ⟨b, o + k * 6, none⟩) hb).trans c0
      have e1 : wr.cell? ⟨b, o + k * 6 + 1, none⟩ = some (.int .i64 x) := (hbel.cell (p := ⟨b, o + k * 6 + 1, none⟩) hb).trans c1
      have e2 : wr.cell? ⟨b, o + k * 6 + 2, none⟩ = some (.int .i64 y) := (hbel.cell (p := ⟨b, o + k * 6 + 2, none⟩) hb).trans c2
      have e3 : wr.cell? ⟨b, o + k * 6 + 3, none⟩ = some (.int .i64 d) := (hbel.cell (p := ⟨b, o + k * 6 + 3, none⟩) hb).trans c3
      have e4 : wr.cell? ⟨b, o + k * 6 + 4, none⟩ = some (.int .u8 r) := (hbel.cell (p := ⟨b, o + k * 6 + 4, none⟩) hb).trans c4
      have e5 : wr.cell? ⟨b, o + k * 6 + 5, none⟩ = some (.string s) := (hbel.cell (p := ⟨b, o + k * 6 + 5, none⟩) hb).trans c5
      have hbr : b < wr.heap.size := by have := hbel.size; omega
      have HBEL : Hid (Below w.heap.size w wr) := hbel
      have HA : Hid (∀ o', Below w.heap.size w (wr.alloc o')) := fun o' => hbel.alloc hbel.size _
      clear c0 c1 c2 c3 c4 c5 hbel HB HS
      by_cases hK : K = 3
      · subst hK
        go_wp2_with fail
        refine (plays_nodes x y d (.int .u8 r) s _ hs (hGr.alloc _)).mono ?_
        rintro e w5 ⟨rfl, hb5⟩
        go_wp2_with fail
        go_roundg (gk - 1)
        case measure => omega
        case rel => exact ⟨k + 1, by omega, by go_num, (HA.out _).trans (hb5.mono (HA.out _).size), (hGr.alloc _).below hb5 (hGr.alloc _).sz⟩
      · rcases Int.lt_or_gt_of_ne hK with h | h
        · have q1 : decide (3 ≤ K) = false := by simp; omega
          go_wp2_with fail
          go_roundg (gk - 1)
          case measure => omega
          case rel => exact ⟨k + 1, by omega, by go_num, HA.out _, hGr.alloc _⟩
        · have q1 : decide (3 ≤ K) = true := by simp; omega
          have q2 : decide (K ≤ 3) = false := by simp; omega
          go_wp2_with fail
          go_roundg (gk - 1)
          case measure => omega
          case rel => exact ⟨k + 1, by omega, by go_num, HA.out _, hGr.alloc _⟩
    · clear HS
      by_cases h1 : k < n
      · have h2 : 1152921504606846976 ≤ k := by omega
        have hki : (k : Int) < (n : Int) := by omega
        have hkm : decide ((k : Int) < 1152921504606846976) = false := by simp; omega
        clear hlt
        go_wp2_with fail
        go_ret
        exact ⟨rfl, hbel⟩
      · have hki : decide ((k : Int) < (n : Int)) = false := by simp; omega
        clear hlt
        go_wp2_with fail
        go_ret
        exact ⟨rfl, hbel⟩

set_option maxRecDepth 100000 in
set_option maxHeartbeats 400000 in
theorem nodded_law (so : Option Addr) (n cap : Nat) (w : World) (hG : Gl w) (hS : Script w so n) (hn : n ≤ maxLen) :
    Calls Tryz.prog 5 #[.slice so n cap] w fun e w' => e = .returned (.bool true) ∧ Below w.heap.size w w' := by
  have HU : Hid (Calls Tryz.prog 13 #[.slice so n cap, .int .i64 3, .int .i64 3] w fun e w' => e = .returned (.int .i64 (-1)) ∧ Below w.heap.size w w') := upTo_nodes so n cap w hG hS hn
  clear hS hn
  go_enter Tryz.func5, Tryz.ntmps5
  go_wp2_with fail
  refine HU.out.mono ?_
  rintro e w1 ⟨rfl, hb⟩
  go_wp2_with fail
  go_ret
  exact ⟨rfl, hb⟩

end Go.Proofs.YtkjhhooecopolaaGreatDoor
