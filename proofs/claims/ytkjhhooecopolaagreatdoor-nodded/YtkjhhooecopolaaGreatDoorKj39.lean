import Derived.Test.YtkjhhooecopolaaGreatDoorKj16
import Derived.Test.YtkjhhooecopolaaGreatDoorKj38
import Derived.Test.YtkjhhooecopolaaGreatDoorKj30
import Derived.Deep.Slices
import Derived.ChangeSame
namespace Go.Proofs.YtkjhhooecopolaaGreatDoor
open Go.RowKit

set_option maxRecDepth 100000 in
set_option maxHeartbeats 400000 in
theorem lnodes_any (s : ByteArray) (w : World) (hm : s.size ≤ maxLen) (hG : Gl w) :
    Calls Tryz.prog 21 #[.string s] w fun e w' => e = .returned (.agg #[.string ⟨(Pl.ntext s.data.toList).toArray⟩, .int .i64 (Pl.err s.data.toList).1, .int .i64 (Pl.err s.data.toList).2]) ∧ Below w.heap.size w w' := by
  have HP : Hid (∀ w1, Gl w1 → Calls Tryz.prog 41 #[.string s] w1 fun e w' => e = .returned (.tuple #[.string ⟨(Pl.ntext s.data.toList).toArray⟩, .int .i64 (Pl.err s.data.toList).1, .int .i64 (Pl.err s.data.toList).2]) ∧ Below w1.heap.size w1 w') := fun w1 g1 => nodes_any s w1 hm g1
  have he := err_small s.data.toList
  generalize (Pl.err s.data.toList).1 = E at *
  generalize (Pl.err s.data.toList).2 = Pp at *
  generalize Pl.ntext s.data.toList = PT at *
  have HN : Hid (∀ w1, Calls Tryz.prog 19 #[.int .i64 (E : Int)] w1 fun e w' => e = .returned (.int .i64 (E : Int)) ∧ w' = w1) := fun w1 => num_any E w1 (by omega) (by omega)
  clear he
  go_enter Tryz.func21, Tryz.ntmps21
  go_wp2_with fail
  have hb0 : Below w.heap.size w (w.alloc (.cells #[.string ⟨#[]⟩, .int .i64 0, .int .i64 0] 38)) := (Below.refl _ _).alloc (Nat.le_refl _) _
  refine (HP.out _ (hG.alloc _)).mono ?_
  rintro e w1 ⟨rfl, hb1⟩
  have hbx : w1.heap[w.heap.size]? = some (.cells #[.string ⟨#[]⟩, .int .i64 0, .int .i64 0] 38) := (hb1.block _ (by simp)).trans (heap_alloc_new _ _)
  have c0 : w1.cell? ⟨w.heap.size, 0, none⟩ = some (.string ⟨#[]⟩) := cell_of hbx 0
  have c1 : w1.cell? ⟨w.heap.size, 1, none⟩ = some (.int .i64 0) := cell_of hbx 1
  have c2 : w1.cell? ⟨w.heap.size, 2, none⟩ = some (.int .i64 0) := cell_of hbx 2
  have z0 : w1.frozen? ⟨w.heap.size, 0, none⟩ = false := frozen_of hbx 0
  have z1 : w1.frozen? ⟨w.heap.size, 1, none⟩ = false := frozen_of hbx 1
  have z2 : w1.frozen? ⟨w.heap.size, 2, none⟩ = false := frozen_of hbx 2
  have hbel := hb0.trans (hb1.mono hb0.size)
  clear hbx
  go_wp2_with fail
  refine (HN.out _).mono ?_
  rintro e w2 ⟨rfl, rfl⟩
  go_wp2_with fail
  refine bodyPost_ret (v := .agg #[.string ⟨PT.toArray⟩, .int .i64 E, .int .i64 Pp]) (by simp [results, Tryz.results21, go_sem, c0, c1, c2]) rfl ⟨rfl, ?_⟩
  exact ((hbel.setCell (Nat.le_refl _) _).setCell (Nat.le_refl _) _).setCell (Nat.le_refl _) _

set_option maxRecDepth 100000 in
set_option maxHeartbeats 400000 in
theorem plays_nodes (x y d : Int) (rule : Value) (s : ByteArray) (w : World) (hm : s.size ≤ maxLen) (hG : Gl w) :
    Calls Tryz.prog 27 #[.agg #[.int .i64 3, .int .i64 x, .int .i64 y, .int .i64 d, rule, .string s]] w fun e w' => e = .returned (.bool true) ∧ Below w.heap.size w w' := by
  have HP : Hid (∀ w1, Gl w1 → Calls Tryz.prog 21 #[.string s] w1 fun e w' => e = .returned (.agg #[.string ⟨(Pl.ntext s.data.toList).toArray⟩, .int .i64 (Pl.err s.data.toList).1, .int .i64 (Pl.err s.data.toList).2]) ∧ Below w1.heap.size w1 w') := fun w1 g1 => lnodes_any s w1 hm g1
  have HM : Hid (∀ w1, Gl w1 → Calls Tryz.prog 55 #[.string s] w1 fun e w' => e = .returned (.tuple #[.string ⟨(Pl.ntext s.data.toList).toArray⟩, .int .i64 (Pl.err s.data.toList).1, .int .i64 (Pl.err s.data.toList).2]) ∧ Below w1.heap.size w1 w') := fun w1 g1 => rnodes_any s w1 hm g1
  generalize (Pl.err s.data.toList).1 = E at *
  generalize (Pl.err s.data.toList).2 = Pp at *
  generalize Pl.ntext s.data.toList = PT at *
  go_enter Tryz.func27, Tryz.ntmps27
  go_wp2_with fail
  refine (HM.out _ (hG.alloc _)).mono ?_
  rintro e w1 ⟨rfl, hb1⟩
  have hG1 : Gl w1 := (hG.alloc _).below hb1 (hG.alloc _).sz
  have c5 : w1.cell? ⟨w.heap.size, 5, none⟩ = some (.string s) := (hb1.cell (p := ⟨w.heap.size, 5, none⟩) (by simp)).trans (cell_of (heap_alloc_new _ _) 5)
  go_wp2_with fail
  refine (HP.out _ hG1).mono ?_
  rintro e w2 ⟨rfl, hb2⟩
  go_wp2_with fail
  go_ret
  have hb0 : Below w.heap.size w (w.alloc (.cells #[.int .i64 3, .int .i64 x, .int .i64 y, .int .i64 d, rule, .string s] 26)) := (Below.refl _ _).alloc (Nat.le_refl _) _
  have hb3 := (hb0.trans (hb1.mono hb0.size)).trans (hb2.mono (hb0.trans (hb1.mono hb0.size)).size)
  exact ⟨rfl, hb3.alloc hb3.size _⟩

end Go.Proofs.YtkjhhooecopolaaGreatDoor

namespace Go.Proofs.YtkjhhooecopolaaGreatDoor
open Go.RowKit

/-- The steps of a script, where they lie. -/
def OpAt (w : World) (b o : Nat) (K x y d r : Int) (s : ByteArray) : Prop :=
  w.cell? ⟨b, o, none⟩ = some (.int .i64 K) ∧ w.cell? ⟨b, o + 1, none⟩ = some (.int .i64 x) ∧ w.cell? ⟨b, o + 2, none⟩ = some (.int .i64 y) ∧ w.cell? ⟨b, o + 3, none⟩ = some (.int .i64 d) ∧
    w.cell? ⟨b, o + 4, none⟩ = some (.int .u8 r) ∧ w.cell? ⟨b, o + 5, none⟩ = some (.string s)
def Script (w : World) (so : Option Addr) (n : Nat) : Prop :=
  ∀ k, k < n → ∃ b o K x y d r s, so = some ⟨b, o, none⟩ ∧ b < w.heap.size ∧ s.size ≤ maxLen ∧ OpAt w b (o + k * 6) K x y d r s

set_option maxRecDepth 100000 in
set_option maxHeartbeats 1000000 in
theorem upTo_print (so : Option Addr) (n cap : Nat) (w : World) (hG : Gl w) (hS : Script w so n) (_hn : n ≤ maxLen) :
    Calls Tryz.prog 13 #[.slice so n cap, .int .i64 1, .int .i64 1] w fun e w' => e = .returned (.int .i64 (-1)) ∧ Below w.heap.size w w' := by
  have HS : Hid (Script w so n) := hS
  clear hS
  go_enter Tryz.func13, Tryz.ntmps13
  go_wp2_with fail
  go_loopg [7] n (fun g iv wr => ∃ k : Nat, k + g = n ∧ iv = .int .i64 k ∧ Hid (Below w.heap.size w wr ∧ Gl wr))
  case atStart => exact ⟨0, by omega, rfl, Below.refl _ _, hG⟩
  case round =>
    obtain ⟨k, hkn, rfl, HB⟩ := hrel
    obtain ⟨hbel, hGr⟩ := HB.out
    by_cases hlt : k < n ∧ k < 1152921504606846976
    · obtain ⟨hlt, hmx⟩ := hlt
      obtain ⟨b, o, K, x, y, d, r, s, rfl, hb, hs, c0, c1, c2, c3, c4, c5⟩ := HS.out k hlt
      have hki : (k : Int) < (n : Int) := by omega
      have hkm : (k : Int) < 1152921504606846976 := by omega
      have e0 : wr.cell? ⟨b, o + k * 6, none⟩ = some (.int .i64 K) := (hbel.cell (p := ⟨b, o + k * 6, none⟩) hb).trans c0
      have e1 : wr.cell? ⟨b, o + k * 6 + 1, none⟩ = some (.int .i64 x) := (hbel.cell (p := ⟨b, o + k * 6 + 1, none⟩) hb).trans c1
      have e2 : wr.cell? ⟨b, o + k * 6 + 2, none⟩ = some (.int .i64 y) := (hbel.cell (p := ⟨b, o + k * 6 + 2, none⟩) hb).trans c2
      have e3 : wr.cell? ⟨b, o + k * 6 + 3, none⟩ = some (.int .i64 d) := (hbel.cell (p := ⟨b, o + k * 6 + 3, none⟩) hb).trans c3
      have e4 : wr.cell? ⟨b, o + k * 6 + 4, none⟩ = some (.int .u8 r) := (hbel.cell (p := ⟨b, o + k * 6 + 4, none⟩) hb).trans c4
      have e5 : wr.cell? ⟨b, o + k * 6 + 5, none⟩ = some (.string s) := (hbel.cell (p := ⟨b, o + k * 6 + 5, none⟩) hb).trans c5
      have hbr : b < wr.heap.size := by have := hbel.size; omega
      have HBEL : Hid (Below w.heap.size w wr) := hbel
      have HA : Hid (∀ o', Below w.heap.size w (wr.alloc o')) := fun o' => hbel.alloc hbel.size _
      clear c0 c1 c2 c3 c4 c5 hbel HB HS
      by_cases hK : K = 1
      · subst hK
        go_wp2_with fail
        refine (plays_print x y d (.int .u8 r) s _ hs (hGr.alloc _)).mono ?_
        rintro e w5 ⟨rfl, hb5⟩
        go_wp2_with fail
        go_roundg (gk - 1)
        case measure => omega
        case rel => exact ⟨k + 1, by omega, by go_num, (HA.out _).trans (hb5.mono (HA.out _).size), (hGr.alloc _).below hb5 (hGr.alloc _).sz⟩
      · rcases Int.lt_or_gt_of_ne hK with h | h
        · have q1 : decide (1 ≤ K) = false := by simp; omega
          go_wp2_with fail
          go_roundg (gk - 1)
          case measure => omega
          case rel => exact ⟨k + 1, by omega, by go_num, HA.out _, hGr.alloc _⟩
        · have q1 : decide (1 ≤ K) = true := by simp; omega
          have q2 : decide (K ≤ 1) = false := by simp; omega
          go_wp2_with fail
          go_roundg (gk - 1)
          case measure => omega
          case rel => exact ⟨k + 1, by omega, by go_num, HA.out _, hGr.alloc _⟩
    · clear HS
      by_cases h1 : k < n
      · have h2 : 1152921504606846976 ≤ k := by omega
        have hki : (k : Int) < (n : Int) := by omega
        have hkm : decide ((k : Int) < 1152921504606846976) = false := by simp; omega
        clear hlt
        go_wp2_with fail
        go_ret
        exact ⟨rfl, hbel⟩
      · have hki : decide ((k : Int) < (n : Int)) = false := by simp; omega
        clear hlt
        go_wp2_with fail
        go_ret
        exact ⟨rfl, hbel⟩

end Go.Proofs.YtkjhhooecopolaaGreatDoor

namespace Go.Proofs.YtkjhhooecopolaaGreatDoor
open Go.RowKit Go.Deep

set_option maxRecDepth 100000 in
set_option maxHeartbeats 400000 in
theorem prints_law (so : Option Addr) (n cap : Nat) (w : World) (hG : Gl w) (hS : Script w so n) (hn : n ≤ maxLen) :
    Calls Tryz.prog 3 #[.slice so n cap] w fun e w' => e = .returned (.bool true) ∧ Below w.heap.size w w' := by
  have HU : Hid (Calls Tryz.prog 13 #[.slice so n cap, .int .i64 1, .int .i64 1] w fun e w' => e = .returned (.int .i64 (-1)) ∧ Below w.heap.size w w') := upTo_print so n cap w hG hS hn
  clear hS hn
  go_enter Tryz.func3, Tryz.ntmps3
  go_wp2_with fail
  refine HU.out.mono ?_
  rintro e w1 ⟨rfl, hb⟩
  go_wp2_with fail
  go_ret
  exact ⟨rfl, hb⟩

theorem Tryz.opCells : Tryz.prog.cellsOf 26 = 6 := by kernel_rfl
theorem Tryz.intCells : Tryz.prog.cellsOf 3 = 1 := by kernel_rfl
theorem Tryz.byteCells : Tryz.prog.cellsOf 5 = 1 := by kernel_rfl
theorem Tryz.strCells : Tryz.prog.cellsOf 9 = 1 := by kernel_rfl

section
variable {H : Type} {enc : TypeId × Value → H} {W : World} {spare : Nat → Bool} {held : Bool}

theorem six {α : Type} : ∀ {l : List α}, l.length = 6 → ∃ a b c d e f, l = [a, b, c, d, e, f]
  | [a, b, c, d, e, f], _ => ⟨a, b, c, d, e, f, rfl⟩

set_option maxRecDepth 100000 in
theorem script_read {so : Option Addr} {n cap : Nat} {d : DataW H} {p : List MemPlace} (h : DataW.Trod enc Tryz.prog W 0 spare held 22 (.slice so n cap) d p) : n ≤ maxLen ∧ Script W so n := by
  obtain ⟨fuel, hf⟩ := h
  rcases open_slice Tryz.underlying22 hf with ⟨hcs, hx⟩ | ⟨a, len, cap', m, fl, D, Pl, hcs, hb, hl, hm, hmm, hx, hel⟩
  · simp [Value.cells] at hcs
    obtain ⟨rfl, rfl, rfl⟩ := hcs
    exact ⟨Nat.zero_le _, fun k hk => absurd hk (Nat.not_lt_zero _)⟩
  · simp [Value.cells] at hcs
    obtain ⟨rfl, rfl, rfl⟩ := hcs
    refine ⟨Nat.le_trans hl hm, fun k hk => ?_⟩
    have hspot : a.spot = none := by
      obtain ⟨cs0, z1, _⟩ := hel 0 (by rw [hmm]; split <;> omega)
      rw [Tryz.opCells] at z1
      obtain ⟨_, zl, zc⟩ := World.cells?_some z1
      obtain ⟨q0, q1, q2, q3, q4, q5, rfl⟩ := six zl
      simpa [Addr.add] using World.cell?_spot (v := q0) (zc 0 (by omega))
    obtain ⟨cs', h1, h2⟩ := hel k (by rw [hmm]; split <;> omega)
    rw [Tryz.opCells] at h1
    obtain ⟨_, hlen, hcell⟩ := World.cells?_some h1
    obtain ⟨xs, k', hk', hxy, _, hxl, hfl⟩ := DataW.trod_struct Tryz.underlying26 h2
    obtain ⟨b, o, spot⟩ := a
    obtain rfl : spot = none := hspot
    obtain ⟨y0, y1, y2, y3, y4, y5, rfl⟩ := six (hxl.trans (by rfl))
    obtain ⟨v0, v1, v2, v3, v4, v5, rfl⟩ := six hlen
    · clear hxl hlen
      have g0 := hfl 0 _ rfl
      have g1 := hfl 1 _ rfl
      have g2 := hfl 2 _ rfl
      have g3 := hfl 3 _ rfl
      have g4 := hfl 4 _ rfl
      have g5 := hfl 5 _ rfl
      simp [Tryz.intCells, Tryz.byteCells, Tryz.strCells] at g0 g1 g2 g3 g4 g5
      obtain ⟨n0, i0, _, _⟩ := DataW.trod_int Tryz.underlying3 g0
      obtain ⟨n1, i1, _, _⟩ := DataW.trod_int Tryz.underlying3 g1
      obtain ⟨n2, i2, _, _⟩ := DataW.trod_int Tryz.underlying3 g2
      obtain ⟨n3, i3, _, _⟩ := DataW.trod_int Tryz.underlying3 g3
      obtain ⟨n4, i4, _, _⟩ := DataW.trod_int Tryz.underlying5 g4
      obtain ⟨s, i5, _, hs⟩ := DataW.trod_string Tryz.underlying9 g5
      simp only [List.cons.injEq, and_true] at i0 i1 i2 i3 i4 i5
      subst i0 i1 i2 i3 i4 i5
      have e0 := hcell 0 (by omega)
      have e1 := hcell 1 (by omega)
      have e2 := hcell 2 (by omega)
      have e3 := hcell 3 (by omega)
      have e4 := hcell 4 (by omega)
      have e5 := hcell 5 (by omega)
      simp [Go.WideShapes.add_plain] at e0 e1 e2 e3 e4 e5
      exact ⟨b, o, n0, n1, n2, n3, n4, s, rfl, by simpa using World.block_lt_of_cell? _ _ e0, hs, e0, e1, e2, e3, e4, e5⟩
end

end Go.Proofs.YtkjhhooecopolaaGreatDoor
