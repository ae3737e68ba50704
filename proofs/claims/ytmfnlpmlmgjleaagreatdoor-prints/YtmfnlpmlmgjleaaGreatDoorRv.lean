import Derived.Test.YtmfnlpmlmgjleaaGreatDoorRu
import Derived.Deep.Slices
import Derived.ChangeSame
namespace Go.Proofs.YtmfnlpmlmgjleaaGreatDoor
open Go.RowKit Go.Deep

set_option maxRecDepth 100000 in
set_option maxHeartbeats 400000 in
theorem prints_law (so : Option Addr) (n cap : Nat) (w : World) (hG : Gl w) (hS : Script w so n) (hn : n ≤ maxLen) :
    Calls Tryz.prog 3 #[.slice so n cap] w fun e w' => e = .returned (.bool true) ∧ Below w.heap.size w w' := by
  have HU : Hid (Calls Tryz.prog 6 #[.slice so n cap, .int .i64 1, .int .i64 1] w fun e w' => e = .returned (.int .i64 (-1)) ∧ Below w.heap.size w w') := upTo_print so n cap w hG hS hn
  clear hS hn
  go_enter Tryz.func3, Tryz.ntmps3
  go_wp2_with fail
  refine HU.out.mono ?_
  rintro e w1 ⟨rfl, hb⟩
  go_wp2_with fail
  go_ret
  exact ⟨rfl, hb⟩

theorem Tryz.opCells : Tryz.prog.cellsOf 26 = 6 := by kernel_rfl
theorem Tryz.intCells : Tryz.prog.cellsOf 3 = 1 := by kernel_rfl
theorem Tryz.byteCells : Tryz.prog.cellsOf 5 = 1 := by kernel_rfl
theorem Tryz.strCells : Tryz.prog.cellsOf 9 = 1 := by kernel_rfl

section
variable {H : Type} {enc : TypeId × Value → H} {W : World} {spare : Nat → Bool} {held : Bool}

theorem six {α : Type} : ∀ {l : List α}, l.length = 6 → ∃ a b c d e f, l = [a, b, c, d, e, f]
  | [a, b, c, d, e, f], _ => ⟨a, b, c, d, e, f, rfl⟩

set_option maxRecDepth 100000 in
theorem script_read {so : Option Addr} {n cap : Nat} {d : DataW H} {p : List MemPlace} (h : DataW.Trod enc Tryz.prog W 0 spare held 22 (.slice so n cap) d p) : n ≤ maxLen ∧ Script W so n := by
  obtain ⟨fuel, hf⟩ := h
  rcases open_slice Tryz.underlying22 hf with ⟨hcs, hx⟩ | ⟨a, len, cap', m, fl, D, Pl, hcs, hb, hl, hm, hmm, hx, hel⟩
  · simp [Value.cells] at hcs
    obtain ⟨rfl, rfl, rfl⟩ := hcs
    exact ⟨Nat.zero_le _, fun k hk => absurd hk (Nat.not_lt_zero _)⟩
  · simp [Value.cells] at hcs
    obtain ⟨rfl, rfl, rfl⟩ := hcs
    refine ⟨Nat.le_trans hl hm, fun k hk => ?_⟩
    have hspot : a.spot = none := by
      obtain ⟨cs0, z1, _⟩ := hel 0 (by rw [hmm]; split <;> omega)
      rw [Tryz.opCells] at z1
      obtain ⟨_, zl, zc⟩ := World.cells?_some z1
      obtain ⟨q0, q1, q2, q3, q4, q5, rfl⟩ := six zl
      simpa [Addr.add] using World.cell?_spot (v := q0) (zc 0 (by omega))
    obtain ⟨cs', h1, h2⟩ := hel k (by rw [hmm]; split <;> omega)
    rw [Tryz.opCells] at h1
    obtain ⟨_, hlen, hcell⟩ := World.cells?_some h1
    obtain ⟨xs, k', hk', hxy, _, hxl, hfl⟩ := DataW.trod_struct Tryz.underlying26 h2
    obtain ⟨b, o, spot⟩ := a
    obtain rfl : spot = none := hspot
    obtain ⟨y0, y1, y2, y3, y4, y5, rfl⟩ := six (hxl.trans (by rfl))
    obtain ⟨v0, v1, v2, v3, v4, v5, rfl⟩ := six hlen
    · clear hxl hlen
      have g0 := hfl 0 _ rfl
      have g1 := hfl 1 _ rfl
      have g2 := hfl 2 _ rfl
      have g3 := hfl 3 _ rfl
      have g4 := hfl 4 _ rfl
      have g5 := hfl 5 _ rfl
      simp [Tryz.intCells, Tryz.byteCells, Tryz.strCells] at g0 g1 g2 g3 g4 g5
      obtain ⟨n0, i0, _, _⟩ := DataW.trod_int Tryz.underlying3 g0
      obtain ⟨n1, i1, _, _⟩ := DataW.trod_int Tryz.underlying3 g1
      obtain ⟨n2, i2, _, _⟩ := DataW.trod_int Tryz.underlying3 g2
      obtain ⟨n3, i3, _, _⟩ := DataW.trod_int Tryz.underlying3 g3
      obtain ⟨n4, i4, _, _⟩ := DataW.trod_int Tryz.underlying5 g4
      obtain ⟨s, i5, _, hs⟩ := DataW.trod_string Tryz.underlying9 g5
      simp only [List.cons.injEq, and_true] at i0 i1 i2 i3 i4 i5
      subst i0 i1 i2 i3 i4 i5
      have e0 := hcell 0 (by omega)
      have e1 := hcell 1 (by omega)
      have e2 := hcell 2 (by omega)
      have e3 := hcell 3 (by omega)
      have e4 := hcell 4 (by omega)
      have e5 := hcell 5 (by omega)
      simp [Go.WideShapes.add_plain] at e0 e1 e2 e3 e4 e5
      exact ⟨b, o, n0, n1, n2, n3, n4, s, rfl, by simpa using World.block_lt_of_cell? _ _ e0, hs, e0, e1, e2, e3, e4, e5⟩
end

end Go.Proofs.YtmfnlpmlmgjleaaGreatDoor
