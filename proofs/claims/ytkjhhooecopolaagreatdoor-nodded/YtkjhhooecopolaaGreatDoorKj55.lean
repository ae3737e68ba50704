import Derived.Test.YtkjhhooecopolaaGreatDoorKj54
import Derived.Test.YtkjhhooecopolaaGreatDoorKj24
import Derived.Test.YtkjhhooecopolaaGreatDoorKj42
namespace Go.Proofs.YtkjhhooecopolaaGreatDoor
open Go.RowKit

set_option maxRecDepth 100000 in
set_option maxHeartbeats 2000000 in
theorem nodes_any (s : ByteArray) (w : World) (hm : s.size ≤ maxLen) (hGl : Gl w) :
    Calls Tryz.prog 41 #[.string s] w fun e w' => e = .returned (.tuple #[.string ⟨(Pl.ntext s.data.toList).toArray⟩, .int .i64 (Pl.err s.data.toList).1, .int .i64 (Pl.err s.data.toList).2]) ∧ Below w.heap.size w w' := by
  by_cases h0 : (Pl.err s.data.toList).1 = 0
  · have hp2 := (err_zero h0).2.1
    obtain ⟨hro, hrl, hse, hel⟩ := rings_ok h0
    have hfew := Pl.edges_few h0
    have hnt : Pl.ntext s.data.toList = Pl.joinT Pl.qtxt (Ge.nodesL (Ge.allEdges (Pl.rings s.data.toList))) := if_pos h0
    have HR : Hid (∀ w1, Gl w1 → Calls Tryz.prog 33 #[.string s] w1 fun e w' => Below w1.heap.size w1 w' ∧ ∃ rb rv, e = .returned (.tuple #[.pointer (some ⟨rb, 0, none⟩), .int .i64 0, .int .i64 0]) ∧
        w'.cell? ⟨rb, 6, none⟩ = some rv ∧ rb < w'.heap.size ∧ RdRings w' rv (Pl.rings s.data.toList)) := fun w1 g1 => by
      refine (readText_any s w1 hm g1).mono ?_
      rintro e w' ⟨hb, pv, rfl, hrd⟩
      obtain ⟨rb, rfl, _, hR⟩ := hrd h0
      obtain ⟨c, t, r, tv, rv, hc, hl', hbk, hown, hrings⟩ := hR
      exact ⟨hb, rb, rv, by rw [h0, hp2]; rfl, cell_of hbk 6, lt_of_heap hbk, rdRings_of hrings⟩
    have HEO : Hid (∀ v w1, RdRings w1 v (Pl.rings s.data.toList) → Calls Tryz.prog 36 #[v] w1 fun e w' => ∃ v, e = .returned v ∧ RdB w' v (Ge.allEdges (Pl.rings s.data.toList)) ∧ Below w1.heap.size w1 w') := fun v w1 hv => edgesOf_any _ v w1 hv hro hrl
    have HNO : Hid (∀ v w1, RdB w1 v (Ge.allEdges (Pl.rings s.data.toList)) → Calls Tryz.prog 72 #[v] w1 fun e w' => ∃ v' l, e = .returned v' ∧ RdN w' v' l ∧ Below w1.heap.size w1 w' ∧ l.map Ge.ndQ = Ge.nodesL (Ge.allEdges (Pl.rings s.data.toList)) ∧ (∀ n ∈ l, NodeIn n.1 n.2.1 n.2.2) ∧ l.length ≤ 200000) := fun v w1 hv => nodesOf_any _ v w1 hv hfew hse
    rw [hnt, h0, hp2]
    clear hnt hp2 h0 hro hrl hse hel hfew
    generalize Pl.rings s.data.toList = RG at *
    generalize Ge.allEdges RG = ES at *
    generalize Ge.nodesL ES = NS0 at *
    go_enter Tryz.func41, Tryz.ntmps41
    go_wp2_with fail
    refine (HR.out _ hGl).mono ?_
    rintro e w1 ⟨hb1, rb, rv, rfl, c6, hlt, hrr⟩
    have hG1 := hGl.below hb1 hGl.sz
    go_wp2_with fail
    refine (HEO.out _ _ hrr).mono ?_
    rintro e w3 ⟨ev, rfl, hrb, hb3⟩
    have hbel3 := hb1.trans (hb3.mono hb1.size)
    have hG3 := hG1.below hb3 hG1.sz
    go_wp2_with fail
    refine (HNO.out _ _ hrb).mono ?_
    rintro e w4 ⟨nv, l, rfl, hrn, hb4, hml, hnn, hll⟩
    have hbel4 := hbel3.trans (hb4.mono hbel3.size)
    have hG4 := hG3.below hb4 hG3.sz
    subst hml
    have HWN : Hid (Calls Tryz.prog 71 #[nv] w4 fun e w' => e = .returned (.string ⟨(Pl.joinT Pl.qtxt (l.map Ge.ndQ)).toArray⟩) ∧ Below w4.heap.size w4 w') := writeNodes_any l nv w4 hrn hG4 hnn hll
    generalize hTX : Pl.joinT Pl.qtxt (l.map Ge.ndQ) = TX at HWN
    have HTX : Hid (Pl.joinT Pl.qtxt (l.map Ge.ndQ) = TX) := hTX
    clear hrn hnn hll hTX
    go_wp2_with fail
    refine HWN.out.mono ?_
    rintro e w5 ⟨rfl, hb5⟩
    have hbel5 := hbel4.trans (hb5.mono hbel4.size)
    go_wp2_with fail
    refine bodyPost_ret (v := .tuple #[.string ⟨TX.toArray⟩, .int .i64 0, .int .i64 0]) (by simp [results, Tryz.results41, go_sem]) rfl ⟨by rw [HTX.out]; rfl, hbel5⟩
  · have hnt : Pl.ntext s.data.toList = [] := if_neg h0
    rw [hnt]
    have hne : (((Pl.err s.data.toList).1 : Int) != 0) = true := by rw [bne_iff_ne]; omega
    have HR : Hid (∀ w1, Gl w1 → Calls Tryz.prog 33 #[.string s] w1 fun e w' => Below w1.heap.size w1 w' ∧ ∃ pv, e = .returned (.tuple #[.pointer pv, .int .i64 (Pl.err s.data.toList).1, .int .i64 (Pl.err s.data.toList).2])) := fun w1 g1 => by
      refine (readText_any s w1 hm g1).mono ?_
      rintro e w' ⟨hb, pv, rfl, _⟩
      exact ⟨hb, pv, rfl⟩
    generalize (Pl.err s.data.toList).1 = E at *
    generalize (Pl.err s.data.toList).2 = Pp at *
    clear hnt h0
    go_enter Tryz.func41, Tryz.ntmps41
    go_wp2_with fail
    refine (HR.out _ hGl).mono ?_
    rintro e w1 ⟨hb1, pv, rfl⟩
    go_wp2_with fail
    refine bodyPost_ret (v := .tuple #[.string ⟨#[]⟩, .int .i64 E, .int .i64 Pp]) (by simp [results, Tryz.results41, go_sem]) rfl ⟨rfl, hb1⟩

end Go.Proofs.YtkjhhooecopolaaGreatDoor

namespace Go.Proofs.YtkjhhooecopolaaGreatDoor
open Go.RowKit

set_option maxRecDepth 100000 in
set_option maxHeartbeats 400000 in
theorem lnodes_any (s : ByteArray) (w : World) (hm : s.size ≤ maxLen) (hG : Gl w) :
    Calls Tryz.prog 21 #[.string s] w fun e w' => e = .returned (.agg #[.string ⟨(Pl.ntext s.data.toList).toArray⟩, .int .i64 (Pl.err s.data.toList).1, .int .i64 (Pl.err s.data.toList).2]) ∧ Below w.heap.size w w' := by
  have HP : Hid (∀ w1, Gl w1 → Calls Tryz.prog 41 #[.string s] w1 fun e w' => e = .returned (.tuple #[.string ⟨(Pl.ntext s.data.toList).toArray⟩, .int .i64 (Pl.err s.data.toList).1, .int .i64 (Pl.err s.data.toList).2]) ∧ Below w1.heap.size w1 w') := fun w1 g1 => nodes_any s w1 hm g1
  have he := err_small s.data.toList
  generalize (Pl.err s.data.toList).1 = E at *
  generalize (Pl.err s.data.toList).2 = Pp at *
  generalize Pl.ntext s.data.toList = PT at *
  have HN : Hid (∀ w1, Calls Tryz.prog 19 #[.int .i64 (E : Int)] w1 fun e w' => e = .returned (.int .i64 (E : Int)) ∧ w' = w1) := fun w1 => num_any E w1 (by omega) (by omega)
  clear he
  go_enter Tryz.func21, Tryz.ntmps21
  go_wp2_with fail
  have hb0 : Below w.heap.size w (w.alloc (.cells #[.string ⟨#[]⟩, .int .i64 0, .int .i64 0] 38)) := (Below.refl _ _).alloc (Nat.le_refl _) _
  refine (HP.out _ (hG.alloc _)).mono ?_
  rintro e w1 ⟨rfl, hb1⟩
  have hbx : w1.heap[w.heap.size]? = some (.cells #[.string ⟨#[]⟩, .int .i64 0, .int .i64 0] 38) := (hb1.block _ (by simp)).trans (heap_alloc_new _ _)
  have c0 : w1.cell? ⟨w.heap.size, 0, none⟩ = some (.string ⟨#[]⟩) := cell_of hbx 0
  have c1 : w1.cell? ⟨w.heap.size, 1, none⟩ = some (.int .i64 0) := cell_of hbx 1
  have c2 : w1.cell? ⟨w.heap.size, 2, none⟩ = some (.int .i64 0) := cell_of hbx 2
  have z0 : w1.frozen? ⟨w.heap.size, 0, none⟩ = false := frozen_of hbx 0
  have z1 : w1.frozen? ⟨w.heap.size, 1, none⟩ = false := frozen_of hbx 1
  have z2 : w1.frozen? ⟨w.heap.size, 2, none⟩ = false := frozen_of hbx 2
  have hbel := hb0.trans (hb1.mono hb0.size)
  clear hbx
  go_wp2_with fail
  refine (HN.out _).mono ?_
  rintro e w2 ⟨rfl, rfl⟩
  go_wp2_with fail
  refine bodyPost_ret (v := .agg #[.string ⟨PT.toArray⟩, .int .i64 E, .int .i64 Pp]) (by simp [results, Tryz.results21, go_sem, c0, c1, c2]) rfl ⟨rfl, ?_⟩
  exact ((hbel.setCell (Nat.le_refl _) _).setCell (Nat.le_refl _) _).setCell (Nat.le_refl _) _

set_option maxRecDepth 100000 in
set_option maxHeartbeats 400000 in
theorem plays_nodes (x y d : Int) (rule : Value) (s : ByteArray) (w : World) (hm : s.size ≤ maxLen) (hG : Gl w) :
    Calls Tryz.prog 27 #[.agg #[.int .i64 3, .int .i64 x, .int .i64 y, .int .i64 d, rule, .string s]] w fun e w' => e = .returned (.bool true) ∧ Below w.heap.size w w' := by
  have HP : Hid (∀ w1, Gl w1 → Calls Tryz.prog 21 #[.string s] w1 fun e w' => e = .returned (.agg #[.string ⟨(Pl.ntext s.data.toList).toArray⟩, .int .i64 (Pl.err s.data.toList).1, .int .i64 (Pl.err s.data.toList).2]) ∧ Below w1.heap.size w1 w') := fun w1 g1 => lnodes_any s w1 hm g1
  have HM : Hid (∀ w1, Gl w1 → Calls Tryz.prog 55 #[.string s] w1 fun e w' => e = .returned (.tuple #[.string ⟨(Pl.ntext s.data.toList).toArray⟩, .int .i64 (Pl.err s.data.toList).1, .int .i64 (Pl.err s.data.toList).2]) ∧ Below w1.heap.size w1 w') := fun w1 g1 => rnodes_any s w1 hm g1
  generalize (Pl.err s.data.toList).1 = E at *
  generalize (Pl.err s.data.toList).2 = Pp at *
  generalize Pl.ntext s.data.toList = PT at *
  go_enter Tryz.func27, Tryz.ntmps27
  go_wp2_with fail
  refine (HM.out _ (hG.alloc _)).mono ?_
  rintro e w1 ⟨rfl, hb1⟩
  have hG1 : Gl w1 := (hG.alloc _).below hb1 (hG.alloc _).sz
  have c5 : w1.cell? ⟨w.heap.size, 5, none⟩ = some (.string s) := (hb1.cell (p := ⟨w.heap.size, 5, none⟩) (by simp)).trans (cell_of (heap_alloc_new _ _) 5)
  go_wp2_with fail
  refine (HP.out _ hG1).mono ?_
  rintro e w2 ⟨rfl, hb2⟩
  go_wp2_with fail
  go_ret
  have hb0 : Below w.heap.size w (w.alloc (.cells #[.int .i64 3, .int .i64 x, .int .i64 y, .int .i64 d, rule, .string s] 26)) := (Below.refl _ _).alloc (Nat.le_refl _) _
  have hb3 := (hb0.trans (hb1.mono hb0.size)).trans (hb2.mono (hb0.trans (hb1.mono hb0.size)).size)
  exact ⟨rfl, hb3.alloc hb3.size _⟩

end Go.Proofs.YtkjhhooecopolaaGreatDoor
