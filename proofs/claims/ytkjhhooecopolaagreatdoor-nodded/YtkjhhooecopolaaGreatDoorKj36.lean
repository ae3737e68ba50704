import Derived.Test.YtkjhhooecopolaaGreatDoorKj35
import Derived.Lib.SlicesCompact
import Derived.Laws.StructEq
import Derived.Deep.LoopGhost
import Derived.Deep.RegionHeld3
import Derived.Deep.QuietTactic
namespace Go.Proofs.YtkjhhooecopolaaGreatDoor
open Go.RowKit

namespace Ge
theorem cpt_snoc : ∀ (l : List Nd) (y x : Nd), l.getLast? = some y → cpt (l ++ [x]) = if x = y then cpt l else cpt l ++ [x]
  | [], _, _, h => by simp at h
  | [a], y, x, h => by
    have e : a = y := by simpa using h
    subst e
    have e1 : cpt [a, x] = if a = x then cpt [x] else a :: cpt [x] := by simp [cpt]
    have e2 : ∀ z : Nd, cpt [z] = [z] := fun z => by rw [cpt]
    show cpt [a, x] = _
    rw [e1, e2, e2]
    by_cases hx : x = a
    · subst hx
      rw [if_pos rfl, if_pos rfl]
    · rw [if_neg (fun h => hx h.symm), if_neg hx]
      rfl
  | a :: b :: r, y, x, h => by
    have ih := cpt_snoc (b :: r) y x (by simpa using h)
    show cpt (a :: b :: (r ++ [x])) = _
    have e1 : cpt (a :: b :: (r ++ [x])) = if a = b then cpt (b :: (r ++ [x])) else a :: cpt (b :: (r ++ [x])) := by rw [cpt]
    have e2 : cpt (a :: b :: r) = if a = b then cpt (b :: r) else a :: cpt (b :: r) := by rw [cpt]
    have e3 : cpt (b :: (r ++ [x])) = if x = y then cpt (b :: r) else cpt (b :: r) ++ [x] := ih
    rw [e1, e2, e3]
    by_cases hx : x = y
    · simp only [hx, if_true]
    · by_cases hab : a = b <;> simp [hx, hab]

theorem cpt_upTo (zs : List Nd) : ∀ m, m ≤ zs.length → Lib.compactUpTo zs.toArray m = cpt (zs.take m)
  | 0, _ => by simp [Lib.compactUpTo, cpt]
  | m + 1, h => by
    have hlt : m < zs.length := h
    rw [Lib.compactUpTo_succ, cpt_upTo zs m (by omega), List.take_succ_eq_append_getElem hlt]
    have hg : zs.toArray[m]! = zs[m] := by rw [getElem!_pos zs.toArray m (by simpa using hlt)]; simp
    rcases Nat.eq_zero_or_pos m with h0 | h0
    · subst h0
      rw [Lib.keeps_lt_one _ 0 (by omega), hg]
      simp [cpt]
    · have hp : m - 1 < zs.length := by omega
      have hl : (zs.take m).getLast? = some zs[m - 1] := by
        rw [List.getLast?_eq_getElem?, List.length_take, show min m zs.length - 1 = m - 1 by omega, List.getElem?_take, if_pos (by omega), List.getElem?_eq_getElem hp]
      have hg2 : zs.toArray[m - 1]! = zs[m - 1] := by rw [getElem!_pos zs.toArray (m - 1) (by simpa using hp)]; simp
      rw [cpt_snoc _ _ _ hl]
      by_cases hx : zs[m] = zs[m - 1]
      · rw [Lib.keeps_neg h0 (by rw [hg, hg2]; exact hx), if_pos hx]
        simp
      · rw [Lib.keeps_pos (by rw [hg, hg2]; exact hx), if_neg hx, hg]
        simp
theorem cpt_compact (d : Array Nd) : Lib.compactUpTo d d.size = cpt d.toList := by
  have h := cpt_upTo d.toList d.toList.length (Nat.le_refl _)
  rw [List.take_length] at h
  simpa using h
end Ge

theorem ndRow_len (L : List Ge.Nd) : (ndRow L).length = L.length * 2 := by
  induction L with
  | nil => rfl
  | cons n L ih =>
    have e : ndRow (n :: L) = ndCells n ++ ndRow L := by simp [ndRow]
    rw [e, List.length_append, ih, List.length_cons]
    show 2 + _ = _
    omega

/-- A row of n nodes that is written in place. -/
structure RW (w : World) (g cap n : Nat) (d : Array Ge.Nd) (wr : World) : Prop where
  size : d.size = n
  own : wr.ownsRow w.heap.size 83 2 (.slice (some ⟨g, 0, none⟩) n cap) n (ndRow d.toList)
  below : Below w.heap.size w wr

theorem ndRow_take : ∀ (l : List Ge.Nd) (k : Nat), (ndRow l).take (k * 2) = ndRow (l.take k)
  | [], k => by simp [ndRow]
  | a :: l, 0 => by simp [ndRow]
  | a :: l, k + 1 => by
    have ih := ndRow_take l k
    have e : ∀ (b : Ge.Nd) (r : List Ge.Nd), ndRow (b :: r) = .complex .f64 (floatOfInt .f64 b.1) (floatOfInt .f64 b.2.1) :: .int .i64 b.2.2 :: ndRow r := fun b r => by simp [ndRow, ndCells]
    rw [List.take_succ_cons, e, e, ← ih]
    have e1 : (k + 1) * 2 = k * 2 + 1 + 1 := by omega
    rw [e1, List.take_succ_cons, List.take_succ_cons]

theorem RW.blk {w : World} {g cap n : Nat} {d : Array Ge.Nd} {wr : World} (h : RW w g cap n d wr) : ∃ cur, w.heap.size ≤ g ∧ wr.heap[g]? = some (.cells cur 83 (0, 0)) ∧ n ≤ cap ∧ cap ≤ maxLen ∧ cur.size = cap * 2 ∧ cur.toList.take (n * 2) = ndRow d.toList := by
  rcases h.own.2 with ⟨hv, _⟩ | ⟨g', cap', cur, hv, h1, h2, h3, h4, h5, h6⟩
  · simp at hv
  · simp only [Value.slice.injEq, Option.some.injEq, Addr.mk.injEq] at hv
    obtain ⟨⟨rfl, _⟩, _, rfl⟩ := hv
    exact ⟨cur, h1, h2, h3, h4, h5, h6⟩

theorem RW.cells {w : World} {g cap n : Nat} {d : Array Ge.Nd} {wr : World} (h : RW w g cap n d wr) (i : Nat) (hi : i < n) :
    wr.cell? ⟨g, i * 2, none⟩ = some (.complex .f64 (floatOfInt .f64 (d[i]!).1) (floatOfInt .f64 (d[i]!).2.1)) ∧ wr.cell? ⟨g, i * 2 + 1, none⟩ = some (.int .i64 (d[i]!).2.2) ∧ wr.frozen? ⟨g, i * 2, none⟩ = false ∧ wr.frozen? ⟨g, i * 2 + 1, none⟩ = false := by
  obtain ⟨cur, _, hb, _, _, hs, htk⟩ := h.blk
  have hd : i < d.size := by rw [h.size]; exact hi
  have hx : d.toList[i]? = some d[i]! := by rw [Array.getElem?_toList, Array.getElem?_eq_getElem hd, getElem!_pos d i hd]
  have k0 := ndRow_get _ _ _ hx 0 (by omega)
  have k1 := ndRow_get _ _ _ hx 1 (by omega)
  rw [← htk, List.getElem?_take, if_pos (by omega), Array.getElem?_toList] at k0 k1
  refine ⟨?_, ?_, frozen_of hb _, frozen_of hb _⟩
  · unfold World.cell?
    rw [hb]
    exact k0
  · unfold World.cell?
    rw [hb]
    exact k1

theorem ndRow_set : ∀ (l : List Ge.Nd) (k : Nat) (x : Ge.Nd), k < l.length → ndRow (l.set k x) = ((ndRow l).set (k * 2) (.complex .f64 (floatOfInt .f64 x.1) (floatOfInt .f64 x.2.1))).set (k * 2 + 1) (.int .i64 x.2.2)
  | [], _, _, h => by simp at h
  | a :: l, 0, x, _ => by simp [ndRow, ndCells]
  | a :: l, k + 1, x, h => by
    have ih := ndRow_set l k x (by simpa using h)
    have e : ∀ (b : Ge.Nd) (r : List Ge.Nd), ndRow (b :: r) = .complex .f64 (floatOfInt .f64 b.1) (floatOfInt .f64 b.2.1) :: .int .i64 b.2.2 :: ndRow r := fun b r => by simp [ndRow, ndCells]
    rw [List.set_cons_succ, e, e, ih]
    have e1 : (k + 1) * 2 = k * 2 + 1 + 1 := by omega
    rw [e1, List.set_cons_succ, List.set_cons_succ, List.set_cons_succ, List.set_cons_succ]

theorem RW.set {w : World} {g cap n : Nat} {d : Array Ge.Nd} {wr : World} (h : RW w g cap n d wr) (k : Nat) (hk : k < n) (x : Ge.Nd) :
    RW w g cap n (d.setIfInBounds k x) ((wr.setCell ⟨g, k * 2, none⟩ (.complex .f64 (floatOfInt .f64 x.1) (floatOfInt .f64 x.2.1))).setCell ⟨g, k * 2 + 1, none⟩ (.int .i64 x.2.2)) := by
  obtain ⟨cur, hg, hb, hnc, hcm, hs, htk⟩ := h.blk
  have hb1 : (wr.setCell ⟨g, k * 2, none⟩ (.complex .f64 (floatOfInt .f64 x.1) (floatOfInt .f64 x.2.1))).heap[g]? = some (.cells (cur.setIfInBounds (k * 2) (.complex .f64 (floatOfInt .f64 x.1) (floatOfInt .f64 x.2.1))) 83 (0, 0)) := by
    rw [setCell_eq_setRow wr g (k * 2) cur 83 (0, 0) _ hb]
    exact setRow_heap _ _ _ _ _ _ hb
  have hb2 : ((wr.setCell ⟨g, k * 2, none⟩ (.complex .f64 (floatOfInt .f64 x.1) (floatOfInt .f64 x.2.1))).setCell ⟨g, k * 2 + 1, none⟩ (.int .i64 x.2.2)).heap[g]? = some (.cells ((cur.setIfInBounds (k * 2) (.complex .f64 (floatOfInt .f64 x.1) (floatOfInt .f64 x.2.1))).setIfInBounds (k * 2 + 1) (.int .i64 x.2.2)) 83 (0, 0)) := by
    rw [setCell_eq_setRow _ g (k * 2 + 1) _ 83 (0, 0) _ hb1]
    exact setRow_heap _ _ _ _ _ _ hb1
  have hd : k < d.toList.length := by rw [Array.length_toList, h.size]; exact hk
  refine ⟨by rw [Array.size_setIfInBounds]; exact h.size, ⟨?_, Or.inr ⟨g, cap, _, rfl, hg, hb2, hnc, hcm, ?_, ?_⟩⟩, (h.below.setCell hg _).setCell hg _⟩
  · rw [ndRow_len, Array.length_toList, Array.size_setIfInBounds, h.size]
  · rw [Array.size_setIfInBounds, Array.size_setIfInBounds]; exact hs
  · rw [Array.toList_setIfInBounds, Array.toList_setIfInBounds, Array.toList_setIfInBounds, ndRow_set _ _ _ hd, ← htk, List.take_set, List.take_set]

theorem RW.keep {w : World} {g cap n : Nat} {d : Array Ge.Nd} {wr w' : World} (h : RW w g cap n d wr) (hb : Below wr.heap.size wr w') : RW w g cap n d w' :=
  ⟨h.size, own_kept h.own fun k hk => hb.block k (own_lt h.own k hk).2, h.below.trans (hb.mono h.below.size)⟩

theorem nd_zero : ∀ w, (zeroValue 83).run Tryz.prog w = .ok (.agg #[.complex .f64 0 0, .int .i64 0]) w := Tryz.zeroValue83

theorem RW.clear {w : World} {g cap n : Nat} {d : Array Ge.Nd} {wr : World} (h : RW w g cap n d wr) (k : Nat) (hk : k < n) (c : Nat) :
    ∃ w', (∀ ty, (Builtin.clear_ #[138] ty #[.slice (some ⟨g, k * 2, none⟩) (n - k) c]).run Tryz.prog wr = .ok (.tuple #[]) w') ∧ Below w.heap.size w w' ∧ RdN w' (.slice (some ⟨g, 0, none⟩) k cap) (d.toList.take k) := by
  obtain ⟨cur, hg, hb, hnc, hcm, hs, htk⟩ := h.blk
  have hzl : (Builtin.zeroCells (Value.agg #[.complex .f64 0 0, .int .i64 0]).cells (n - k)).toList.length = (n - k) * 2 := by
    rw [Array.length_toList]
    unfold Builtin.zeroCells
    rw [Array.size_map, Array.size_range]
    rfl
  have hone : ∀ v ∈ (Builtin.zeroCells (Value.agg #[.complex .f64 0 0, .int .i64 0]).cells (n - k)).toList, v.oneCell' = true := by
    intro v hv
    unfold Builtin.zeroCells at hv
    simp only [Array.toList_map, List.mem_map] at hv
    obtain ⟨i, _, rfl⟩ := hv
    have e : (Value.agg #[.complex .f64 0 0, .int .i64 0]).cells = #[.complex .f64 0 0, .int .i64 0] := rfl
    rw [e]
    show (#[Value.complex .f64 0 0, .int .i64 0][i % 2]!).oneCell' = true
    have h2 : i % 2 = 0 ∨ i % 2 = 1 := by omega
    rcases h2 with h2 | h2 <;> rw [h2] <;> rfl
  have hst := run_storeCells_at Tryz.prog g (k * 2) 83 _ 0 cur wr hb (by rw [hzl, hs]; omega) hone
  simp only [Nat.add_zero] at hst
  rw [hzl] at hst
  generalize hzc : (Builtin.zeroCells (Value.agg #[.complex .f64 0 0, .int .i64 0]).cells (n - k)).toList = Z at *
  have hbn := setRow_heap wr g cur (cur.toList.take (k * 2) ++ Z ++ cur.toList.drop (k * 2 + (n - k) * 2)).toArray _ _ hb
  refine ⟨wr.setRow g (cur.toList.take (k * 2) ++ Z ++ cur.toList.drop (k * 2 + (n - k) * 2)).toArray, fun ty => ?_, ?_, ?_, Or.inr ⟨g, cap, _, ?_, Nat.zero_le _, hbn, ?_, hcm, ?_, ?_⟩⟩
  · obtain ⟨m, hm⟩ : ∃ m, n - k = m + 1 := ⟨n - k - 1, by omega⟩
    rw [hm] at hst hzc ⊢
    simp [Builtin.clear_, run_underlying Tryz.underlying138, hzc, hst]
  · refine h.below.trans ⟨rfl, rfl, rfl, by simp, fun j hj => setRow_other _ _ _ _ (by omega)⟩
  · rw [ndRow_len]
  · have e : (d.toList.take k).length = k := by rw [List.length_take, Array.length_toList, h.size]; omega
    rw [e]
  · rw [List.length_take, Array.length_toList, h.size]; omega
  · simp only [List.size_toArray, List.length_append, List.length_take, List.length_drop, Array.length_toList, hzl, hs]
    omega
  · have e : (d.toList.take k).length = k := by rw [List.length_take, Array.length_toList, h.size]; omega
    rw [e]
    show ((cur.toList.take (k * 2) ++ _ ++ _).take (k * 2)) = _
    rw [List.append_assoc, List.take_append_of_le_length (by rw [List.length_take, Array.length_toList, hs]; omega), List.take_take, Nat.min_self]
    have e2 : cur.toList.take (k * 2) = (cur.toList.take (n * 2)).take (k * 2) := by rw [List.take_take, Nat.min_eq_left (by omega)]
    rw [e2, htk]
    exact ndRow_take _ _

end Go.Proofs.YtkjhhooecopolaaGreatDoor

namespace Go.Proofs.YtkjhhooecopolaaGreatDoor
open Go.RowKit

theorem cpt_whole {d : Array Ge.Nd} (h : ∀ j, j < d.size → Lib.keeps d j = true) : Ge.cpt d.toList = d.toList := by
  rw [← Ge.cpt_compact, Lib.compactUpTo_all _ _ h, Lib.range_map_get]

theorem RW.rd {w : World} {g cap n : Nat} {d : Array Ge.Nd} {wr : World} (h : RW w g cap n d wr) : RdN wr (.slice (some ⟨g, 0, none⟩) n cap) d.toList := by
  obtain ⟨cur, hg, hb, hnc, hcm, hs, htk⟩ := h.blk
  have e : d.toList.length = n := by rw [Array.length_toList, h.size]
  exact ⟨by rw [ndRow_len], Or.inr ⟨g, cap, cur, by rw [e], Nat.zero_le _, hb, by rw [e]; exact hnc, hcm, hs, by rw [e]; exact htk⟩⟩

theorem nd_in (x y : Ge.Nd) (hx : NodeIn x.1 x.2.1 x.2.2) (hy : NodeIn y.1 y.2.1 y.2.2) (w : World) :
    (Op.equalIn 10000 83 (.agg #[.complex .f64 (floatOfInt .f64 x.1) (floatOfInt .f64 x.2.1), .int .i64 x.2.2]) (.agg #[.complex .f64 (floatOfInt .f64 y.1) (floatOfInt .f64 y.2.1), .int .i64 y.2.2])).run Tryz.prog w = .ok (decide (x = y)) w := by
  obtain ⟨a1, a2⟩ := fl_nd hx
  obtain ⟨b1, b2⟩ := fl_nd hy
  have q1 := eq_bits a1 b1
  have q2 := eq_bits a2 b2
  obtain ⟨x1, x2, x3⟩ := x
  obtain ⟨y1, y2, y3⟩ := y
  simp only at q1 q2 ⊢
  generalize floatOfInt .f64 x1 = X1 at *
  generalize floatOfInt .f64 x2 = X2 at *
  generalize floatOfInt .f64 y1 = Y1 at *
  generalize floatOfInt .f64 y2 = Y2 at *
  have hdec : decide ((x1, x2, x3) = (y1, y2, y3)) = (decide (x1 = y1) && decide (x2 = y2) && decide (x3 = y3)) := by
    simp [Prod.mk.injEq, Bool.and_assoc]
  have e1 : Op.floatEq .f64 X1 Y1 = decide (x1 = y1) := q1
  have e2 : Op.floatEq .f64 X2 Y2 = decide (x2 = y2) := q2
  rw [hdec]
  rw [run_equalIn_agg w 9999 83 _ _ (by kernel_rfl) (by kernel_rfl)]
  have hc : ∀ w, (Op.equalIn 9999 81 (.complex .f64 X1 X2) (.complex .f64 Y1 Y2)).run Tryz.prog w = .ok (decide (x1 = y1) && decide (x2 = y2)) w := fun w => by
    show (Op.equalIn (9998 + 1) 81 (.complex .f64 X1 X2) (.complex .f64 Y1 Y2)).run Tryz.prog w = _
    rw [Op.equalIn, Sem.run_bind, run_underlying Tryz.underlying81, Result.andThen_ok, ← e1, ← e2]
    rfl
  clear q1 q2 e1 e2 hdec
  simp [go_sem, hc]
  by_cases h1 : x1 = y1 <;> by_cases h2 : x2 = y2 <;> by_cases h3 : x3 = y3 <;> simp [h1, h2, h3]

theorem nd_eql (x y : Ge.Nd) (hx : NodeIn x.1 x.2.1 x.2.2) (hy : NodeIn y.1 y.2.1 y.2.2) (w : World) :
    (binOp .eql 83 (.agg #[.complex .f64 (floatOfInt .f64 x.1) (floatOfInt .f64 x.2.1), .int .i64 x.2.2]) (.agg #[.complex .f64 (floatOfInt .f64 y.1) (floatOfInt .f64 y.2.1), .int .i64 y.2.2])).run Tryz.prog w = .ok (.bool (decide (x = y))) w := by
  rw [run_eql_struct, nd_in x y hx hy w]
  rfl
theorem nd_neq (x y : Ge.Nd) (hx : NodeIn x.1 x.2.1 x.2.2) (hy : NodeIn y.1 y.2.1 y.2.2) (w : World) :
    (binOp .neq 83 (.agg #[.complex .f64 (floatOfInt .f64 x.1) (floatOfInt .f64 x.2.1), .int .i64 x.2.2]) (.agg #[.complex .f64 (floatOfInt .f64 y.1) (floatOfInt .f64 y.2.1), .int .i64 y.2.2])).run Tryz.prog w = .ok (.bool (!decide (x = y))) w := by
  rw [run_neq_struct, nd_in x y hx hy w]
  rfl

end Go.Proofs.YtkjhhooecopolaaGreatDoor

namespace Go.Proofs.YtkjhhooecopolaaGreatDoor
open Go.RowKit

theorem compInv_take {d dk : Array Ge.Nd} {k : Nat} (h : Lib.CompInv d d.size k dk) : dk.toList.take k = Ge.cpt d.toList := by
  rw [← Ge.cpt_compact]
  apply List.ext_getElem?
  intro j
  rw [List.getElem?_take]
  by_cases hj : j < k
  · have hs := h.size
    have hl := h.lt
    rw [if_pos hj, h.low j hj, Array.getElem?_toList, Array.getElem?_eq_getElem (by omega), getElem!_pos dk j (by omega)]
  · rw [if_neg hj, List.getElem?_eq_none (by rw [h.len]; omega)]

theorem RW.dn {w : World} {g cap n : Nat} {d : Array Ge.Nd} {wr : World} (h : RW w g cap n d wr) (q : Nat) : RW w g cap n d (wr.drewN q) := ⟨h.size, h.own, ⟨h.below.os, h.below.tape, h.below.output, h.below.size, h.below.block⟩⟩

set_option maxRecDepth 100000 in
set_option maxHeartbeats 2000000 in
theorem compact_core (w : World) (g cap n : Nat) (d : Array Ge.Nd) (wr0 : World) (h : RW w g cap n d wr0) (hd : ∀ i, i < n → NodeIn (d[i]!).1 (d[i]!).2.1 (d[i]!).2.2) (hn : n ≤ 200000) (hc : n ≤ cap) :
    Calls Tryz.prog 126 #[.slice (some ⟨g, 0, none⟩) n cap] wr0 fun r w' => ∃ v', r = .returned v' ∧ RdN w' v' (Ge.cpt d.toList) ∧ Below w.heap.size w w' := by
  have HR : Hid (RW w g cap n d wr0) := h
  have HD : Hid (∀ i, i < n → NodeIn (d[i]!).1 (d[i]!).2.1 (d[i]!).2.2) := hd
  have hds : d.size = n := h.size
  clear h hd
  by_cases h2 : n < 2
  · go_enter Tryz.func126, Tryz.ntmps126
    go_wp2_with fail
    go_ret
    refine ⟨_, rfl, ?_, HR.out.below⟩
    rw [cpt_whole (fun j hj => Lib.keeps_lt_one d j (by omega))]
    exact HR.out.rd
  · go_enter Tryz.func126, Tryz.ntmps126
    go_wp2_with fail
    go_loopg [3] n (fun gk s3 wr => ∃ k : Nat, 1 ≤ k ∧ k ≤ n ∧ n - k ≤ gk ∧ s3 = .int .i64 k ∧ Hid (RW w g cap n d wr ∧ ∀ j, j < k → Lib.keeps d j = true))
    case atStart => exact ⟨1, Nat.le_refl _, by omega, by omega, rfl, HR.out, Lib.keeps_lt_one d⟩
    case round =>
      obtain ⟨k, hk1, hk, hg, rfl, HI⟩ := hrel
      by_cases hlt : k < n
      · obtain ⟨c1, d1, f1, z1⟩ := HI.out.1.cells k hlt
        obtain ⟨c0, d0, f0, z0⟩ := HI.out.1.cells (k - 1) (by omega)
        have hki : (k : Int) < (n : Int) := by omega
        have hop := nd_eql d[k]! d[k - 1]! (HD.out k hlt) (HD.out (k - 1) (by omega))
        have HX : Hid (d[k]! = d[k - 1]! → Lib.keeps d k = false) := fun e => Lib.keeps_neg (by omega) e
        have HY : Hid (d[k]! ≠ d[k - 1]! → Lib.keeps d k = true) := fun e => Lib.keeps_pos e
        have HXY : Hid (decide (d[k]! = d[k - 1]!) = true ↔ d[k]! = d[k - 1]!) := decide_eq_true_iff
        clear f1 z1 f0 z0
        generalize hB : decide (d[k]! = d[k - 1]!) = bq at hop HXY
        generalize floatOfInt .f64 (d[k]!).1 = A1 at *
        generalize floatOfInt .f64 (d[k]!).2.1 = A2 at *
        generalize (d[k]!).2.2 = A3 at *
        generalize floatOfInt .f64 (d[k - 1]!).1 = B1 at *
        generalize floatOfInt .f64 (d[k - 1]!).2.1 = B2 at *
        generalize (d[k - 1]!).2.2 = B3 at *
        clear hB
        go_wp2_with fail
        go_quiet (fail)
        cases bq
        · have HK := HY.out (fun e => by have := HXY.out.2 e; cases this)
          have HK' : Hid (Lib.keeps d k = true) := HK
          clear HK HX HY HXY c0 c1 d0 d1
          go_wp2_with fail
          go_roundg (n - (k + 1))
          case measure => omega
          case rel =>
            refine ⟨k + 1, by omega, by omega, Nat.le_refl _, by go_num, HI.out.1.dn nq, fun j hj => ?_⟩
            by_cases e : j = k
            · subst e
              exact HK'.out
            · exact HI.out.2 j (by omega)
        · have HK : Hid (Lib.keeps d k = false) := HX.out (HXY.out.1 rfl)
          clear HX HY HXY c0 c1 d0 d1
          have hkc : k ≤ cap := by omega
          go_wp2_with fail
          go_loopg [3, 5] n (fun gk s3 s5 wr2 => ∃ (kk k2 : Nat) (dk : Array Ge.Nd), s3 = .int .i64 kk ∧ s5 = .int .i64 k2 ∧ 1 ≤ k2 ∧ k + k2 ≤ n ∧ n - (k + k2) ≤ gk ∧ Hid (RW w g cap n dk wr2 ∧ Lib.CompInv d (k + k2) kk dk))
          case atStart => exact ⟨k, 1, d, rfl, rfl, Nat.le_refl _, by omega, by omega, HI.out.1.dn nq, Lib.CompInv.start HI.out.2 HK.out⟩
          case round =>
            obtain ⟨kk, k2, dk, rfl, rfl, h1, hle, hg2, HJ⟩ := hrel
            have hkk := HJ.out.2.lt
            by_cases hlt2 : k + k2 < n
            · obtain ⟨c1, d1, _, _⟩ := HJ.out.1.cells (k + k2) hlt2
              obtain ⟨c0, d0, _, _⟩ := HJ.out.1.cells (k + k2 - 1) (by omega)
              obtain ⟨ck, dkk, f1, z1⟩ := HJ.out.1.cells kk (by omega)
              rw [HJ.out.2.high (k + k2) (by omega), show (k + k2) * 2 = k * 2 + k2 * 2 by omega] at c1
              rw [HJ.out.2.high (k + k2) (by omega), show (k + k2) * 2 = k * 2 + k2 * 2 by omega] at d1
              rw [HJ.out.2.high (k + k2 - 1) (by omega), show (k + k2 - 1) * 2 = k * 2 + (k2 - 1) * 2 by omega] at c0
              rw [HJ.out.2.high (k + k2 - 1) (by omega), show (k + k2 - 1) * 2 = k * 2 + (k2 - 1) * 2 by omega] at d0
              have hop2 := nd_neq d[k + k2]! d[k + k2 - 1]! (HD.out (k + k2) hlt2) (HD.out (k + k2 - 1) (by omega))
              have HX : Hid (d[k + k2]! = d[k + k2 - 1]! → Lib.keeps d (k + k2) = false) := fun e => Lib.keeps_neg (by omega) e
              have HY : Hid (d[k + k2]! ≠ d[k + k2 - 1]! → Lib.keeps d (k + k2) = true) := fun e => Lib.keeps_pos e
              have HXY : Hid (decide (d[k + k2]! = d[k + k2 - 1]!) = true ↔ d[k + k2]! = d[k + k2 - 1]!) := decide_eq_true_iff
              have HS : Hid (∀ q, RW w g cap n (dk.setIfInBounds kk d[k + k2]!) (((wr.drewN q).setCell ⟨g, kk * 2, none⟩ (.complex .f64 (floatOfInt .f64 (d[k + k2]!).1) (floatOfInt .f64 (d[k + k2]!).2.1))).setCell ⟨g, kk * 2 + 1, none⟩ (.int .i64 (d[k + k2]!).2.2))) := fun q => (HJ.out.1.dn q).set kk (by omega) _
              have hk2i : (k2 : Int) < (n : Int) - (k : Int) := by omega
              have hk2n : k2 < n - k := by omega
              generalize hB : decide (d[k + k2]! = d[k + k2 - 1]!) = bq at hop2 HXY
              clear hB hop
              generalize floatOfInt .f64 (d[k + k2]!).1 = A1' at *
              generalize floatOfInt .f64 (d[k + k2]!).2.1 = A2' at *
              generalize (d[k + k2]!).2.2 = A3' at *
              generalize floatOfInt .f64 (d[k + k2 - 1]!).1 = B1' at *
              generalize floatOfInt .f64 (d[k + k2 - 1]!).2.1 = B2' at *
              generalize (d[k + k2 - 1]!).2.2 = B3' at *
              go_wp2_with fail
              go_quiet (fail)
              cases bq
              · have HK2 : Hid (Lib.keeps d (k + k2) = true) := HY.out (fun e => by have := HXY.out.2 e; cases this)
                clear HX HY HXY
                simp only [Bool.not_false]
                go_wp2_with (simp only [st_complex]; go_simp)
                go_roundg (n - (k + (k2 + 1)))
                case measure => omega
                case rel => exact ⟨kk + 1, k2 + 1, dk.setIfInBounds kk d[k + k2]!, by go_num, by go_num, by omega, by omega, Nat.le_refl _, HS.out _, HJ.out.2.keep (by omega) HK2.out⟩
              · have HK2 : Hid (Lib.keeps d (k + k2) = false) := HX.out (HXY.out.1 rfl)
                clear HX HY HXY
                simp only [Bool.not_true]
                go_wp2_with fail
                go_roundg (n - (k + (k2 + 1)))
                case measure => omega
                case rel => exact ⟨kk, k2 + 1, dk, rfl, by go_num, by omega, by omega, Nat.le_refl _, HJ.out.1.dn _, HJ.out.2.skip HK2.out⟩
            · have hend : k + k2 = d.size := by omega
              obtain ⟨w', hcl, hbel, hrd⟩ := HJ.out.1.clear kk (by omega) (cap - kk)
              have HRD : Hid (RdN w' (.slice (some ⟨g, 0, none⟩) kk cap) (Ge.cpt d.toList)) := by
                have hI := HJ.out.2
                rw [hend] at hI
                rw [← compInv_take hI]
                exact hrd
              have HBE : Hid (Below w.heap.size w w') := hbel
              have hk2n : ¬ k2 < n - k := by omega
              have hkkn : kk ≤ n := by omega
              have hkkc : kk ≤ cap := by omega
              clear hrd hbel
              go_wp2_with fail
              go_ret
              exact ⟨_, rfl, HRD.out, HBE.out⟩
      · have : k = n := by omega
        subst this
        go_wp2_with fail
        go_ret
        refine ⟨_, rfl, ?_, HI.out.1.below⟩
        rw [cpt_whole (fun j hj => HI.out.2 j (by omega))]
        exact HI.out.1.rd

theorem compact_any (w : World) (lv : Value) (S : List Ge.Nd) (wr : World) (h : NL w lv S wr) (hl : S.length ≤ 200000) :
    Calls Tryz.prog 126 #[lv] wr fun r w' => ∃ v', r = .returned v' ∧ RdN w' v' (Ge.cpt S) ∧ Below w.heap.size w w' := by
  rcases h.own.2 with ⟨rfl, h0⟩ | ⟨g, cap, cur, rfl, hg, hblk, hnc, hcm, hcs, htk⟩
  · have hS : S = [] := List.length_eq_zero_iff.1 h0
    subst hS
    have HB : Hid (Below w.heap.size w wr) := h.below
    clear h h0 hl
    go_enter Tryz.func126, Tryz.ntmps126
    go_wp2_with fail
    go_ret
    exact ⟨_, rfl, World.ownsRow_nil _ _ _ _, HB.out⟩
  · have hR : RW w g cap S.length S.toArray wr := ⟨by simp, h.own, h.below⟩
    have hi : ∀ i, i < S.length → NodeIn (S.toArray[i]!).1 (S.toArray[i]!).2.1 (S.toArray[i]!).2.2 := fun i hi => by
      have e : S.toArray[i]! = S[i] := by rw [getElem!_pos S.toArray i (by simpa using hi)]; simp
      rw [e]
      exact h.inn _ (List.getElem_mem hi)
    exact compact_core w g cap S.length S.toArray wr hR hi hl hnc

end Go.Proofs.YtkjhhooecopolaaGreatDoor
