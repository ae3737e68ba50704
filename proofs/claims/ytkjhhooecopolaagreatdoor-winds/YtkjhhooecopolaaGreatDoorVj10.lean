import Derived.Test.YtkjhhooecopolaaGreatDoorVj08
import Derived.Test.YtkjhhooecopolaaGreatDoorVj09
namespace Go.Proofs.YtkjhhooecopolaaGreatDoor
open Go.RowKit

set_option maxHeartbeats 400000 in
theorem pointAt_any (x y : Int) (w : World) :
    Calls Tryz.prog 38 #[.int .i64 x, .int .i64 y] w fun e w' => e = .returned (.complex .f64 (floatOfInt .f64 x) (floatOfInt .f64 y)) ∧ w' = w := by
  go_enter Tryz.func38, Tryz.ntmps38
  go_wp2
  go_ret
  exact ⟨rfl, rfl⟩

theorem cpxInfo : (Tryz.prog.info? 81).map (fun i => (i.zero, i.size, i.bytes)) = some (some (.complex .f64 0 0), 1, 16) := by kernel_rfl

/-- A box of a token stays while the reader goes on. -/
theorem Kp.box {rb k : Nat} {w w' : World} {c : Array Value} {T : TypeId} (h : Kp rb w w') (hne : k ≠ rb) (hnt : NT rb k w) (hb : w.heap[k]? = some (.cells c T (0, 0))) :
    w'.heap[k]? = some (.cells c T (0, 0)) ∧ NT rb k w' := h k _ hne hnt hb

set_option maxRecDepth 100000 in
set_option maxHeartbeats 2000000 in
theorem readPoint_ok (hO : GoOnSaid) (rb : Nat) (s : ByteArray) (A r : List Pl.Tk) (x y : Pl.Tk) (rg : List (List (Int × Int))) (q : List (Int × Int)) (w : World) (cx : Cx rb s A) (hR : RD rb s A (x :: y :: r) (rg ++ [q]) w) (hG : Gl w)
    (hx : x.k = 110) (hy : y.k = 110) (hq : q.length ≤ 1000) (hrg : rg.length ≤ 1000) :
    Calls Tryz.prog 196 #[.pointer (some ⟨rb, 0, none⟩)] w fun e w' => e = .returned (.bool true) ∧ RD rb s A r (rg ++ [q ++ [(x.n, y.n)]]) w' ∧ Below rb w w' := by
  obtain ⟨i0, hi, hz0, hz1, hz2⟩ := info_parts cpxInfo
  have hlt := hR.lt
  obtain ⟨t', r', hl, c0, c1, c2, c3, c4⟩ := hR.cells
  injection hl with h1 h2
  subst h1 h2
  go_enter Tryz.func196, Tryz.ntmps196
  go_wp2_with fail
  refine (takeNumber_yes hO rb s A (y :: r) x _ _ cx (hR.alloc _) (hG.alloc _) hx).mono ?_
  rintro e w1 ⟨rfl, hR1, hb1, hk1⟩
  clear c0 c1 c2 c3 c4
  have hbox := hk1 w.heap.size _ (by omega) ((hR.nt w.heap.size (Nat.le_refl _)).below hlt ((Below.refl _ _).alloc (Nat.le_refl _) _)) (heap_alloc_new w _)
  obtain ⟨t', r', hl, c0, c1, c2, c3, c4⟩ := hR1.cells
  injection hl with h1 h2
  subst h1 h2
  have hG1 : Gl w1 := (hG.alloc _).below hb1 cx.rb
  go_wp2_with fail
  refine (takeNumber_yes hO rb s A r y _ _ cx (hR1.alloc _) (hG1.alloc _) hy).mono ?_
  rintro e w2 ⟨rfl, hR2, hb2, hk2⟩
  clear c0 c1 c2 c3 c4
  have hlt1 := hR1.lt
  have hby := hk2 w1.heap.size _ (by omega) ((hR1.nt w1.heap.size (Nat.le_refl _)).below hlt1 ((Below.refl _ _).alloc (Nat.le_refl _) _)) (heap_alloc_new w1 _)
  have hbx := hk2 w.heap.size _ (by omega) (hbox.2.below hlt1 ((Below.refl _ _).alloc (Nat.le_refl _) _)) ((Below.heap_alloc _ _ _ (lt_of_heap hbox.1)).trans hbox.1)
  have cx2 : w2.cell? ⟨w.heap.size, 2, none⟩ = some (.int .i64 x.n) := cell_of hbx.1 2
  have cy2 : w2.cell? ⟨w1.heap.size, 2, none⟩ = some (.int .i64 y.n) := cell_of hby.1 2
  obtain ⟨c, t, r0, tv, rv, hc, hl, hbk, hown, hrgs⟩ := id hR2
  obtain ⟨gr, cap, qv, rfl, hgr, ⟨cur, hcur, hcq⟩, hqo, hfin⟩ := hrgs.push
  have c6 : w2.cell? ⟨rb, 6, none⟩ = some (.slice (some ⟨gr, 0, none⟩) (rg.length + 1) cap) := cell_of hbk 6
  have ce : w2.cell? ⟨gr, rg.length, none⟩ = some qv := (cell_of hcur rg.length).trans hcq
  have hlt2 := hR2.lt
  have hnc : (rg.length : Int) < (rg.length : Int) + 1 := by omega
  go_wp2_with fail
  refine Till.start (S := fun w' => w'.cell? ⟨rb, 6, none⟩ = some (.slice (some ⟨gr, 0, none⟩) (rg.length + 1) cap) ∧ w'.cell? ⟨gr, rg.length, none⟩ = some qv ∧ w'.cell? ⟨w.heap.size, 2, none⟩ = some (.int .i64 x.n) ∧ w'.cell? ⟨w1.heap.size, 2, none⟩ = some (.int .i64 y.n)) (n := 20) (by kernel_rfl) ?_
  have hS : w2.drew.cell? ⟨rb, 6, none⟩ = some (.slice (some ⟨gr, 0, none⟩) (rg.length + 1) cap) ∧ w2.drew.cell? ⟨gr, rg.length, none⟩ = some qv ∧ w2.drew.cell? ⟨w.heap.size, 2, none⟩ = some (.int .i64 x.n) ∧ w2.drew.cell? ⟨w1.heap.size, 2, none⟩ = some (.int .i64 y.n) := ⟨c6, ce, cx2, cy2⟩
  refine Till.take (i := 0) (v := ?_) rfl (by kernel_rfl) (by kernel_rfl) (by kernel_rfl) (by kernel_rfl) (fun _ _ _ h => h) (Or.inl ⟨by rfl, ?_⟩) hS ?_
  rotate_left
  · intro w' hS'
    obtain ⟨s1, s2, s3, s4⟩ := hS'
    go_simp
    try with_reducible rfl
  simp only [Act.put, List.setIfInBounds_toArray]
  refine Till.take (i := 1) (v := ?_) rfl (by kernel_rfl) (by kernel_rfl) (by kernel_rfl) (by kernel_rfl) (fun _ _ _ h => h) (Or.inl ⟨by rfl, ?_⟩) hS ?_
  rotate_left
  · intro w' hS'
    obtain ⟨s1, s2, s3, s4⟩ := hS'
    go_simp
    try with_reducible rfl
  simp only [Act.put]
  refine Till.take (i := 2) (v := ?_) rfl (by kernel_rfl) (by kernel_rfl) (by kernel_rfl) (by kernel_rfl) (fun _ _ _ h => h) (Or.inl ⟨by rfl, ?_⟩) hS ?_
  rotate_left
  · intro w' hS'
    obtain ⟨s1, s2, s3, s4⟩ := hS'
    go_simp
    try with_reducible rfl
  simp only [Act.put]
  refine Till.take (i := 3) (v := ?_) rfl (by kernel_rfl) (by kernel_rfl) (by kernel_rfl) (by kernel_rfl) (fun _ _ _ h => h) (Or.inl ⟨by rfl, ?_⟩) hS ?_
  rotate_left
  · intro w' hS'
    obtain ⟨s1, s2, s3, s4⟩ := hS'
    go_simp
    try with_reducible rfl
  simp only [Act.put]
  refine Till.take (i := 4) (v := ?_) rfl (by kernel_rfl) (by kernel_rfl) (by kernel_rfl) (by kernel_rfl) (fun _ _ _ h => h) (Or.inl ⟨by rfl, ?_⟩) hS ?_
  rotate_left
  · intro w' hS'
    obtain ⟨s1, s2, s3, s4⟩ := hS'
    go_simp
    try with_reducible rfl
  simp only [Act.put]
  refine Till.take (i := 5) (v := ?_) rfl (by kernel_rfl) (by kernel_rfl) (by kernel_rfl) (by kernel_rfl) (fun _ _ _ h => h) (Or.inl ⟨by rfl, ?_⟩) hS ?_
  rotate_left
  · intro w' hS'
    obtain ⟨s1, s2, s3, s4⟩ := hS'
    go_simp
    try with_reducible rfl
  simp only [Act.put]
  refine Till.take (i := 6) (v := ?_) rfl (by kernel_rfl) (by kernel_rfl) (by kernel_rfl) (by kernel_rfl) (fun _ _ _ h => h) (Or.inl ⟨by rfl, ?_⟩) hS ?_
  rotate_left
  · intro w' hS'
    obtain ⟨s1, s2, s3, s4⟩ := hS'
    go_simp
    try with_reducible rfl
  simp only [Act.put]
  refine Till.take (i := 7) (v := ?_) rfl (by kernel_rfl) (by kernel_rfl) (by kernel_rfl) (by kernel_rfl) (fun _ _ _ h => h) (Or.inl ⟨by rfl, ?_⟩) hS ?_
  rotate_left
  · intro w' hS'
    obtain ⟨s1, s2, s3, s4⟩ := hS'
    go_simp
    try with_reducible rfl
  simp only [Act.put]
  refine Till.take (i := 8) (v := ?_) rfl (by kernel_rfl) (by kernel_rfl) (by kernel_rfl) (by kernel_rfl) (fun _ _ _ h => h) (Or.inl ⟨by rfl, ?_⟩) hS ?_
  rotate_left
  · intro w' hS'
    obtain ⟨s1, s2, s3, s4⟩ := hS'
    go_simp
    try with_reducible rfl
  simp only [Act.put]
  refine Till.take (i := 9) (v := ?_) rfl (by kernel_rfl) (by kernel_rfl) (by kernel_rfl) (by kernel_rfl) (fun _ _ _ h => h) (Or.inl ⟨by rfl, ?_⟩) hS ?_
  rotate_left
  · intro w' hS'
    obtain ⟨s1, s2, s3, s4⟩ := hS'
    go_simp
    try with_reducible rfl
  simp only [Act.put]
  refine Till.take (i := 10) (v := ?_) rfl (by kernel_rfl) (by kernel_rfl) (by kernel_rfl) (by kernel_rfl) (fun _ _ _ h => h) (Or.inl ⟨by rfl, ?_⟩) hS ?_
  rotate_left
  · intro w' hS'
    obtain ⟨s1, s2, s3, s4⟩ := hS'
    go_simp
    try with_reducible rfl
  simp only [Act.put]
  refine Till.take (i := 11) (v := ?_) rfl (by kernel_rfl) (by kernel_rfl) (by kernel_rfl) (by kernel_rfl) (fun _ _ _ h => h) (Or.inl ⟨by rfl, ?_⟩) hS ?_
  rotate_left
  · intro w' hS'
    obtain ⟨s1, s2, s3, s4⟩ := hS'
    go_simp
    try with_reducible rfl
  simp only [Act.put]
  refine Till.take (i := 12) (v := ?_) rfl (by kernel_rfl) (by kernel_rfl) (by kernel_rfl) (by kernel_rfl) (fun _ _ _ h => h) (Or.inl ⟨by rfl, ?_⟩) hS ?_
  rotate_left
  · intro w' hS'
    obtain ⟨s1, s2, s3, s4⟩ := hS'
    go_simp
    try with_reducible rfl
  simp only [Act.put]
  refine Till.take (i := 13) (v := ?_) rfl (by kernel_rfl) (by kernel_rfl) (by kernel_rfl) (by kernel_rfl) (fun _ _ _ h => h) (Or.inl ⟨by rfl, ?_⟩) hS ?_
  rotate_left
  · intro w' hS'
    obtain ⟨s1, s2, s3, s4⟩ := hS'
    go_simp
    try with_reducible rfl
  simp only [Act.put]
  refine Till.take (i := 14) (v := ?_) rfl (by kernel_rfl) (by kernel_rfl) (by kernel_rfl) (by kernel_rfl) (fun _ _ _ h => h) (Or.inl ⟨by rfl, ?_⟩) hS ?_
  rotate_left
  · intro w' hS'
    obtain ⟨s1, s2, s3, s4⟩ := hS'
    go_simp
    try with_reducible rfl
  simp only [Act.put]
  refine Till.take (i := 15) (v := ?_) rfl (by kernel_rfl) (by kernel_rfl) (by kernel_rfl) (by kernel_rfl) (fun _ _ _ h => h) (Or.inl ⟨by rfl, ?_⟩) hS ?_
  rotate_left
  · intro w' hS'
    obtain ⟨s1, s2, s3, s4⟩ := hS'
    go_simp
    try with_reducible rfl
  simp only [Act.put]
  refine Till.one (i := 16) rfl (by kernel_rfl) (fun K hK => ?_)
  go_simp
  refine (pointAt_any _ _ _).mono ?_
  rintro e w' ⟨rfl, rfl⟩
  go_wp2_with fail
  refine hK _ _ (fun _ => hS) ?_
  clear hK K
  try simp only [Act.put, List.setIfInBounds_toArray, List.set_cons_zero, List.set_cons_succ]
  refine Till.one (i := 17) rfl (by kernel_rfl) (fun K hK => ?_)
  go_simp
  refine hK _ _ (fun _ => ⟨(World.cell?_alloc_lt _ _ _ (World.block_lt_of_cell? _ _ c6)).trans c6, (World.cell?_alloc_lt _ _ _ (World.block_lt_of_cell? _ _ ce)).trans ce, (World.cell?_alloc_lt _ _ _ (World.block_lt_of_cell? _ _ cx2)).trans cx2, (World.cell?_alloc_lt _ _ _ (World.block_lt_of_cell? _ _ cy2)).trans cy2⟩) ?_
  clear hK K
  try simp only [Act.put, List.setIfInBounds_toArray, List.set_cons_zero, List.set_cons_succ]
  refine Till.one (i := 18) rfl (by kernel_rfl) (fun K hK => ?_)
  refine step_append_lies _ rfl (.tmp 37) (.tmp 43) 127 rfl (rb + 1) 81 i0 _ 1 16 Tryz.underlying127 hi hz0 hz1 hz2 rfl (by decide) qv q.length (ptCells q) rfl (own_kept hqo (fun k hk => Below.heap_alloc _ _ _ (own_lt hqo k hk).2)) ⟨w2.heap.size, 0, none⟩ 1 1 [ptVal (x.n, y.n)] rfl rfl (World.news_of_block (cs := #[ptVal (x.n, y.n)]) (t := 81) (fr := (0, 0)) (heap_alloc_new w2 _)) (by simp [Value.oneCell', ptVal]) (by decide) (by unfold maxLen; omega) (by omega) (by show rb + 1 ≤ (w2.alloc _).heap.size; simp; omega) (w2.heap.size + 1) (by show (w2.alloc _).heap.size = _; simp) ?_
  intro g cap' w5 ho hgrow hat hlt5
  have k6 := (grown_heap_drew hgrow rb hR2.lt (own_base_ne hqo rb (by omega))).trans hbk
  have kg := (grown_heap_drew hgrow gr (lt_of_heap hcur) (own_elem hqo hcur (by decide))).trans hcur
  have kx := (grown_heap_drew hgrow w.heap.size (lt_of_heap hbx.1) (own_elem hqo hbx.1 (by decide))).trans hbx.1
  have ky := (grown_heap_drew hgrow w1.heap.size (lt_of_heap hby.1) (own_elem hqo hby.1 (by decide))).trans hby.1
  have d6 : w5.cell? ⟨rb, 6, none⟩ = some (.slice (some ⟨gr, 0, none⟩) (rg.length + 1) cap) := cell_of k6 6
  have de : w5.cell? ⟨gr, rg.length, none⟩ = some qv := (cell_of kg rg.length).trans hcq
  have dx : w5.cell? ⟨w.heap.size, 2, none⟩ = some (.int .i64 x.n) := cell_of kx 2
  have dy : w5.cell? ⟨w1.heap.size, 2, none⟩ = some (.int .i64 y.n) := cell_of ky 2
  have fe : w5.frozen? ⟨gr, rg.length, none⟩ = false := frozen_of kg _
  refine hK _ _ (fun _ => ⟨d6, de, dx, dy⟩) ?_
  clear hK K
  try simp only [Act.put, List.setIfInBounds_toArray]
  refine Till.one (i := 19) rfl (by kernel_rfl) (fun K hK => ?_)
  go_simp
  refine hK _ _ (fun _ => ⟨d6, de, dx, dy⟩) ?_
  clear hK K
  try simp only [Act.put, List.setIfInBounds_toArray, List.set_cons_zero, List.set_cons_succ]
  refine Till.one (i := 20) rfl (by kernel_rfl) (fun K hK => ?_)
  go_simp
  refine hK _ _ (fun h => absurd rfl h) ?_
  clear hK K
  refine Till.done (by kernel_rfl) ?_ _
  go_wp2_with fail
  go_ret
  refine ⟨rfl, ⟨c, t, r0, tv, _, hc, hl, (heap_set_ne (by omega) _).trans k6, own_kept hown fun k hk => ?_, hfin w5 g cap' _ _ hgrow ho hat⟩, ?_⟩
  · obtain ⟨c9, hc9⟩ := heap_of_own hown hk
    have hkg : k ≠ gr := fun e => by
      rw [e, hcur] at hc9
      injection hc9 with hc9
      injection hc9 with _ hc9 _
      cases hc9
    rw [heap_set_ne hkg]
    exact grown_heap_drew hgrow k (own_lt hown k hk).2 (own_elem hqo hc9 (by decide))
  · have e1 : Below rb w w2 := (((((Below.refl rb w).alloc (by omega) _).trans hb1).alloc (by omega) _).trans hb2)
    have e2 : Below rb w w5 := ((e1.alloc (Nat.le_of_lt hR2.lt) _).drew).grown hgrow (by have := hR2.lt; show rb ≤ (w2.alloc _).heap.size; simp; omega) (fun k hk => by have := (own_lt hqo k hk).1; omega)
    exact e2.setCell (by show rb ≤ gr; omega) _

end Go.Proofs.YtkjhhooecopolaaGreatDoor

namespace Go.Proofs.YtkjhhooecopolaaGreatDoor
open Go.RowKit

set_option maxRecDepth 100000 in
set_option maxHeartbeats 400000 in
theorem readPoint_no1 (rb : Nat) (s : ByteArray) (A r : List Pl.Tk) (x : Pl.Tk) (rg : List (List (Int × Int))) (w : World) (hR : RD rb s A (x :: r) rg w) (hx : x.k ≠ 110) :
    Calls Tryz.prog 196 #[.pointer (some ⟨rb, 0, none⟩)] w fun e w' => e = .returned (.bool false) ∧ RD rb s A (x :: r) rg w' ∧ Below rb w w' := by
  have hlt := hR.lt
  obtain ⟨t', r', hl, c0, c1, c2, c3, c4⟩ := hR.cells
  injection hl with h1 h2
  subst h1 h2
  go_enter Tryz.func196, Tryz.ntmps196
  go_wp2_with fail
  refine (takeNumber_no rb s A r x _ _ (hR.alloc _) hx).mono ?_
  rintro e w1 ⟨rfl, rfl⟩
  go_wp2_with fail
  go_ret
  exact ⟨rfl, hR.alloc _, (Below.refl rb w).alloc (by omega) _⟩

set_option maxRecDepth 100000 in
set_option maxHeartbeats 400000 in
theorem readPoint_no2 (hO : GoOnSaid) (rb : Nat) (s : ByteArray) (A r : List Pl.Tk) (x y : Pl.Tk) (rg : List (List (Int × Int))) (w : World) (cx : Cx rb s A) (hR : RD rb s A (x :: y :: r) rg w) (hG : Gl w) (hx : x.k = 110) (hy : y.k ≠ 110) :
    Calls Tryz.prog 196 #[.pointer (some ⟨rb, 0, none⟩)] w fun e w' => e = .returned (.bool false) ∧ RD rb s A (y :: r) rg w' ∧ Below rb w w' := by
  have hlt := hR.lt
  obtain ⟨t', r', hl, c0, c1, c2, c3, c4⟩ := hR.cells
  injection hl with h1 h2
  subst h1 h2
  go_enter Tryz.func196, Tryz.ntmps196
  go_wp2_with fail
  refine (takeNumber_yes hO rb s A (y :: r) x _ _ cx (hR.alloc _) (hG.alloc _) hx).mono ?_
  rintro e w1 ⟨rfl, hR1, hb1, hk1⟩
  clear c0 c1 c2 c3 c4
  obtain ⟨t', r', hl, c0, c1, c2, c3, c4⟩ := hR1.cells
  injection hl with h1 h2
  subst h1 h2
  have hlt1 := hR1.lt
  go_wp2_with fail
  refine (takeNumber_no rb s A r y _ _ (hR1.alloc _) hy).mono ?_
  rintro e w2 ⟨rfl, rfl⟩
  go_wp2_with fail
  go_ret
  exact ⟨rfl, hR1.alloc _, (((Below.refl rb w).alloc (by omega) _).trans hb1).alloc (by omega) _⟩

theorem RD.chain {rb : Nat} {s : ByteArray} {A l : List Pl.Tk} {rg : List (List (Int × Int))} {w : World} (cx : Cx rb s A) (h : RD rb s A l rg w) : Pl.Chain s.data.toList l := by
  obtain ⟨c, t, r, hc, hl⟩ := h.suffix
  exact Pl.chain_suffix _ c l (by rw [hc]; exact cx.ch) (by rw [hl]; simp)

theorem RD.le {rb : Nat} {s : ByteArray} {A l : List Pl.Tk} {rg : List (List (Int × Int))} {w : World} (h : RD rb s A l rg w) : l.length ≤ A.length := by
  obtain ⟨c, t, r, hc, hl⟩ := h.suffix
  rw [← hc]; simp

/-- What an item's reading leaves: the state behind it; if it was read, the rings with it. -/
def ItemPost (rb : Nat) (s : ByteArray) (A : List Pl.Tk) (b : Bool) (l' : List Pl.Tk) (rg' : List (List (Int × Int))) (w : World) (e : Ending) (w' : World) : Prop :=
  e = .returned (.bool b) ∧ (∃ rg, RD rb s A l' rg w' ∧ (b = true → rg = rg')) ∧ Below rb w w'

theorem readPoint_any (hO : GoOnSaid) (rb : Nat) (s : ByteArray) (A l : List Pl.Tk) (rg : List (List (Int × Int))) (q : List (Int × Int)) (w : World) (cx : Cx rb s A) (hR : RD rb s A l (rg ++ [q]) w) (hG : Gl w) (hq : q.length ≤ 1000) (hrg : rg.length ≤ 1000) :
    Calls Tryz.prog 196 #[.pointer (some ⟨rb, 0, none⟩)] w (ItemPost rb s A (Pl.pPt l).1 (Pl.pPt l).2.1 (rg ++ [q ++ [(Pl.pPt l).2.2]]) w) := by
  have hch := hR.chain cx
  match l, hR, hch with
  | [], hR, hch => exact hch.elim
  | [x], hR, hch =>
    have hx : x.k ≠ 110 := by
      have : x.k = 101 ∨ x.k = 120 := hch
      omega
    refine (readPoint_no1 rb s A [] x _ w hR hx).mono ?_
    rintro e w' ⟨rfl, h1, h2⟩
    exact ⟨rfl, ⟨_, h1, fun h => (by cases h)⟩, h2⟩
  | x :: y :: r, hR, hch =>
    by_cases hx : x.k = 110
    · by_cases hy : y.k = 110
      · have e : Pl.pPt (x :: y :: r) = (true, r, (x.n, y.n)) := by simp [Pl.pPt, hx, hy]
        rw [e]
        refine (readPoint_ok hO rb s A r x y rg q w cx hR hG hx hy hq hrg).mono ?_
        rintro e w' ⟨rfl, h1, h2⟩
        exact ⟨rfl, ⟨_, h1, fun _ => rfl⟩, h2⟩
      · have e : Pl.pPt (x :: y :: r) = (false, y :: r, (0, 0)) := by simp [Pl.pPt, hx, hy]
        rw [e]
        refine (readPoint_no2 hO rb s A r x y _ w cx hR hG hx hy).mono ?_
        rintro e w' ⟨rfl, h1, h2⟩
        exact ⟨rfl, ⟨_, h1, fun h => (by cases h)⟩, h2⟩
    · have e : Pl.pPt (x :: y :: r) = (false, x :: y :: r, (0, 0)) := by simp [Pl.pPt, hx]
      rw [e]
      refine (readPoint_no1 rb s A _ x _ w hR hx).mono ?_
      rintro e w' ⟨rfl, h1, h2⟩
      exact ⟨rfl, ⟨_, h1, fun h => (by cases h)⟩, h2⟩

end Go.Proofs.YtkjhhooecopolaaGreatDoor
