import Derived.Test.YtkjhhooecopolaaGreatDoorKj20
import Derived.Test.YtkjhhooecopolaaGreatDoorKj18
import Derived.Test.YtkjhhooecopolaaGreatDoorKj13
import Derived.Deep.RegionLaw
import Derived.Deep.RegionWith
import Derived.Test.YtkjhhooecopolaaGreatDoorKj24
import Derived.Deep.AppendLies
import Derived.Deep.LoopGhost
import Derived.Deep.RegionHeld3
namespace Go.Proofs.YtkjhhooecopolaaGreatDoor
open Go.RowKit

/-- The edges so far, the shape's own block, and what was there ahead of the call. -/
def EIn (w : World) (sh : Array Value) (lv : Value) (acc : List Ed) (wr : World) : Prop :=
  wr.ownsRow w.heap.size 151 4 lv acc.length (edRow acc) ∧ Below w.heap.size w wr ∧ w.heap.size < wr.heap.size ∧ wr.heap[w.heap.size]? = some (.cells sh 29 (0, 0))

theorem edRow_snoc (l : List Ed) (e : Ed) : edRow (l ++ [e]) = edRow l ++ (edA e).toList := by simp [edRow]

theorem EIn.alloc {w wr : World} {sh : Array Value} {lv : Value} {acc : List Ed} (h : EIn w sh lv acc wr) (o : Obj) : EIn w sh lv acc (wr.alloc o) := by
  obtain ⟨h1, h2, h3, h4⟩ := h
  refine ⟨own_kept h1 fun k hk => Below.heap_alloc _ _ _ (own_lt h1 k hk).2, h2.alloc h2.size _, by simp; omega, ?_⟩
  rw [Below.heap_alloc _ _ _ h3]; exact h4

theorem EIn.drew {w wr : World} {sh : Array Value} {lv : Value} {acc : List Ed} (h : EIn w sh lv acc wr) : EIn w sh lv acc wr.drew :=
  ⟨own_kept h.1 fun _ _ => rfl, h.2.1.drew, h.2.2.1, h.2.2.2⟩

theorem EIn.grown {w W5 w6 : World} {sh : Array Value} {lv lv' : Value} {acc acc' : List Ed} {o : Obj} (h : EIn w sh lv acc W5) (hg : (W5.alloc o).drew.grownBy w6 lv.ownBlock)
    (ho : w6.ownsRow w.heap.size 151 4 lv' acc'.length (edRow acc')) : EIn w sh lv' acc' w6 := by
  obtain ⟨h1, h2, h3, h4⟩ := h
  have hs := hg.size
  have hs' : W5.heap.size + 1 ≤ w6.heap.size := by
    have e : (W5.alloc o).drew.heap.size = W5.heap.size + 1 := by show (W5.alloc o).heap.size = _; simp
    omega
  have hne : lv.ownBlock ≠ some w.heap.size := own_elem h1 h4 (by decide)
  refine ⟨ho, ⟨hg.os.trans h2.os, hg.tape.trans h2.tape, hg.output.trans h2.output, ?_, fun k hk => ?_⟩, by omega, ?_⟩
  · have := h2.size; omega
  · have := h2.size
    exact (grown_heap_drew hg k (by omega) (own_base_ne h1 k hk)).trans (h2.block k hk)
  · exact (grown_heap_drew hg _ h3 hne).trans h4

theorem cell_alloc (w : World) (o : Obj) {b k : Nat} (h : b < w.heap.size) : (w.alloc o).cell? ⟨b, k, none⟩ = w.cell? ⟨b, k, none⟩ := by
  simp only [World.cell?]
  rw [Below.heap_alloc _ _ _ h]

theorem edgeInfo : (Tryz.prog.info? 151).map (fun i => (i.zero, i.size, i.bytes)) = some (some (.agg #[.int .i64 0, .int .i64 0, .int .i64 0, .int .i64 0]), 4, 32) := by kernel_rfl

theorem ring_cells {w : World} {so : Option Addr} {n cap : Nat} {g : List (Int × Int)} (hR : RdRing w (.slice so n cap) g) {k : Nat} {p : Int × Int} (hp : g[k]? = some p) :
    ∃ b, so = some ⟨b, 0, none⟩ ∧ b < w.heap.size ∧ w.cell? ⟨b, k * 2, none⟩ = some (.int .i64 p.1) ∧ w.cell? ⟨b, k * 2 + 1, none⟩ = some (.int .i64 p.2) := by
  obtain ⟨a0, a1⟩ := pairRow_get g k p hp
  obtain ⟨b, c, hv, hb, hc⟩ := own_get' hR a0
  injection hv with hv
  exact ⟨b, hv, hb, hc _ _ a0, hc _ _ a1⟩

set_option maxRecDepth 100000 in
set_option maxHeartbeats 4000000 in
theorem redges_any (ps : List (List (List (Int × Int)))) (W : ByteArray) (pv : Value) (w : World) (hR : RdMulti w pv ps) (hok : okMulti ps) :
    Calls Tryz.prog 79 #[.agg #[.string W, pv, .int .i64 0]] w fun e w' => ∃ v, e = .returned v ∧ RdEdges w' v (Ge.allEdges ps.flatten) ∧ Below w.heap.size w w' := by
  obtain ⟨so, cap, rfl⟩ := rdRow_slice hR
  obtain ⟨i0, hi, hz0, hz1, hz2⟩ := info_parts edgeInfo
  have HR : Hid (RdMulti w (.slice so ps.length cap) ps) := hR
  have HOK : Hid (okMulti ps) := hok
  have hl : ps.length ≤ 402 := hok.1
  clear hR hok
  have HIN : Hid (EIn w #[.string W, .slice so ps.length cap, .int .i64 0] (.slice none 0 0) [] (w.alloc (.cells #[.string W, .slice so ps.length cap, .int .i64 0] 29))) :=
    ⟨World.ownsRow_nil _ _ _ _, (Below.refl _ _).alloc (Nat.le_refl _) _, by simp, heap_alloc_new _ _⟩
  have HLEN : Hid (∀ i, (Ge.allEdges (ps.take i).flatten).length ≤ 65000000) := fun i => by
    have h := Ge.flat_le 402 402 (ps.take i) (fun p hp => ⟨(HOK.out.2 p (List.mem_of_mem_take hp)).1, fun g hg => ((HOK.out.2 p (List.mem_of_mem_take hp)).2 g hg).2⟩)
    have h2 : (ps.take i).length ≤ 402 := by simp; omega
    omega
  go_enter Tryz.func79, Tryz.ntmps79
  go_wp2_with fail
  go_loopg [3, 4] ps.length (fun m lv iv wr => ∃ i : Nat, i + m = ps.length ∧ iv = .int .i64 i ∧ Hid (EIn w #[.string W, .slice so ps.length cap, .int .i64 0] lv (Ge.allEdges (ps.take i).flatten) wr))
  case atStart => exact ⟨0, by omega, rfl, HIN⟩
  case round =>
    obtain ⟨i, him, rfl, HE⟩ := hrel
    obtain ⟨hown, hbel, hwz, hbx⟩ := HE.out
    have c1 : wr.cell? ⟨w.heap.size, 1, none⟩ = some (.slice so ps.length cap) := cell_of' hbx 1
    clear HIN
    by_cases hlt : i < ps.length
    · obtain ⟨p, hp⟩ : ∃ p, ps[i]? = some p := ⟨_, List.getElem?_eq_getElem hlt⟩
      obtain ⟨b, u, rfl, hb, e0, hru⟩ := rdRow_get HR.out hp
      obtain ⟨us, uc, rfl⟩ := rdRow_slice hru
      have HOKP : Hid (okPoly p) := HOK.out.2 p (List.mem_of_getElem? hp)
      have HRP : Hid (RdPoly w (.slice us p.length uc) p) := hru
      have HCP : Hid (w.cell? ⟨b, i, none⟩ = some (.slice us p.length uc)) := e0
      have hpl : p.length ≤ 402 := HOKP.out.1
      have HT : Hid (Ge.allEdges (ps.take (i + 1)).flatten = Ge.allEdges (ps.take i).flatten ++ Ge.allEdges p) := Ge.flat_take hp
      have hli := HLEN.out i
      have HL2 : Hid (∀ k, (Ge.allEdges (p.take k)).length ≤ 162000) := fun k => by
        have h := Ge.all_le 402 (p.take k) (fun g hg => (HOKP.out.2 g (List.mem_of_mem_take hg)).2)
        have h2 : (p.take k).length ≤ 402 := by simp; omega
        omega
      generalize Ge.allEdges (ps.take i).flatten = A1 at *
      have hki : (i : Int) < (ps.length : Int) := by omega
      obtain ⟨m1, hm1⟩ : ∃ m1, m1 = gk := ⟨_, rfl⟩
      clear hp e0 hru HOK HR hown hbx
      go_wp2_with fail
      go_loopg [3, 5] p.length (fun m lv kv wr => ∃ k : Nat, k + m = p.length ∧ kv = .int .i64 k ∧ Hid (EIn w #[.string W, .slice (some ⟨b, 0, none⟩) ps.length cap, .int .i64 0] lv (A1 ++ Ge.allEdges (p.take k)) wr))
      case atStart => exact ⟨0, by omega, rfl, by simpa [Ge.allEdges] using HE⟩
      case round =>
        obtain ⟨k, hkm, rfl, HE2⟩ := hrel
        obtain ⟨hown2, hbel2, hwz2, hbx2⟩ := HE2.out
        have d1 : wr.cell? ⟨w.heap.size, 1, none⟩ = some (.slice (some ⟨b, 0, none⟩) ps.length cap) := cell_of' hbx2 1
        have d2 := (hbel2.cell (p := ⟨b, i, none⟩) hb).trans HCP.out
        have hbr : b < wr.heap.size := Nat.lt_of_lt_of_le hb hbel2.size
        clear HE
        by_cases hlt2 : k < p.length
        · obtain ⟨g, hg⟩ : ∃ g, p[k]? = some g := ⟨_, List.getElem?_eq_getElem hlt2⟩
          obtain ⟨b2, u2, rfl, hb2, e2, hru2⟩ := rdRow_get HRP.out hg
          obtain ⟨gs, gc, rfl⟩ := rdRing_slice hru2
          have hgl : g.length ≤ 402 := (HOKP.out.2 g (List.mem_of_getElem? hg)).2
          have HRG : Hid (RdRing w (.slice gs g.length gc) g) := hru2
          have d3 := (hbel2.cell (p := ⟨b2, k, none⟩) hb2).trans e2
          have HT2 : Hid (Ge.allEdges (p.take (k + 1)) = Ge.allEdges (p.take k) ++ Ge.edges g) := Ge.all_take hg
          have hl2 := HL2.out k
          have hki2 : (k : Int) < (p.length : Int) := by omega
          have hbr2 : b2 < wr.heap.size := Nat.lt_of_lt_of_le hb2 hbel2.size
          obtain ⟨m2, hm2⟩ : ∃ m2, m2 = gk := ⟨_, rfl⟩
          generalize Ge.allEdges (p.take k) = A2 at *
          clear hg e2 hru2 hown2 hbx2
          go_wp2_with fail
          go_loopg [3, 7] g.length (fun m lv nv wr => ∃ n : Nat, n + m = g.length ∧ nv = .int .i64 n ∧ Hid (EIn w #[.string W, .slice (some ⟨b, 0, none⟩) ps.length cap, .int .i64 0] lv (A1 ++ A2 ++ Ge.edT g n) wr))
          case atStart => exact ⟨0, by omega, rfl, by simpa [Ge.edT_zero] using HE2⟩
          case round =>
            obtain ⟨n, hnm, rfl, HE3⟩ := hrel
            obtain ⟨hown3, hbel3, hwz3, hbx3⟩ := HE3.out
            clear HE2 d1 d2 d3
            by_cases hlt3 : n < g.length
            · obtain ⟨P, hP⟩ : ∃ P, g[n]? = some P := ⟨_, List.getElem?_eq_getElem hlt3⟩
              obtain ⟨F, hF⟩ : ∃ F, g[0]? = some F := ⟨_, List.getElem?_eq_getElem (show 0 < g.length by omega)⟩
              obtain ⟨b3, rfl, hb3, p0, p1⟩ := ring_cells HRG.out hP
              obtain ⟨b4, hb4, _, f0, f1⟩ := ring_cells HRG.out hF
              injection hb4 with hb4
              injection hb4 with hb4
              subst hb4
              rw [Nat.zero_mul] at f0 f1
              rw [Nat.zero_add] at f1
              have r0 := (hbel3.cell (p := ⟨b3, n * 2, none⟩) hb3).trans p0
              have r1 := (hbel3.cell (p := ⟨b3, n * 2 + 1, none⟩) hb3).trans p1
              have r2 := (hbel3.cell (p := ⟨b3, 0, none⟩) hb3).trans f0
              have r3 := (hbel3.cell (p := ⟨b3, 1, none⟩) hb3).trans f1
              have hbr3 : b3 < wr.heap.size := Nat.lt_of_lt_of_le hb3 hbel3.size
              have hki3 : (n : Int) < (g.length : Int) := by omega
              have h0g : (0 : Int) < (g.length : Int) := by omega
              have HP : Hid (g[n]? = some P) := hP
              have HF : Hid (g[0]? = some F) := hF
              clear p0 p1 f0 f1 hP hF
              by_cases hn1 : n + 1 < g.length
              · obtain ⟨Q, hQ⟩ : ∃ Q, g[n + 1]? = some Q := ⟨_, List.getElem?_eq_getElem hn1⟩
                obtain ⟨b4, hb4, _, f0, f1⟩ := ring_cells HRG.out hQ
                injection hb4 with hb4
                injection hb4 with hb4
                subst hb4
                have r4 := (hbel3.cell (p := ⟨b3, (n + 1) * 2, none⟩) hb3).trans f0
                have r5 := (hbel3.cell (p := ⟨b3, (n + 1) * 2 + 1, none⟩) hb3).trans f1
                have hki4 : (n : Int) + 1 < (g.length : Int) := by omega
                have HQ : Hid (Ge.nextOf g n = some Q) := by unfold Ge.nextOf Hid; rw [if_pos hn1]; exact hQ
                clear f0 f1 hQ
                go_wp2_with fail
                have hEW : EIn w #[.string W, .slice (some ⟨b, 0, none⟩) ps.length cap, .int .i64 0] u3 (A1 ++ A2 ++ Ge.edT g n) (wr.alloc (.cells #[.int .i64 Q.1, .int .i64 Q.2] 65)) := HE3.out.alloc _
                have s0 : (wr.alloc (.cells #[.int .i64 Q.1, .int .i64 Q.2] 65)).cell? ⟨b3, n * 2, none⟩ = some (.int .i64 P.1) := by rw [← r0]; exact cell_alloc _ _ hbr3
                have s1 : (wr.alloc (.cells #[.int .i64 Q.1, .int .i64 Q.2] 65)).cell? ⟨b3, n * 2 + 1, none⟩ = some (.int .i64 P.2) := by rw [← r1]; exact cell_alloc _ _ hbr3
                have s2 : (wr.alloc (.cells #[.int .i64 Q.1, .int .i64 Q.2] 65)).cell? ⟨wr.heap.size, 0, none⟩ = some (.int .i64 Q.1) := cell_of' (heap_alloc_new _ _) 0
                have s3 : (wr.alloc (.cells #[.int .i64 Q.1, .int .i64 Q.2] 65)).cell? ⟨wr.heap.size, 1, none⟩ = some (.int .i64 Q.2) := cell_of' (heap_alloc_new _ _) 1
                have hQB := heap_alloc_new wr (.cells #[.int .i64 Q.1, .int .i64 Q.2] 65)
                have hsW : wr.heap.size < (wr.alloc (.cells #[.int .i64 Q.1, .int .i64 Q.2] 65)).heap.size := by simp
                generalize wr.alloc (.cells #[.int .i64 Q.1, .int .i64 Q.2] 65) = W4 at *
                have hbr4 : b3 < W4.heap.size := by omega
                clear r0 r1 r2 r3 r4 r5 HE3 hown3 hbx3 hbel3 hwz3
                generalize wr.heap.size = BQ at *
                obtain ⟨P1, P2⟩ := P
                obtain ⟨Q1, Q2⟩ := Q
                simp only at s0 s1 s2 s3
                by_cases hpq : (P1, P2) = (Q1, Q2)
                · injection hpq with hpq1 hpq2
                  subst hpq1 hpq2
                  have HN : Hid (EIn w #[.string W, .slice (some ⟨b, 0, none⟩) ps.length cap, .int .i64 0] u3 (A1 ++ A2 ++ Ge.edT g (n + 1)) W4.drew) := by
                    rw [Ge.edT_eq HP.out HQ.out rfl]; exact hEW.drew
                  clear hEW HF HRG
                  go_region_held3 (fun w' => w'.cell? ⟨b3, n * 2, none⟩ = some (.int .i64 P1) ∧ w'.cell? ⟨b3, n * 2 + 1, none⟩ = some (.int .i64 P2) ∧ w'.cell? ⟨BQ, 0, none⟩ = some (.int .i64 P1) ∧ w'.cell? ⟨BQ, 1, none⟩ = some (.int .i64 P2)) (go_keep) (fail)
                  go_wp2_with fail
                  go_roundg (gk - 1)
                  case measure => omega
                  case rel => exact ⟨n + 1, by omega, by go_num, HN⟩
                · have HNE : Hid (Ge.edT g (n + 1) = Ge.edT g n ++ [((P1, P2), (Q1, Q2))]) := Ge.edT_ne HP.out HQ.out hpq
                  have hal : (A1 ++ A2 ++ Ge.edT g n).length ≤ 66000000 := by
                    have := Ge.edT_le g n
                    simp only [List.length_append]; omega
                  have HA3 : Hid (∃ A3, A3 = A1 ++ A2 ++ Ge.edT g n) := ⟨_, rfl⟩
                  obtain ⟨A3, hA3⟩ := HA3.out
                  rw [← hA3] at hEW hal
                  have HA : Hid (A3 = A1 ++ A2 ++ Ge.edT g n) := hA3
                  clear hA3 HA3
                  rcases (show (P1 == Q1) = false ∨ ((P1 == Q1) = true ∧ (P2 == Q2) = false) by
                    by_cases h1 : P1 = Q1
                    · by_cases h2 : P2 = Q2
                      · exact absurd (by rw [h1, h2]) hpq
                      · exact Or.inr ⟨beq_iff_eq.2 h1, beq_eq_false_iff_ne.2 h2⟩
                    · exact Or.inl (beq_eq_false_iff_ne.2 h1)) with hq1 | ⟨hq1, hq2⟩
                  all_goals
                    clear hpq HP HQ HF HRG
                    go_region_held3 (fun w' => w'.cell? ⟨b3, n * 2, none⟩ = some (.int .i64 P1) ∧ w'.cell? ⟨b3, n * 2 + 1, none⟩ = some (.int .i64 P2) ∧ w'.cell? ⟨BQ, 0, none⟩ = some (.int .i64 Q1) ∧ w'.cell? ⟨BQ, 1, none⟩ = some (.int .i64 Q2)) (go_keep) (fail)
                    go_wp2_with fail
                    have hE5 : EIn w #[.string W, .slice (some ⟨b, 0, none⟩) ps.length cap, .int .i64 0] u3 A3 W4.drew := hEW.drew
                    have t0 : W4.drew.cell? ⟨b3, n * 2, none⟩ = some (.int .i64 P1) := s0
                    have t1 : W4.drew.cell? ⟨b3, n * 2 + 1, none⟩ = some (.int .i64 P2) := s1
                    have t2 : W4.drew.cell? ⟨BQ, 0, none⟩ = some (.int .i64 Q1) := s2
                    have t3 : W4.drew.cell? ⟨BQ, 1, none⟩ = some (.int .i64 Q2) := s3
                    clear hEW s0 s1 s2 s3
                    have hQB : W4.drew.heap[BQ]? = some (.cells #[.int .i64 Q1, .int .i64 Q2] 65 (0, 0)) := hQB
                    have hsW : BQ < W4.drew.heap.size := hsW
                    have hbr4 : b3 < W4.drew.heap.size := hbr4
                    generalize W4.drew = W5 at *
                    obtain ⟨ho5, hb5, hz5, hx5⟩ := hE5
                    have ne3 : u3.ownBlock ≠ some b3 := own_base_ne ho5 b3 hb3
                    have neQ : u3.ownBlock ≠ some BQ := own_elem ho5 hQB (by decide)
                    have hE5 : EIn w #[.string W, .slice (some ⟨b, 0, none⟩) ps.length cap, .int .i64 0] u3 A3 W5 := ⟨ho5, hb5, hz5, hx5⟩
                    go_region_held3 (fun w' => w'.cell? ⟨b3, n * 2, none⟩ = some (.int .i64 P1) ∧ w'.cell? ⟨b3, n * 2 + 1, none⟩ = some (.int .i64 P2) ∧ w'.cell? ⟨BQ, 0, none⟩ = some (.int .i64 Q1) ∧ w'.cell? ⟨BQ, 1, none⟩ = some (.int .i64 Q2))
                      (first
                        | go_keep
                        | (go_split_ands
                           refine ⟨?_, ?_, ?_, ?_⟩
                           · (rw [hgrow6.cell_far _ (by simp; omega) (Ne.symm ne3)]; assumption)
                           · (rw [hgrow6.cell_far _ (by simp; omega) (Ne.symm ne3)]; assumption)
                           · (rw [hgrow6.cell_far _ (by simp; omega) (Ne.symm neQ)]; assumption)
                           · (rw [hgrow6.cell_far _ (by simp; omega) (Ne.symm neQ)]; assumption)))
                      ((refine step_append_lies _ (by rfl) _ _ _ (by rfl) w.heap.size 151 i0 _ 4 32 Tryz.underlying148 hi hz0 hz1 hz2 rfl (by decide) u3 A3.length (edRow A3) (by rfl) (own_kept ho5 (fun k hk => Below.heap_alloc _ _ _ (own_lt ho5 k hk).2)) ⟨W5.heap.size, 0, none⟩ 1 1 [.int .i64 P1, .int .i64 P2, .int .i64 Q1, .int .i64 Q2] (by rfl) (by rfl) (World.news_of_block (cs := #[.int .i64 P1, .int .i64 P2, .int .i64 Q1, .int .i64 Q2]) (t := 151) (fr := (0, 0)) (heap_alloc_new W5 _)) (by simp [Value.oneCell']) (by decide) (by unfold maxLen; omega) (by omega) (by simp; omega) (W5.heap.size + 1) (by simp) ?_; intro g' cap' w6 ho6 hgrow6 hat6 hlt6))
                    have HN : Hid (EIn w #[.string W, .slice (some ⟨b, 0, none⟩) ps.length cap, .int .i64 0] (.slice (some ⟨g', 0, none⟩) (A3.length + 1) cap') (A1 ++ A2 ++ Ge.edT g (n + 1)) w6) := by
                      rw [HNE.out, ← List.append_assoc, ← HA.out]
                      exact hE5.grown hgrow6 (by rw [edRow_snoc, List.length_append]; exact ho6)
                    clear ho6 hgrow6 hE5 ho5 hb5 hx5 hz5
                    go_wp2_with fail
                    go_roundg (gk - 1)
                    case measure => omega
                    case rel => exact ⟨n + 1, by omega, by go_num, HN⟩
              · have HQ : Hid (Ge.nextOf g n = some F) := by unfold Ge.nextOf Hid; rw [if_neg hn1]; exact HF.out
                obtain ⟨Q, hQF⟩ : ∃ Q, Q = F := ⟨_, rfl⟩
                subst hQF
                have hki4 : ¬ ((n : Int) + 1 < (g.length : Int)) := by omega
                go_wp2_with fail
                have hEW : EIn w #[.string W, .slice (some ⟨b, 0, none⟩) ps.length cap, .int .i64 0] u3 (A1 ++ A2 ++ Ge.edT g n) (wr.alloc (.cells #[.int .i64 Q.1, .int .i64 Q.2] 65)) := HE3.out.alloc _
                have s0 : (wr.alloc (.cells #[.int .i64 Q.1, .int .i64 Q.2] 65)).cell? ⟨b3, n * 2, none⟩ = some (.int .i64 P.1) := by rw [← r0]; exact cell_alloc _ _ hbr3
                have s1 : (wr.alloc (.cells #[.int .i64 Q.1, .int .i64 Q.2] 65)).cell? ⟨b3, n * 2 + 1, none⟩ = some (.int .i64 P.2) := by rw [← r1]; exact cell_alloc _ _ hbr3
                have s2 : (wr.alloc (.cells #[.int .i64 Q.1, .int .i64 Q.2] 65)).cell? ⟨wr.heap.size, 0, none⟩ = some (.int .i64 Q.1) := cell_of' (heap_alloc_new _ _) 0
                have s3 : (wr.alloc (.cells #[.int .i64 Q.1, .int .i64 Q.2] 65)).cell? ⟨wr.heap.size, 1, none⟩ = some (.int .i64 Q.2) := cell_of' (heap_alloc_new _ _) 1
                have hQB := heap_alloc_new wr (.cells #[.int .i64 Q.1, .int .i64 Q.2] 65)
                have hsW : wr.heap.size < (wr.alloc (.cells #[.int .i64 Q.1, .int .i64 Q.2] 65)).heap.size := by simp
                generalize wr.alloc (.cells #[.int .i64 Q.1, .int .i64 Q.2] 65) = W4 at *
                have hbr4 : b3 < W4.heap.size := by omega
                clear r0 r1 r2 r3 HE3 hown3 hbx3 hbel3 hwz3
                generalize wr.heap.size = BQ at *
                obtain ⟨P1, P2⟩ := P
                obtain ⟨Q1, Q2⟩ := Q
                simp only at s0 s1 s2 s3
                by_cases hpq : (P1, P2) = (Q1, Q2)
                · injection hpq with hpq1 hpq2
                  subst hpq1 hpq2
                  have HN : Hid (EIn w #[.string W, .slice (some ⟨b, 0, none⟩) ps.length cap, .int .i64 0] u3 (A1 ++ A2 ++ Ge.edT g (n + 1)) W4.drew) := by
                    rw [Ge.edT_eq HP.out HQ.out rfl]; exact hEW.drew
                  clear hEW HF HRG
                  go_region_held3 (fun w' => w'.cell? ⟨b3, n * 2, none⟩ = some (.int .i64 P1) ∧ w'.cell? ⟨b3, n * 2 + 1, none⟩ = some (.int .i64 P2) ∧ w'.cell? ⟨BQ, 0, none⟩ = some (.int .i64 P1) ∧ w'.cell? ⟨BQ, 1, none⟩ = some (.int .i64 P2)) (go_keep) (fail)
                  go_wp2_with fail
                  go_roundg (gk - 1)
                  case measure => omega
                  case rel => exact ⟨n + 1, by omega, by go_num, HN⟩
                · have HNE : Hid (Ge.edT g (n + 1) = Ge.edT g n ++ [((P1, P2), (Q1, Q2))]) := Ge.edT_ne HP.out HQ.out hpq
                  have hal : (A1 ++ A2 ++ Ge.edT g n).length ≤ 66000000 := by
                    have := Ge.edT_le g n
                    simp only [List.length_append]; omega
                  have HA3 : Hid (∃ A3, A3 = A1 ++ A2 ++ Ge.edT g n) := ⟨_, rfl⟩
                  obtain ⟨A3, hA3⟩ := HA3.out
                  rw [← hA3] at hEW hal
                  have HA : Hid (A3 = A1 ++ A2 ++ Ge.edT g n) := hA3
                  clear hA3 HA3
                  rcases (show (P1 == Q1) = false ∨ ((P1 == Q1) = true ∧ (P2 == Q2) = false) by
                    by_cases h1 : P1 = Q1
                    · by_cases h2 : P2 = Q2
                      · exact absurd (by rw [h1, h2]) hpq
                      · exact Or.inr ⟨beq_iff_eq.2 h1, beq_eq_false_iff_ne.2 h2⟩
                    · exact Or.inl (beq_eq_false_iff_ne.2 h1)) with hq1 | ⟨hq1, hq2⟩
                  all_goals
                    clear hpq HP HQ HF HRG
                    go_region_held3 (fun w' => w'.cell? ⟨b3, n * 2, none⟩ = some (.int .i64 P1) ∧ w'.cell? ⟨b3, n * 2 + 1, none⟩ = some (.int .i64 P2) ∧ w'.cell? ⟨BQ, 0, none⟩ = some (.int .i64 Q1) ∧ w'.cell? ⟨BQ, 1, none⟩ = some (.int .i64 Q2)) (go_keep) (fail)
                    go_wp2_with fail
                    have hE5 : EIn w #[.string W, .slice (some ⟨b, 0, none⟩) ps.length cap, .int .i64 0] u3 A3 W4.drew := hEW.drew
                    have t0 : W4.drew.cell? ⟨b3, n * 2, none⟩ = some (.int .i64 P1) := s0
                    have t1 : W4.drew.cell? ⟨b3, n * 2 + 1, none⟩ = some (.int .i64 P2) := s1
                    have t2 : W4.drew.cell? ⟨BQ, 0, none⟩ = some (.int .i64 Q1) := s2
                    have t3 : W4.drew.cell? ⟨BQ, 1, none⟩ = some (.int .i64 Q2) := s3
                    clear hEW s0 s1 s2 s3
                    have hQB : W4.drew.heap[BQ]? = some (.cells #[.int .i64 Q1, .int .i64 Q2] 65 (0, 0)) := hQB
                    have hsW : BQ < W4.drew.heap.size := hsW
                    have hbr4 : b3 < W4.drew.heap.size := hbr4
                    generalize W4.drew = W5 at *
                    obtain ⟨ho5, hb5, hz5, hx5⟩ := hE5
                    have ne3 : u3.ownBlock ≠ some b3 := own_base_ne ho5 b3 hb3
                    have neQ : u3.ownBlock ≠ some BQ := own_elem ho5 hQB (by decide)
                    have hE5 : EIn w #[.string W, .slice (some ⟨b, 0, none⟩) ps.length cap, .int .i64 0] u3 A3 W5 := ⟨ho5, hb5, hz5, hx5⟩
                    go_region_held3 (fun w' => w'.cell? ⟨b3, n * 2, none⟩ = some (.int .i64 P1) ∧ w'.cell? ⟨b3, n * 2 + 1, none⟩ = some (.int .i64 P2) ∧ w'.cell? ⟨BQ, 0, none⟩ = some (.int .i64 Q1) ∧ w'.cell? ⟨BQ, 1, none⟩ = some (.int .i64 Q2))
                      (first
                        | go_keep
                        | (go_split_ands
                           refine ⟨?_, ?_, ?_, ?_⟩
                           · (rw [hgrow6.cell_far _ (by simp; omega) (Ne.symm ne3)]; assumption)
                           · (rw [hgrow6.cell_far _ (by simp; omega) (Ne.symm ne3)]; assumption)
                           · (rw [hgrow6.cell_far _ (by simp; omega) (Ne.symm neQ)]; assumption)
                           · (rw [hgrow6.cell_far _ (by simp; omega) (Ne.symm neQ)]; assumption)))
                      ((refine step_append_lies _ (by rfl) _ _ _ (by rfl) w.heap.size 151 i0 _ 4 32 Tryz.underlying148 hi hz0 hz1 hz2 rfl (by decide) u3 A3.length (edRow A3) (by rfl) (own_kept ho5 (fun k hk => Below.heap_alloc _ _ _ (own_lt ho5 k hk).2)) ⟨W5.heap.size, 0, none⟩ 1 1 [.int .i64 P1, .int .i64 P2, .int .i64 Q1, .int .i64 Q2] (by rfl) (by rfl) (World.news_of_block (cs := #[.int .i64 P1, .int .i64 P2, .int .i64 Q1, .int .i64 Q2]) (t := 151) (fr := (0, 0)) (heap_alloc_new W5 _)) (by simp [Value.oneCell']) (by decide) (by unfold maxLen; omega) (by omega) (by simp; omega) (W5.heap.size + 1) (by simp) ?_; intro g' cap' w6 ho6 hgrow6 hat6 hlt6))
                    have HN : Hid (EIn w #[.string W, .slice (some ⟨b, 0, none⟩) ps.length cap, .int .i64 0] (.slice (some ⟨g', 0, none⟩) (A3.length + 1) cap') (A1 ++ A2 ++ Ge.edT g (n + 1)) w6) := by
                      rw [HNE.out, ← List.append_assoc, ← HA.out]
                      exact hE5.grown hgrow6 (by rw [edRow_snoc, List.length_append]; exact ho6)
                    clear ho6 hgrow6 hE5 ho5 hb5 hx5 hz5
                    go_wp2_with fail
                    go_roundg (gk - 1)
                    case measure => omega
                    case rel => exact ⟨n + 1, by omega, by go_num, HN⟩
            · have hn : n = g.length := by omega
              subst hn
              have HN : Hid (EIn w #[.string W, .slice (some ⟨b, 0, none⟩) ps.length cap, .int .i64 0] u3 (A1 ++ Ge.allEdges (p.take (k + 1))) wr) := by
                rw [HT2.out, ← List.append_assoc, ← Ge.edT_all]; exact HE3.out
              clear HE3 hown3 hbel3 hbx3 HRG HT2 HL2
              go_wp2_with fail
              go_roundg (m2 - 1)
              case measure => omega
              case rel => exact ⟨k + 1, by omega, by go_num, HN⟩
        · have hk : k = p.length := by omega
          subst hk
          have HN : Hid (EIn w #[.string W, .slice (some ⟨b, 0, none⟩) ps.length cap, .int .i64 0] u3 (Ge.allEdges (ps.take (i + 1)).flatten) wr) := by
            rw [HT.out]
            have := HE2.out
            rw [List.take_length] at this
            exact this
          clear HE2 hown2 hbx2 HRP HT HL2
          go_wp2_with fail
          go_roundg (m1 - 1)
          case measure => omega
          case rel => exact ⟨i + 1, by omega, by go_num, HN⟩
    · have hk : i = ps.length := by omega
      subst hk
      have HF : Hid (EIn w #[.string W, .slice so ps.length cap, .int .i64 0] u3 (Ge.allEdges ps.flatten) wr) := by
        rw [List.take_length] at HE; exact HE
      clear HE HR HOK HLEN hown hbel hbx
      go_wp2_with fail
      go_ret
      exact ⟨_, rfl, own_zero HF.out.1, HF.out.2.1⟩

end Go.Proofs.YtkjhhooecopolaaGreatDoor

namespace Go.Proofs.YtkjhhooecopolaaGreatDoor
open Go.RowKit

/-! 'with': a point into an ascending list. -/
def qRow (l : List Ge.Qt) : List Value := l.flatMap fun p => (qA p).toList
def RdQ (w : World) (v : Value) (l : List Ge.Qt) : Prop := w.ownsRow 0 100 4 v l.length (qRow l)

theorem qRow_get : ∀ (l : List Ge.Qt) (k : Nat) (e : Ge.Qt), l[k]? = some e → ∀ j, j < 4 → (qRow l)[k * 4 + j]? = (qA e)[j]?
  | [], _, _, h, _, _ => by simp at h
  | q :: r, 0, e, h, j, hj => by
    simp at h
    subst h
    have e1 : qRow (q :: r) = (qA q).toList ++ qRow r := by simp [qRow]
    rw [e1, List.getElem?_append_left (by simp [qA]; omega)]
    simp
  | q :: r, k + 1, e, h, j, hj => by
    have ih := qRow_get r k e (by simpa using h) j hj
    have e1 : qRow (q :: r) = (qA q).toList ++ qRow r := by simp [qRow]
    rw [e1, List.getElem?_append_right (by simp [qA]; omega)]
    have e2 : (k + 1) * 4 + j - (qA q).toList.length = k * 4 + j := by simp [qA]; omega
    rw [e2, ih]
theorem qRow_snoc (l : List Ge.Qt) (e : Ge.Qt) : qRow (l ++ [e]) = qRow l ++ (qA e).toList := by simp [qRow]
theorem rdQ_slice {w : World} {v : Value} {l : List Ge.Qt} (h : RdQ w v l) : ∃ so cap, v = .slice so l.length cap := by
  rcases h.2 with ⟨hv, h0⟩ | ⟨b, cap, cur, hv, _⟩
  · exact ⟨none, 0, by rw [hv, h0]⟩
  · exact ⟨_, cap, hv⟩
theorem rdQ_get {w : World} {so : Option Addr} {n cap : Nat} {l : List Ge.Qt} (h : RdQ w (.slice so n cap) l) {k : Nat} {e : Ge.Qt} (he : l[k]? = some e) :
    ∃ b, so = some ⟨b, 0, none⟩ ∧ b < w.heap.size ∧ w.cell? ⟨b, k * 4, none⟩ = some (.int .i64 e.1.1) ∧ w.cell? ⟨b, k * 4 + 1, none⟩ = some (.int .i64 e.1.2) ∧ w.cell? ⟨b, k * 4 + 2, none⟩ = some (.int .i64 e.2.1) ∧ w.cell? ⟨b, k * 4 + 3, none⟩ = some (.int .i64 e.2.2) := by
  have g := qRow_get l k e he
  obtain ⟨b, c, hv, hb, hc⟩ := own_get' h (g 0 (by omega))
  injection hv with hv
  exact ⟨b, hv, hb, hc _ _ (g 0 (by omega)), hc _ _ (g 1 (by omega)), hc _ _ (g 2 (by omega)), hc _ _ (g 3 (by omega))⟩
theorem keeps_q : Keeps [100] RdQ := fun w w' v x h hk => keeps_own h fun k cur hc => hk k cur _ hc (by simp)
theorem qInfo : (Tryz.prog.info? 100).map (fun i => (i.zero, i.size, i.bytes)) = some (some (.agg #[.int .i64 0, .int .i64 0, .int .i64 0, .int .i64 0]), 4, 32) := by kernel_rfl

namespace Ge
theorem ins_all {p : Qt} : ∀ {a : List Qt}, (∀ q ∈ a, pc q p < 0) → ins p a = a ++ [p]
  | [], _ => rfl
  | q :: a, h => by
    have h1 := h q (by simp)
    unfold ins
    rw [if_neg (by omega), if_pos h1, ins_all (fun x hx => h x (by simp [hx]))]
    rfl
theorem ins_at {p q : Qt} {c : List Qt} (hq : 0 < pc q p) : ∀ {a : List Qt}, (∀ q ∈ a, pc q p < 0) → ins p (a ++ q :: c) = a ++ p :: q :: c
  | [], _ => by
    show ins p (q :: c) = _
    unfold ins
    rw [if_neg (by omega), if_neg (by omega)]
    rfl
  | r :: a, h => by
    have h1 := h r (by simp)
    show ins p (r :: (a ++ q :: c)) = _
    unfold ins
    rw [if_neg (by omega), if_pos h1, ins_at hq (fun x hx => h x (by simp [hx]))]
    rfl
theorem ins_have {p q : Qt} {c : List Qt} (hq : pc q p = 0) : ∀ {a : List Qt}, (∀ q ∈ a, pc q p < 0) → ins p (a ++ q :: c) = a ++ q :: c
  | [], _ => by
    show ins p (q :: c) = _
    unfold ins
    rw [if_pos hq]
    rfl
  | r :: a, h => by
    have h1 := h r (by simp)
    show ins p (r :: (a ++ q :: c)) = _
    unfold ins
    rw [if_neg (by omega), if_pos h1, ins_have hq (fun x hx => h x (by simp [hx]))]
    rfl
/-- How far 'with' has come behind k points. -/
def Wi (p : Qt) (l : List Qt) (k : Nat) (done : Bool) (out : List Qt) : Prop :=
  (done = false ∧ (∀ q ∈ l.take k, pc q p < 0) ∧ out = l.take k) ∨ (done = true ∧ ∃ a q c, l.take k = a ++ q :: c ∧ (∀ q ∈ a, pc q p < 0) ∧ 0 < pc q p ∧ out = a ++ p :: q :: c)
theorem Wi.fin {p : Qt} {l out : List Qt} {done : Bool} (h : Wi p l l.length done out) : (done = true ∧ out = ins p l) ∨ (done = false ∧ out ++ [p] = ins p l) := by
  unfold Wi at h
  rw [List.take_length] at h
  rcases h with ⟨h1, h2, rfl⟩ | ⟨h1, a, q, c, rfl, h2, h3, rfl⟩
  · exact Or.inr ⟨h1, (ins_all h2).symm⟩
  · exact Or.inl ⟨h1, (ins_at h3 h2).symm⟩
theorem take_next {l : List Qt} {k : Nat} {q : Qt} (h : l[k]? = some q) : l.take (k + 1) = l.take k ++ [q] := by
  obtain ⟨hlt, he⟩ := List.getElem?_eq_some_iff.1 h
  rw [List.take_succ_eq_append_getElem hlt, he]
theorem Wi.eq {p q : Qt} {l out : List Qt} {k : Nat} {done : Bool} (hr : ∀ q ∈ l, RedP q) (hp : RedP p) (ha : Asc l) (h : Wi p l k done out) (hq : l[k]? = some q) (h0 : pc q p = 0) : ins p l = l := by
  have hl : l = l.take k ++ q :: l.drop (k + 1) := by
    obtain ⟨hlt, he⟩ := List.getElem?_eq_some_iff.1 hq
    conv => lhs; rw [← List.take_append_drop k l, List.drop_eq_getElem_cons hlt, he]
  rcases h with ⟨_, h2, _⟩ | ⟨_, a, r, c, h1, _, h3, _⟩
  · rw [hl]
    exact ins_have h0 h2
  · exfalso
    have hrq : lt r q := by
      have ha' := ha
      rw [hl, h1] at ha'
      unfold Asc at ha'
      rw [List.append_assoc, List.cons_append] at ha'
      have h4 := (List.pairwise_append.1 ha').2.1
      exact (List.pairwise_cons.1 h4).1 q (by simp)
    have e := pc_zero (hr q (List.mem_of_getElem? hq)) hp h0
    subst e
    unfold lt at hrq
    omega
theorem Wi.low {p q : Qt} {l out : List Qt} {k : Nat} {done : Bool} (hr : ∀ q ∈ l, RedP q) (hp : RedP p) (ha : Asc l) (h : Wi p l k done out) (hq : l[k]? = some q) (h0 : pc q p < 0) : done = false ∧ Wi p l (k + 1) false (out ++ [q]) := by
  rcases h with ⟨h1, h2, rfl⟩ | ⟨h1, a, r, c, h1', h2, h3, _⟩
  · refine ⟨h1, Or.inl ⟨rfl, ?_, (take_next hq).symm⟩⟩
    rw [take_next hq]
    intro x hx
    rcases List.mem_append.1 hx with hx | hx
    · exact h2 x hx
    · rw [List.mem_singleton.1 hx]; exact h0
  · exfalso
    have hl : l = l.take k ++ q :: l.drop (k + 1) := by
      obtain ⟨hlt, he⟩ := List.getElem?_eq_some_iff.1 hq
      conv => lhs; rw [← List.take_append_drop k l, List.drop_eq_getElem_cons hlt, he]
    have hrq : lt r q := by
      have ha' := ha
      rw [hl, h1'] at ha'
      unfold Asc at ha'
      rw [List.append_assoc, List.cons_append] at ha'
      have h4 := (List.pairwise_append.1 ha').2.1
      exact (List.pairwise_cons.1 h4).1 q (by simp)
    have hr1 : RedP r := hr r (List.mem_of_mem_take (i := k) (by rw [h1']; simp))
    have := lt_trans hr1 (hr q (List.mem_of_getElem? hq)) hp hrq h0
    unfold lt at this
    omega
theorem Wi.high {p q : Qt} {l out : List Qt} {k : Nat} {done : Bool} (h : Wi p l k done out) (hq : l[k]? = some q) (h0 : 0 < pc q p) : Wi p l (k + 1) true (if done then out ++ [q] else (out ++ [p]) ++ [q]) := by
  rcases h with ⟨rfl, h2, rfl⟩ | ⟨rfl, a, r, c, h1', h2, h3, rfl⟩
  · exact Or.inr ⟨rfl, l.take k, q, [], take_next hq, h2, h0, by simp⟩
  · exact Or.inr ⟨rfl, a, r, c ++ [q], by rw [take_next hq, h1']; simp, h2, h3, by simp⟩
theorem Wi.len {p : Qt} {l out : List Qt} {k : Nat} {done : Bool} (h : Wi p l k done out) : out.length ≤ k + 1 := by
  rcases h with ⟨_, _, rfl⟩ | ⟨_, a, r, c, h1', _, _, rfl⟩
  · simp; omega
  · have := congrArg List.length h1'
    simp at this ⊢
    omega
end Ge

/-- The list so far, and the point's own block. -/
def WI (w : World) (pv : Array Value) (ov : Value) (out : List Ge.Qt) (wr : World) : Prop :=
  wr.ownsRow (w.heap.size + 1) 100 4 ov out.length (qRow out) ∧ Below w.heap.size w wr ∧ w.heap.size < wr.heap.size ∧ wr.heap[w.heap.size]? = some (.cells pv 100 (0, 0))
theorem WI.below {w wr wr' : World} {pv : Array Value} {ov : Value} {out : List Ge.Qt} (h : WI w pv ov out wr) (hb : Below wr.heap.size wr wr') : WI w pv ov out wr' := by
  obtain ⟨h1, h2, h3, h4⟩ := h
  exact ⟨own_kept h1 fun k hk => hb.block k (own_lt h1 k hk).2, h2.trans (hb.mono h2.size), Nat.lt_of_lt_of_le h3 hb.size, (hb.block _ h3).trans h4⟩
theorem WI.drew {w wr : World} {pv : Array Value} {ov : Value} {out : List Ge.Qt} (h : WI w pv ov out wr) : WI w pv ov out wr.drew :=
  ⟨own_kept h.1 fun _ _ => rfl, h.2.1.drew, h.2.2.1, h.2.2.2⟩
theorem WI.grown {w W5 w6 : World} {pv : Array Value} {ov ov' : Value} {out out' : List Ge.Qt} {o : Obj} (h : WI w pv ov out W5) (hg : (W5.alloc o).grownBy w6 ov.ownBlock)
    (ho : w6.ownsRow (w.heap.size + 1) 100 4 ov' out'.length (qRow out')) : WI w pv ov' out' w6 := by
  obtain ⟨h1, h2, h3, h4⟩ := h
  have hs := hg.size
  have hs' : W5.heap.size + 1 ≤ w6.heap.size := by
    have e : (W5.alloc o).heap.size = W5.heap.size + 1 := by simp
    omega
  refine ⟨ho, ⟨hg.os.trans h2.os, hg.tape.trans h2.tape, hg.output.trans h2.output, ?_, fun k hk => ?_⟩, by omega, ?_⟩
  · have := h2.size; omega
  · have := h2.size
    exact (grown_heap hg k (by omega) (own_base_ne h1 k (by omega))).trans (h2.block k hk)
  · exact (grown_heap hg _ h3 (own_base_ne h1 _ (by omega))).trans h4

set_option maxRecDepth 100000 in
set_option maxHeartbeats 2000000 in
theorem with_core (l : List Ge.Qt) (P : Ge.Qt) (p1 p2 p3 p4 : Int) (hPe : P = ((p1, p2), (p3, p4))) (v : Value) (w : World) (hR : RdQ w v l) (hl : l.length ≤ 100000000) (hin : ∀ q ∈ l, QIn q) (hp : QIn P) (hrl : ∀ q ∈ l, Ge.RedP q) (hrp : Ge.RedP P) (hasc : Ge.Asc l) :
    Calls Tryz.prog 83 #[v, .agg #[.int .i64 p1, .int .i64 p2, .int .i64 p3, .int .i64 p4]] w fun e w' => ∃ v', e = .returned v' ∧ RdQ w' v' (Ge.ins P l) ∧ Below w.heap.size w w' := by
  obtain ⟨so, cap, rfl⟩ := rdQ_slice hR
  obtain ⟨i0, hi, hz0, hz1, hz2⟩ := info_parts qInfo
  have HR : Hid (RdQ w (.slice so l.length cap) l) := hR
  have HC2 : Hid (∀ q ∈ l, ∀ w1, Calls Tryz.prog 47 #[.agg #[.int .i64 q.1.1, .int .i64 q.1.2, .int .i64 q.2.1, .int .i64 q.2.2], .agg #[.int .i64 p1, .int .i64 p2, .int .i64 p3, .int .i64 p4]] w1 fun e w' => e = .returned (.int .i64 (Ge.pc q P)) ∧ Below w1.heap.size w1 w') := fun q hq w1 => by
    have := pcmp_any q P w1 (hin q hq) hp
    rw [hPe] at this ⊢
    exact this
  have HA : Hid ((∀ q ∈ l, Ge.RedP q) ∧ Ge.RedP P ∧ Ge.Asc l) := ⟨hrl, hrp, hasc⟩
  have HPQ : Hid (qRow [P] = [.int .i64 p1, .int .i64 p2, .int .i64 p3, .int .i64 p4]) := by rw [hPe]; rfl
  clear hR hin hp hrl hrp hasc hPe
  have HIN : Hid (WI w #[.int .i64 p1, .int .i64 p2, .int .i64 p3, .int .i64 p4] (.slice none 0 0) [] (w.alloc (.cells #[.int .i64 p1, .int .i64 p2, .int .i64 p3, .int .i64 p4] 100))) := ⟨World.ownsRow_nil _ _ _ _, (Below.refl _ _).alloc (Nat.le_refl _) _, by simp, heap_alloc_new _ _⟩
  go_enter Tryz.func83, Tryz.ntmps83
  go_wp2_with fail
  go_loopg [5, 6, 7] l.length (fun m ov dv iv wr => ∃ (k : Nat) (done : Bool) (out : List Ge.Qt), k + m = l.length ∧ iv = .int .i64 k ∧ dv = .bool done ∧ Hid (Ge.Wi P l k done out ∧ WI w #[.int .i64 p1, .int .i64 p2, .int .i64 p3, .int .i64 p4] ov out wr))
  case atStart => exact ⟨0, false, [], by omega, rfl, rfl, Or.inl ⟨rfl, by simp, by simp⟩, HIN.out⟩
  case round =>
    obtain ⟨k, done, out, hkm, rfl, rfl, HB⟩ := hrel
    have hbel := HB.out.2.2.1
    have hwz := HB.out.2.2.2.1
    have hPb := HB.out.2.2.2.2
    have hol := HB.out.1.len
    have q0 : wr.cell? ⟨w.heap.size, 0, none⟩ = some (.int .i64 p1) := cell_of' hPb 0
    have q1 : wr.cell? ⟨w.heap.size, 1, none⟩ = some (.int .i64 p2) := cell_of' hPb 1
    have q2 : wr.cell? ⟨w.heap.size, 2, none⟩ = some (.int .i64 p3) := cell_of' hPb 2
    have q3 : wr.cell? ⟨w.heap.size, 3, none⟩ = some (.int .i64 p4) := cell_of' hPb 3
    clear HIN hPb
    by_cases hlt : k < l.length
    · obtain ⟨q, hq⟩ : ∃ q, l[k]? = some q := ⟨_, List.getElem?_eq_getElem hlt⟩
      obtain ⟨b, rfl, hb, c0, c1, c2, c3⟩ := rdQ_get HR.out hq
      have r0 := (hbel.cell (p := ⟨b, k * 4, none⟩) hb).trans c0
      have r1 := (hbel.cell (p := ⟨b, k * 4 + 1, none⟩) hb).trans c1
      have r2 := (hbel.cell (p := ⟨b, k * 4 + 2, none⟩) hb).trans c2
      have r3 := (hbel.cell (p := ⟨b, k * 4 + 3, none⟩) hb).trans c3
      have hbr : b < wr.heap.size := Nat.lt_of_lt_of_le hb hbel.size
      have hki : (k : Int) < (l.length : Int) := by omega
      have HC1 := HC2.out q (List.mem_of_getElem? hq)
      have HC3 : Hid (∀ w1, Calls Tryz.prog 47 #[.agg #[.int .i64 q.1.1, .int .i64 q.1.2, .int .i64 q.2.1, .int .i64 q.2.2], .agg #[.int .i64 p1, .int .i64 p2, .int .i64 p3, .int .i64 p4]] w1 fun e w' => e = .returned (.int .i64 (Ge.pc q P)) ∧ Below w1.heap.size w1 w') := HC1
      have HQ : Hid (l[k]? = some q) := hq
      clear c0 c1 c2 c3 hq HC1
      obtain ⟨S, hS⟩ : ∃ S, Ge.pc q P = S := ⟨_, rfl⟩
      have HS : Hid (Ge.pc q P = S) := hS
      rw [hS] at HC3
      clear hS
      obtain ⟨⟨a1, a2⟩, a3, a4⟩ := q
      simp only at r0 r1 r2 r3 HC3
      go_wp2_with fail
      go_region_held3 (fun w' => w'.cell? ⟨b, k * 4, none⟩ = some (.int .i64 a1) ∧ w'.cell? ⟨b, k * 4 + 1, none⟩ = some (.int .i64 a2) ∧ w'.cell? ⟨b, k * 4 + 2, none⟩ = some (.int .i64 a3) ∧ w'.cell? ⟨b, k * 4 + 3, none⟩ = some (.int .i64 a4) ∧ w'.cell? ⟨w.heap.size, 0, none⟩ = some (.int .i64 p1) ∧ w'.cell? ⟨w.heap.size, 1, none⟩ = some (.int .i64 p2) ∧ w'.cell? ⟨w.heap.size, 2, none⟩ = some (.int .i64 p3) ∧ w'.cell? ⟨w.heap.size, 3, none⟩ = some (.int .i64 p4)) (go_keep) (first | (go_at_call 47; refine (HC3.out _).mono ?_; rintro e' w7 ⟨rfl, hb7⟩; have s0 := (hb7.cell (p := ⟨b, k * 4, none⟩) hbr).trans r0; have s1 := (hb7.cell (p := ⟨b, k * 4 + 1, none⟩) hbr).trans r1; have s2 := (hb7.cell (p := ⟨b, k * 4 + 2, none⟩) hbr).trans r2; have s3 := (hb7.cell (p := ⟨b, k * 4 + 3, none⟩) hbr).trans r3; have t0 := (hb7.cell (p := ⟨w.heap.size, 0, none⟩) hwz).trans q0; have t1 := (hb7.cell (p := ⟨w.heap.size, 1, none⟩) hwz).trans q1; have t2 := (hb7.cell (p := ⟨w.heap.size, 2, none⟩) hwz).trans q2; have t3 := (hb7.cell (p := ⟨w.heap.size, 3, none⟩) hwz).trans q3))
      have HB7 : Hid (Ge.Wi P l k done out ∧ WI w #[.int .i64 p1, .int .i64 p2, .int .i64 p3, .int .i64 p4] u5 out w7) := ⟨HB.out.1, HB.out.2.drew.below hb7⟩
      clear r0 r1 r2 r3 q0 q1 q2 q3 hb7 HB hbel hbr hwz
      have hbr7 : b < w7.heap.size := by
        have := HB7.out.2.2.1.size
        omega
      rcases Int.lt_trichotomy S 0 with hs | hs | hs
      · obtain ⟨hd, hW⟩ := HB7.out.1.low HA.out.1 HA.out.2.1 HA.out.2.2 HQ.out (by rw [HS.out]; exact hs)
        subst hd
        have HW : Hid (Ge.Wi P l (k + 1) false (out ++ [((a1, a2), (a3, a4))])) := hW
        have ho7 := HB7.out.2.1
        have hz7 := HB7.out.2.2.2.1
        clear hW
        go_wp2_with (at_builtin; refine wpList_append_lies _ rfl (.tmp 34) (.tmp 39) 92 rfl (w.heap.size + 1) 100 i0 _ 4 32 Tryz.underlying92 hi hz0 hz1 hz2 rfl (by decide) u5 out.length (qRow out) rfl (own_kept ho7 (fun k hk => Below.heap_alloc _ _ _ (own_lt ho7 k hk).2)) ⟨w7.heap.size, 0, none⟩ 1 1 [.int .i64 a1, .int .i64 a2, .int .i64 a3, .int .i64 a4] rfl rfl (World.news_of_block (cs := #[.int .i64 a1, .int .i64 a2, .int .i64 a3, .int .i64 a4]) (t := 100) (fr := (0, 0)) (heap_alloc_new w7 _)) (by simp [Value.oneCell']) (by decide) (by unfold maxLen; omega) (by omega) (by simp; omega) (w7.heap.size + 1) (by simp) ?_; intro g' cap' w8 ho8 hg8 hat8 hlt8)
        have HN : Hid (Ge.Wi P l (k + 1) false (out ++ [((a1, a2), (a3, a4))]) ∧ WI w #[.int .i64 p1, .int .i64 p2, .int .i64 p3, .int .i64 p4] (.slice (some ⟨g', 0, none⟩) (out.length + 1) cap') (out ++ [((a1, a2), (a3, a4))]) w8) := ⟨HW.out, HB7.out.2.grown hg8 (by rw [qRow_snoc, List.length_append]; exact ho8)⟩
        clear ho8 hg8 ho7 HB7
        go_roundg (gk - 1)
        case measure => omega
        case rel => exact ⟨k + 1, false, _, by omega, by go_num, rfl, HN⟩
      · subst hs
        have HE : Hid (Ge.ins P l = l) := HB7.out.1.eq HA.out.1 HA.out.2.1 HA.out.2.2 HQ.out HS.out
        go_wp2_with fail
        go_ret
        refine ⟨_, rfl, ?_, HB7.out.2.2.1⟩
        rw [HE.out]
        exact keeps_below keeps_q HR.out HB7.out.2.2.1
      · have hW := HB7.out.1.high HQ.out (by rw [HS.out]; exact hs)
        have ho7 := HB7.out.2.1
        have hz7 := HB7.out.2.2.2.1
        cases done
        · have HW : Hid (Ge.Wi P l (k + 1) true (out ++ [P] ++ [((a1, a2), (a3, a4))])) := hW
          clear hW
          go_wp2_with (first
            | (at_builtin; refine wpList_append_lies _ rfl (.tmp 30) (.tmp 32) 92 rfl (w.heap.size + 1) 100 i0 _ 4 32 Tryz.underlying92 hi hz0 hz1 hz2 rfl (by decide) u5 out.length (qRow out) rfl (own_kept ho7 (fun k hk => Below.heap_alloc _ _ _ (own_lt ho7 k hk).2)) ⟨w7.heap.size, 0, none⟩ 1 1 [.int .i64 p1, .int .i64 p2, .int .i64 p3, .int .i64 p4] rfl rfl (World.news_of_block (cs := #[.int .i64 p1, .int .i64 p2, .int .i64 p3, .int .i64 p4]) (t := 100) (fr := (0, 0)) (heap_alloc_new w7 _)) (by simp [Value.oneCell']) (by decide) (by unfold maxLen; omega) (by omega) (by simp; omega) (w7.heap.size + 1) (by simp) ?_; intro g' cap' w8 ho8 hg8 hat8 hlt8; have y0 : w8.cell? ⟨b, k * 4, none⟩ = some (.int .i64 a1) := (hg8.cell_far ⟨b, k * 4, none⟩ (by simp; omega) (Ne.symm (own_base_ne ho7 b (by omega)))).trans ((cell_alloc _ _ hbr7).trans s0); have y1 : w8.cell? ⟨b, k * 4 + 1, none⟩ = some (.int .i64 a2) := (hg8.cell_far ⟨b, k * 4 + 1, none⟩ (by simp; omega) (Ne.symm (own_base_ne ho7 b (by omega)))).trans ((cell_alloc _ _ hbr7).trans s1); have y2 : w8.cell? ⟨b, k * 4 + 2, none⟩ = some (.int .i64 a3) := (hg8.cell_far ⟨b, k * 4 + 2, none⟩ (by simp; omega) (Ne.symm (own_base_ne ho7 b (by omega)))).trans ((cell_alloc _ _ hbr7).trans s2); have y3 : w8.cell? ⟨b, k * 4 + 3, none⟩ = some (.int .i64 a4) := (hg8.cell_far ⟨b, k * 4 + 3, none⟩ (by simp; omega) (Ne.symm (own_base_ne ho7 b (by omega)))).trans ((cell_alloc _ _ hbr7).trans s3); have HB8 : Hid (WI w #[.int .i64 p1, .int .i64 p2, .int .i64 p3, .int .i64 p4] (.slice (some ⟨g', 0, none⟩) (out.length + 1) cap') (out ++ [P]) w8) := HB7.out.2.grown hg8 (by rw [show qRow (out ++ [P]) = qRow out ++ qRow [P] by simp [qRow], HPQ.out, List.length_append]; exact ho8); have ho9 : w8.ownsRow (w.heap.size + 1) 100 4 (.slice (some ⟨g', 0, none⟩) (out.length + 1) cap') (out ++ [P]).length (qRow (out ++ [P])) := HB8.out.1; have hz8 := HB8.out.2.2.1; have hol8 : (out ++ [P]).length = out.length + 1 := (by simp))
            | (at_builtin; refine wpList_append_lies _ rfl (.tmp 34) (.tmp 39) 92 rfl (w.heap.size + 1) 100 i0 _ 4 32 Tryz.underlying92 hi hz0 hz1 hz2 rfl (by decide) (.slice (some ⟨g', 0, none⟩) (out.length + 1) cap') (out ++ [P]).length (qRow (out ++ [P])) rfl (own_kept ho9 (fun k hk => Below.heap_alloc _ _ _ (own_lt ho9 k hk).2)) ⟨w8.heap.size, 0, none⟩ 1 1 [.int .i64 a1, .int .i64 a2, .int .i64 a3, .int .i64 a4] rfl rfl (World.news_of_block (cs := #[.int .i64 a1, .int .i64 a2, .int .i64 a3, .int .i64 a4]) (t := 100) (fr := (0, 0)) (heap_alloc_new w8 _)) (by simp [Value.oneCell']) (by decide) (by unfold maxLen; omega) (by omega) (by simp; omega) (w8.heap.size + 1) (by simp) ?_; intro g2 cap2 w9 ho10 hg10 hat10 hlt10))
          have HN : Hid (Ge.Wi P l (k + 1) true (out ++ [P] ++ [((a1, a2), (a3, a4))]) ∧ WI w #[.int .i64 p1, .int .i64 p2, .int .i64 p3, .int .i64 p4] (.slice (some ⟨g2, 0, none⟩) (out.length + 1 + 1) cap2) (out ++ [P] ++ [((a1, a2), (a3, a4))]) w9) := ⟨HW.out, HB8.out.grown hg10 (by
            have h := ho10
            rw [hol8] at h
            rw [qRow_snoc, show (out ++ [P] ++ [((a1, a2), (a3, a4))]).length = out.length + 1 + 1 by simp]
            exact h)⟩
          clear ho10 hg10 ho9 HB8 ho8 hg8 ho7 HB7
          go_roundg (gk - 1)
          case measure => omega
          case rel => exact ⟨k + 1, true, _, by omega, by go_num, rfl, HN⟩
        · have HW : Hid (Ge.Wi P l (k + 1) true (out ++ [((a1, a2), (a3, a4))])) := hW
          clear hW
          go_wp2_with (at_builtin; refine wpList_append_lies _ rfl (.tmp 34) (.tmp 39) 92 rfl (w.heap.size + 1) 100 i0 _ 4 32 Tryz.underlying92 hi hz0 hz1 hz2 rfl (by decide) u5 out.length (qRow out) rfl (own_kept ho7 (fun k hk => Below.heap_alloc _ _ _ (own_lt ho7 k hk).2)) ⟨w7.heap.size, 0, none⟩ 1 1 [.int .i64 a1, .int .i64 a2, .int .i64 a3, .int .i64 a4] rfl rfl (World.news_of_block (cs := #[.int .i64 a1, .int .i64 a2, .int .i64 a3, .int .i64 a4]) (t := 100) (fr := (0, 0)) (heap_alloc_new w7 _)) (by simp [Value.oneCell']) (by decide) (by unfold maxLen; omega) (by omega) (by simp; omega) (w7.heap.size + 1) (by simp) ?_; intro g' cap' w8 ho8 hg8 hat8 hlt8)
          have HN : Hid (Ge.Wi P l (k + 1) true (out ++ [((a1, a2), (a3, a4))]) ∧ WI w #[.int .i64 p1, .int .i64 p2, .int .i64 p3, .int .i64 p4] (.slice (some ⟨g', 0, none⟩) (out.length + 1) cap') (out ++ [((a1, a2), (a3, a4))]) w8) := ⟨HW.out, HB7.out.2.grown hg8 (by rw [qRow_snoc, List.length_append]; exact ho8)⟩
          clear ho8 hg8 ho7 HB7
          go_roundg (gk - 1)
          case measure => omega
          case rel => exact ⟨k + 1, true, _, by omega, by go_num, rfl, HN⟩
    · have hk : k = l.length := by omega
      subst hk
      have hf := HB.out.1.fin
      have ho7 := HB.out.2.1
      cases done
      · have HF : Hid (out ++ [P] = Ge.ins P l) := by
          rcases hf with ⟨h, _⟩ | ⟨_, h⟩
          · cases h
          · exact h
        clear hf
        go_wp2_with (at_builtin; refine wpList_append_lies _ rfl (.tmp 43) (.tmp 45) 92 rfl (w.heap.size + 1) 100 i0 _ 4 32 Tryz.underlying92 hi hz0 hz1 hz2 rfl (by decide) u5 out.length (qRow out) rfl (own_kept ho7 (fun k hk => Below.heap_alloc _ _ _ (own_lt ho7 k hk).2)) ⟨wr.heap.size, 0, none⟩ 1 1 [.int .i64 p1, .int .i64 p2, .int .i64 p3, .int .i64 p4] rfl rfl (World.news_of_block (cs := #[.int .i64 p1, .int .i64 p2, .int .i64 p3, .int .i64 p4]) (t := 100) (fr := (0, 0)) (heap_alloc_new wr _)) (by simp [Value.oneCell']) (by decide) (by unfold maxLen; omega) (by omega) (by simp; omega) (wr.heap.size + 1) (by simp) ?_; intro g' cap' w8 ho8 hg8 hat8 hlt8)
        go_ret
        refine ⟨_, rfl, ?_, (hbel.alloc hbel.size _).grown hg8 (by simp; omega) (fun k hk => by have := (own_lt ho7 k hk).1; omega)⟩
        rw [← HF.out]
        have e : qRow (out ++ [P]) = qRow out ++ qRow [P] := by simp [qRow]
        unfold RdQ
        rw [e, HPQ.out, List.length_append]
        exact own_zero ho8
      · have HF : Hid (out = Ge.ins P l) := by
          rcases hf with ⟨_, h⟩ | ⟨h, _⟩
          · exact h
          · cases h
        clear hf
        go_wp2_with fail
        go_ret
        refine ⟨_, rfl, ?_, hbel⟩
        rw [← HF.out]
        exact own_zero ho7

theorem with_any (l : List Ge.Qt) (p : Ge.Qt) (v : Value) (w : World) (hR : RdQ w v l) (hl : l.length ≤ 100000000) (hin : ∀ q ∈ l, QIn q) (hp : QIn p) (hrl : ∀ q ∈ l, Ge.RedP q) (hrp : Ge.RedP p) (hasc : Ge.Asc l) :
    Calls Tryz.prog 83 #[v, .agg (qA p)] w fun e w' => ∃ v', e = .returned v' ∧ RdQ w' v' (Ge.ins p l) ∧ Below w.heap.size w w' :=
  with_core l p _ _ _ _ rfl v w hR hl hin hp hrl hrp hasc

end Go.Proofs.YtkjhhooecopolaaGreatDoor

namespace Go.Proofs.YtkjhhooecopolaaGreatDoor
open Go.RowKit

namespace Ge
def crE (e f : Pt × Pt) : Int := (e.2.1 - e.1.1) * (f.2.2 - f.1.2) - (e.2.2 - e.1.2) * (f.2.1 - f.1.1)
def mT (e f : Pt × Pt) : Int := (f.1.1 - e.1.1) * (f.2.2 - f.1.2) - (f.1.2 - e.1.2) * (f.2.1 - f.1.1)
def mX (e f : Pt × Pt) : Int := e.1.1 * crE e f + (e.2.1 - e.1.1) * mT e f
def mY (e f : Pt × Pt) : Int := e.1.2 * crE e f + (e.2.2 - e.1.2) * mT e f
/-- Where the lines of two edges meet. -/
def meetP (e f : Pt × Pt) : Qt := (fr2 (mX e f) (crE e f), fr2 (mY e f) (crE e f))
end Ge

set_option maxRecDepth 100000 in
set_option maxHeartbeats 2000000 in
theorem meet_core (a b c d a' b' c' d' DXE DYE DXF DYF C T P1 P2 P3 P4 : Int) (w : World)
    (H1 : Hid (∀ w1, Calls Tryz.prog 135 #[.agg #[.int .i64 a, .int .i64 b, .int .i64 c, .int .i64 d]] w1 fun e w' => e = .returned (.int .i64 DXE) ∧ Below w1.heap.size w1 w'))
    (H2 : Hid (∀ w1, Calls Tryz.prog 137 #[.agg #[.int .i64 a, .int .i64 b, .int .i64 c, .int .i64 d]] w1 fun e w' => e = .returned (.int .i64 DYE) ∧ Below w1.heap.size w1 w'))
    (H3 : Hid (∀ w1, Calls Tryz.prog 135 #[.agg #[.int .i64 a', .int .i64 b', .int .i64 c', .int .i64 d']] w1 fun e w' => e = .returned (.int .i64 DXF) ∧ Below w1.heap.size w1 w'))
    (H4 : Hid (∀ w1, Calls Tryz.prog 137 #[.agg #[.int .i64 a', .int .i64 b', .int .i64 c', .int .i64 d']] w1 fun e w' => e = .returned (.int .i64 DYF) ∧ Below w1.heap.size w1 w'))
    (H5 : Hid (∀ w1, Calls Tryz.prog 46 #[.int .i64 (a * C + DXE * T), .int .i64 C] w1 fun e w' => e = .returned (.agg #[.int .i64 P1, .int .i64 P2]) ∧ Below w1.heap.size w1 w'))
    (H6 : Hid (∀ w1, Calls Tryz.prog 46 #[.int .i64 (b * C + DYE * T), .int .i64 C] w1 fun e w' => e = .returned (.agg #[.int .i64 P3, .int .i64 P4]) ∧ Below w1.heap.size w1 w'))
    (v1 : IntKind.i64.wrap (DXE * DYF) = DXE * DYF) (v2 : IntKind.i64.wrap (DYE * DXF) = DYE * DXF) (v3 : IntKind.i64.wrap (DXE * DYF - DYE * DXF) = C)
    (v4 : IntKind.i64.wrap (a' - a) = a' - a) (v5 : IntKind.i64.wrap (b' - b) = b' - b) (v6 : IntKind.i64.wrap ((a' - a) * DYF) = (a' - a) * DYF) (v7 : IntKind.i64.wrap ((b' - b) * DXF) = (b' - b) * DXF)
    (v8 : IntKind.i64.wrap ((a' - a) * DYF - (b' - b) * DXF) = T) (v9 : IntKind.i64.wrap (a * C) = a * C) (v10 : IntKind.i64.wrap (DXE * T) = DXE * T) (v11 : IntKind.i64.wrap (a * C + DXE * T) = a * C + DXE * T)
    (v12 : IntKind.i64.wrap (b * C) = b * C) (v13 : IntKind.i64.wrap (DYE * T) = DYE * T) (v14 : IntKind.i64.wrap (b * C + DYE * T) = b * C + DYE * T) :
    Calls Tryz.prog 138 #[.agg #[.int .i64 a, .int .i64 b, .int .i64 c, .int .i64 d], .agg #[.int .i64 a', .int .i64 b', .int .i64 c', .int .i64 d']] w fun e w' => e = .returned (.agg #[.int .i64 P1, .int .i64 P2, .int .i64 P3, .int .i64 P4]) ∧ Below w.heap.size w w' := by
  obtain ⟨W, hW⟩ : ∃ W, W = ((w.alloc (.cells #[.int .i64 a, .int .i64 b, .int .i64 c, .int .i64 d] 151)).alloc (.cells #[.int .i64 a', .int .i64 b', .int .i64 c', .int .i64 d'] 151)).alloc (.cells #[.int .i64 0, .int .i64 0, .int .i64 0, .int .i64 0] 100) := ⟨_, rfl⟩
  have hE : W.heap[w.heap.size]? = some (.cells #[.int .i64 a, .int .i64 b, .int .i64 c, .int .i64 d] 151 (0, 0)) := by
    rw [hW, Below.heap_alloc _ _ _ (by simp; omega), Below.heap_alloc _ _ _ (by simp)]; exact heap_alloc_new _ _
  have hF : W.heap[w.heap.size + 1]? = some (.cells #[.int .i64 a', .int .i64 b', .int .i64 c', .int .i64 d'] 151 (0, 0)) := by
    rw [hW, Below.heap_alloc _ _ _ (by simp)]
    have := heap_alloc_new (w.alloc (.cells #[.int .i64 a, .int .i64 b, .int .i64 c, .int .i64 d] 151)) (.cells #[.int .i64 a', .int .i64 b', .int .i64 c', .int .i64 d'] 151)
    simpa using this
  have hP : W.heap[w.heap.size + 2]? = some (.cells #[.int .i64 0, .int .i64 0, .int .i64 0, .int .i64 0] 100 (0, 0)) := by
    rw [hW]
    have := heap_alloc_new ((w.alloc (.cells #[.int .i64 a, .int .i64 b, .int .i64 c, .int .i64 d] 151)).alloc (.cells #[.int .i64 a', .int .i64 b', .int .i64 c', .int .i64 d'] 151)) (.cells #[.int .i64 0, .int .i64 0, .int .i64 0, .int .i64 0] 100)
    simpa using this
  have hb0 : Below w.heap.size w W := by
    rw [hW]; exact (((Below.refl _ _).alloc (Nat.le_refl _) _).alloc (by simp) _).alloc (by simp; omega) _
  have hsz : w.heap.size + 3 = W.heap.size := by rw [hW]; simp
  go_enter Tryz.func138, Tryz.ntmps138
  go_wp2_with fail
  rw [← hW]
  clear hW
  generalize hB : w.heap.size = B at *
  have hza : B < W.heap.size := by omega
  have hzb : B + 1 < W.heap.size := by omega
  have z0 : W.cell? ⟨B, 0, none⟩ = some (.int .i64 a) := cell_of' hE 0
  have z1 : W.cell? ⟨B, 1, none⟩ = some (.int .i64 b) := cell_of' hE 1
  have z2 : W.cell? ⟨B, 2, none⟩ = some (.int .i64 c) := cell_of' hE 2
  have z3 : W.cell? ⟨B, 3, none⟩ = some (.int .i64 d) := cell_of' hE 3
  have z4 : W.cell? ⟨B + 1, 0, none⟩ = some (.int .i64 a') := cell_of' hF 0
  have z5 : W.cell? ⟨B + 1, 1, none⟩ = some (.int .i64 b') := cell_of' hF 1
  have z6 : W.cell? ⟨B + 1, 2, none⟩ = some (.int .i64 c') := cell_of' hF 2
  have z7 : W.cell? ⟨B + 1, 3, none⟩ = some (.int .i64 d') := cell_of' hF 3
  have hzc : B + 2 < W.heap.size := by omega
  have hzp := hP
  clear hE hF hP
  go_region_held3 (fun w' => w'.cell? ⟨B, 0, none⟩ = some (.int .i64 a) ∧ w'.cell? ⟨B, 1, none⟩ = some (.int .i64 b) ∧ w'.cell? ⟨B, 2, none⟩ = some (.int .i64 c) ∧ w'.cell? ⟨B, 3, none⟩ = some (.int .i64 d) ∧ w'.cell? ⟨B + 1, 0, none⟩ = some (.int .i64 a') ∧ w'.cell? ⟨B + 1, 1, none⟩ = some (.int .i64 b') ∧ w'.cell? ⟨B + 1, 2, none⟩ = some (.int .i64 c') ∧ w'.cell? ⟨B + 1, 3, none⟩ = some (.int .i64 d')) (go_keep) (first
      | (go_at_call_of 135 (Value.agg #[Value.int IntKind.i64 a, Value.int IntKind.i64 b, Value.int IntKind.i64 c, Value.int IntKind.i64 d]); refine (H1.out _).mono ?_; rintro e w1 ⟨rfl, hb1⟩; have hfa : B < w1.heap.size := Nat.lt_of_lt_of_le hza hb1.size; have hfb : B + 1 < w1.heap.size := Nat.lt_of_lt_of_le hzb hb1.size; have f0 := (hb1.cell (p := ⟨B, 0, none⟩) hza).trans z0; have f1 := (hb1.cell (p := ⟨B, 1, none⟩) hza).trans z1; have f2 := (hb1.cell (p := ⟨B, 2, none⟩) hza).trans z2; have f3 := (hb1.cell (p := ⟨B, 3, none⟩) hza).trans z3; have f4 := (hb1.cell (p := ⟨B + 1, 0, none⟩) hzb).trans z4; have f5 := (hb1.cell (p := ⟨B + 1, 1, none⟩) hzb).trans z5; have f6 := (hb1.cell (p := ⟨B + 1, 2, none⟩) hzb).trans z6; have f7 := (hb1.cell (p := ⟨B + 1, 3, none⟩) hzb).trans z7; have hfc : B + 2 < w1.heap.size := Nat.lt_of_lt_of_le hzc hb1.size; have hfp := (hb1.block (B + 2) hzc).trans hzp)
      | (go_at_call_of 137 (Value.agg #[Value.int IntKind.i64 a', Value.int IntKind.i64 b', Value.int IntKind.i64 c', Value.int IntKind.i64 d']); refine (H4.out _).mono ?_; rintro e w2 ⟨rfl, hb2⟩; have hga : B < w2.heap.size := Nat.lt_of_lt_of_le hfa hb2.size; have hgb : B + 1 < w2.heap.size := Nat.lt_of_lt_of_le hfb hb2.size; have g0 := (hb2.cell (p := ⟨B, 0, none⟩) hfa).trans f0; have g1 := (hb2.cell (p := ⟨B, 1, none⟩) hfa).trans f1; have g2 := (hb2.cell (p := ⟨B, 2, none⟩) hfa).trans f2; have g3 := (hb2.cell (p := ⟨B, 3, none⟩) hfa).trans f3; have g4 := (hb2.cell (p := ⟨B + 1, 0, none⟩) hfb).trans f4; have g5 := (hb2.cell (p := ⟨B + 1, 1, none⟩) hfb).trans f5; have g6 := (hb2.cell (p := ⟨B + 1, 2, none⟩) hfb).trans f6; have g7 := (hb2.cell (p := ⟨B + 1, 3, none⟩) hfb).trans f7; have hgc : B + 2 < w2.heap.size := Nat.lt_of_lt_of_le hfc hb2.size; have hgp := (hb2.block (B + 2) hfc).trans hfp)
      | (go_at_call_of 137 (Value.agg #[Value.int IntKind.i64 a, Value.int IntKind.i64 b, Value.int IntKind.i64 c, Value.int IntKind.i64 d]); refine (H2.out _).mono ?_; rintro e w3 ⟨rfl, hb3⟩; have hha : B < w3.heap.size := Nat.lt_of_lt_of_le hga hb3.size; have hhb : B + 1 < w3.heap.size := Nat.lt_of_lt_of_le hgb hb3.size; have h0 := (hb3.cell (p := ⟨B, 0, none⟩) hga).trans g0; have h1 := (hb3.cell (p := ⟨B, 1, none⟩) hga).trans g1; have h2 := (hb3.cell (p := ⟨B, 2, none⟩) hga).trans g2; have h3 := (hb3.cell (p := ⟨B, 3, none⟩) hga).trans g3; have h4 := (hb3.cell (p := ⟨B + 1, 0, none⟩) hgb).trans g4; have h5 := (hb3.cell (p := ⟨B + 1, 1, none⟩) hgb).trans g5; have h6 := (hb3.cell (p := ⟨B + 1, 2, none⟩) hgb).trans g6; have h7 := (hb3.cell (p := ⟨B + 1, 3, none⟩) hgb).trans g7; have hhc : B + 2 < w3.heap.size := Nat.lt_of_lt_of_le hgc hb3.size; have hhp := (hb3.block (B + 2) hgc).trans hgp)
      | (go_at_call_of 135 (Value.agg #[Value.int IntKind.i64 a', Value.int IntKind.i64 b', Value.int IntKind.i64 c', Value.int IntKind.i64 d']); refine (H3.out _).mono ?_; rintro e w4 ⟨rfl, hb4⟩; have hia : B < w4.heap.size := Nat.lt_of_lt_of_le hha hb4.size; have hib : B + 1 < w4.heap.size := Nat.lt_of_lt_of_le hhb hb4.size; have i0 := (hb4.cell (p := ⟨B, 0, none⟩) hha).trans h0; have i1 := (hb4.cell (p := ⟨B, 1, none⟩) hha).trans h1; have i2 := (hb4.cell (p := ⟨B, 2, none⟩) hha).trans h2; have i3 := (hb4.cell (p := ⟨B, 3, none⟩) hha).trans h3; have i4 := (hb4.cell (p := ⟨B + 1, 0, none⟩) hhb).trans h4; have i5 := (hb4.cell (p := ⟨B + 1, 1, none⟩) hhb).trans h5; have i6 := (hb4.cell (p := ⟨B + 1, 2, none⟩) hhb).trans h6; have i7 := (hb4.cell (p := ⟨B + 1, 3, none⟩) hhb).trans h7; have hic : B + 2 < w4.heap.size := Nat.lt_of_lt_of_le hhc hb4.size; have hip := (hb4.block (B + 2) hhc).trans hhp))
  have hL4 : Below B w w4 := ((((hb0.drew.trans (hb1.mono (Nat.le_of_lt hza))).trans (hb2.mono (Nat.le_of_lt hfa))).trans (hb3.mono (Nat.le_of_lt hga))).trans (hb4.mono (Nat.le_of_lt hha)))
  clear hb0 hb1 hb2 hb3 hb4
  go_wp2_with fail
  go_region_held3 (fun w' => w'.cell? ⟨B, 0, none⟩ = some (.int .i64 a) ∧ w'.cell? ⟨B, 1, none⟩ = some (.int .i64 b) ∧ w'.cell? ⟨B, 2, none⟩ = some (.int .i64 c) ∧ w'.cell? ⟨B, 3, none⟩ = some (.int .i64 d) ∧ w'.cell? ⟨B + 1, 0, none⟩ = some (.int .i64 a') ∧ w'.cell? ⟨B + 1, 1, none⟩ = some (.int .i64 b') ∧ w'.cell? ⟨B + 1, 2, none⟩ = some (.int .i64 c') ∧ w'.cell? ⟨B + 1, 3, none⟩ = some (.int .i64 d')) (go_keep) (first
      | (go_at_call_of 137 (Value.agg #[Value.int IntKind.i64 a', Value.int IntKind.i64 b', Value.int IntKind.i64 c', Value.int IntKind.i64 d']); refine (H4.out _).mono ?_; rintro e w5 ⟨rfl, hb5⟩; have hja : B < w5.heap.size := Nat.lt_of_lt_of_le hia hb5.size; have hjb : B + 1 < w5.heap.size := Nat.lt_of_lt_of_le hib hb5.size; have j0 := (hb5.cell (p := ⟨B, 0, none⟩) hia).trans i0; have j1 := (hb5.cell (p := ⟨B, 1, none⟩) hia).trans i1; have j2 := (hb5.cell (p := ⟨B, 2, none⟩) hia).trans i2; have j3 := (hb5.cell (p := ⟨B, 3, none⟩) hia).trans i3; have j4 := (hb5.cell (p := ⟨B + 1, 0, none⟩) hib).trans i4; have j5 := (hb5.cell (p := ⟨B + 1, 1, none⟩) hib).trans i5; have j6 := (hb5.cell (p := ⟨B + 1, 2, none⟩) hib).trans i6; have j7 := (hb5.cell (p := ⟨B + 1, 3, none⟩) hib).trans i7; have hjc : B + 2 < w5.heap.size := Nat.lt_of_lt_of_le hic hb5.size; have hjp := (hb5.block (B + 2) hic).trans hip)
      | (go_at_call_of 135 (Value.agg #[Value.int IntKind.i64 a', Value.int IntKind.i64 b', Value.int IntKind.i64 c', Value.int IntKind.i64 d']); refine (H3.out _).mono ?_; rintro e w6 ⟨rfl, hb6⟩; have hka : B < w6.heap.size := Nat.lt_of_lt_of_le hja hb6.size; have hkb : B + 1 < w6.heap.size := Nat.lt_of_lt_of_le hjb hb6.size; have k0 := (hb6.cell (p := ⟨B, 0, none⟩) hja).trans j0; have k1 := (hb6.cell (p := ⟨B, 1, none⟩) hja).trans j1; have k2 := (hb6.cell (p := ⟨B, 2, none⟩) hja).trans j2; have k3 := (hb6.cell (p := ⟨B, 3, none⟩) hja).trans j3; have k4 := (hb6.cell (p := ⟨B + 1, 0, none⟩) hjb).trans j4; have k5 := (hb6.cell (p := ⟨B + 1, 1, none⟩) hjb).trans j5; have k6 := (hb6.cell (p := ⟨B + 1, 2, none⟩) hjb).trans j6; have k7 := (hb6.cell (p := ⟨B + 1, 3, none⟩) hjb).trans j7; have hkc : B + 2 < w6.heap.size := Nat.lt_of_lt_of_le hjc hb6.size; have hkp := (hb6.block (B + 2) hjc).trans hjp))
  have hL6 : Below B w w6 := (hL4.drew.trans (hb5.mono (Nat.le_of_lt hia))).trans (hb6.mono (Nat.le_of_lt hja))
  have hn1 : ¬ (B = B + 1 + 1) := by omega
  have hn2 : ¬ (B + 1 + 1 = B) := by omega
  have hn3 : ¬ (B = B + 2) := by omega
  have hn4 : ¬ (B + 2 = B) := by omega
  have y0 : w6.frozen? ⟨B + 2, 0, none⟩ = false := frozen_of' hkp 0
  have y1 : w6.frozen? ⟨B + 2, 1, none⟩ = false := frozen_of' hkp 1
  have y2 : w6.frozen? ⟨B + 2, 2, none⟩ = false := frozen_of' hkp 2
  have y3 : w6.frozen? ⟨B + 2, 3, none⟩ = false := frozen_of' hkp 3
  clear hL4 hb5 hb6
  go_wp2_with fail
  go_region_held3 (fun w' => w'.cell? ⟨B, 0, none⟩ = some (.int .i64 a) ∧ w'.cell? ⟨B, 1, none⟩ = some (.int .i64 b) ∧ w'.cell? ⟨B, 2, none⟩ = some (.int .i64 c) ∧ w'.cell? ⟨B, 3, none⟩ = some (.int .i64 d) ∧ w'.cell? ⟨B + 1, 0, none⟩ = some (.int .i64 a') ∧ w'.cell? ⟨B + 1, 1, none⟩ = some (.int .i64 b') ∧ w'.cell? ⟨B + 1, 2, none⟩ = some (.int .i64 c') ∧ w'.cell? ⟨B + 1, 3, none⟩ = some (.int .i64 d') ∧ w'.frozen? ⟨B + 2, 0, none⟩ = false ∧ w'.frozen? ⟨B + 2, 1, none⟩ = false ∧ w'.frozen? ⟨B + 2, 2, none⟩ = false ∧ w'.frozen? ⟨B + 2, 3, none⟩ = false) (first | go_keep | (go_split_ands; refine ⟨?_, ?_, ?_, ?_, ?_, ?_, ?_, ?_, ?_, ?_, ?_, ?_⟩ <;> first | (simp [World.frozen?_setCell, *]; done) | (simp [*]; done))) (first
      | (go_at_call_of 135 (Value.agg #[Value.int IntKind.i64 a, Value.int IntKind.i64 b, Value.int IntKind.i64 c, Value.int IntKind.i64 d]); refine (H1.out _).mono ?_; rintro e w7 ⟨rfl, hb7⟩; have hla : B < w7.heap.size := Nat.lt_of_lt_of_le hka hb7.size; have hlb : B + 1 < w7.heap.size := Nat.lt_of_lt_of_le hkb hb7.size; have l0 := (hb7.cell (p := ⟨B, 0, none⟩) hka).trans k0; have l1 := (hb7.cell (p := ⟨B, 1, none⟩) hka).trans k1; have l2 := (hb7.cell (p := ⟨B, 2, none⟩) hka).trans k2; have l3 := (hb7.cell (p := ⟨B, 3, none⟩) hka).trans k3; have l4 := (hb7.cell (p := ⟨B + 1, 0, none⟩) hkb).trans k4; have l5 := (hb7.cell (p := ⟨B + 1, 1, none⟩) hkb).trans k5; have l6 := (hb7.cell (p := ⟨B + 1, 2, none⟩) hkb).trans k6; have l7 := (hb7.cell (p := ⟨B + 1, 3, none⟩) hkb).trans k7; have hlc : B + 2 < w7.heap.size := Nat.lt_of_lt_of_le hkc hb7.size; have hlp := (hb7.block (B + 2) hkc).trans hkp; have lq0 : w7.cell? ⟨B + 2, 0, none⟩ = some (.int .i64 0) := cell_of' hlp 0; have lz0 : w7.frozen? ⟨B + 2, 0, none⟩ = false := frozen_of' hlp 0; have lq1 : w7.cell? ⟨B + 2, 1, none⟩ = some (.int .i64 0) := cell_of' hlp 1; have lz1 : w7.frozen? ⟨B + 2, 1, none⟩ = false := frozen_of' hlp 1; have lq2 : w7.cell? ⟨B + 2, 2, none⟩ = some (.int .i64 0) := cell_of' hlp 2; have lz2 : w7.frozen? ⟨B + 2, 2, none⟩ = false := frozen_of' hlp 2; have lq3 : w7.cell? ⟨B + 2, 3, none⟩ = some (.int .i64 0) := cell_of' hlp 3; have lz3 : w7.frozen? ⟨B + 2, 3, none⟩ = false := frozen_of' hlp 3)
      | (go_at_call_of 46 (Value.int IntKind.i64 (a * C + DXE * T)); refine (H5.out _).mono ?_; rintro e w8 ⟨rfl, hb8⟩; have hma : B < w8.heap.size := Nat.lt_of_lt_of_le hla hb8.size; have hmb : B + 1 < w8.heap.size := Nat.lt_of_lt_of_le hlb hb8.size; have m0 := (hb8.cell (p := ⟨B, 0, none⟩) hla).trans l0; have m1 := (hb8.cell (p := ⟨B, 1, none⟩) hla).trans l1; have m2 := (hb8.cell (p := ⟨B, 2, none⟩) hla).trans l2; have m3 := (hb8.cell (p := ⟨B, 3, none⟩) hla).trans l3; have m4 := (hb8.cell (p := ⟨B + 1, 0, none⟩) hlb).trans l4; have m5 := (hb8.cell (p := ⟨B + 1, 1, none⟩) hlb).trans l5; have m6 := (hb8.cell (p := ⟨B + 1, 2, none⟩) hlb).trans l6; have m7 := (hb8.cell (p := ⟨B + 1, 3, none⟩) hlb).trans l7; have hmc : B + 2 < w8.heap.size := Nat.lt_of_lt_of_le hlc hb8.size; have hmp := (hb8.block (B + 2) hlc).trans hlp; have mq0 : w8.cell? ⟨B + 2, 0, none⟩ = some (.int .i64 0) := cell_of' hmp 0; have mz0 : w8.frozen? ⟨B + 2, 0, none⟩ = false := frozen_of' hmp 0; have mq1 : w8.cell? ⟨B + 2, 1, none⟩ = some (.int .i64 0) := cell_of' hmp 1; have mz1 : w8.frozen? ⟨B + 2, 1, none⟩ = false := frozen_of' hmp 1; have mq2 : w8.cell? ⟨B + 2, 2, none⟩ = some (.int .i64 0) := cell_of' hmp 2; have mz2 : w8.frozen? ⟨B + 2, 2, none⟩ = false := frozen_of' hmp 2; have mq3 : w8.cell? ⟨B + 2, 3, none⟩ = some (.int .i64 0) := cell_of' hmp 3; have mz3 : w8.frozen? ⟨B + 2, 3, none⟩ = false := frozen_of' hmp 3)
      | (go_at_call_of 137 (Value.agg #[Value.int IntKind.i64 a, Value.int IntKind.i64 b, Value.int IntKind.i64 c, Value.int IntKind.i64 d]); refine (H2.out _).mono ?_; rintro e w9 ⟨rfl, hb9⟩; have hna : B < w9.heap.size := Nat.lt_of_lt_of_le hma hb9.size; have hnb : B + 1 < w9.heap.size := Nat.lt_of_lt_of_le hmb hb9.size; have n0 := (hb9.cell (p := ⟨B, 0, none⟩) hma).trans m0; have n1 := (hb9.cell (p := ⟨B, 1, none⟩) hma).trans m1; have n2 := (hb9.cell (p := ⟨B, 2, none⟩) hma).trans m2; have n3 := (hb9.cell (p := ⟨B, 3, none⟩) hma).trans m3; have n4 := (hb9.cell (p := ⟨B + 1, 0, none⟩) hmb).trans m4; have n5 := (hb9.cell (p := ⟨B + 1, 1, none⟩) hmb).trans m5; have n6 := (hb9.cell (p := ⟨B + 1, 2, none⟩) hmb).trans m6; have n7 := (hb9.cell (p := ⟨B + 1, 3, none⟩) hmb).trans m7; have hnc : B + 2 < w9.heap.size := Nat.lt_of_lt_of_le hmc hb9.size; have hnp := (hb9.block (B + 2) hmc).trans hmp; have nq0 : w9.cell? ⟨B + 2, 0, none⟩ = some (.int .i64 0) := cell_of' hnp 0; have nz0 : w9.frozen? ⟨B + 2, 0, none⟩ = false := frozen_of' hnp 0; have nq1 : w9.cell? ⟨B + 2, 1, none⟩ = some (.int .i64 0) := cell_of' hnp 1; have nz1 : w9.frozen? ⟨B + 2, 1, none⟩ = false := frozen_of' hnp 1; have nq2 : w9.cell? ⟨B + 2, 2, none⟩ = some (.int .i64 0) := cell_of' hnp 2; have nz2 : w9.frozen? ⟨B + 2, 2, none⟩ = false := frozen_of' hnp 2; have nq3 : w9.cell? ⟨B + 2, 3, none⟩ = some (.int .i64 0) := cell_of' hnp 3; have nz3 : w9.frozen? ⟨B + 2, 3, none⟩ = false := frozen_of' hnp 3)
      | (go_at_call_of 46 (Value.int IntKind.i64 (b * C + DYE * T)); refine (H6.out _).mono ?_; rintro e w10 ⟨rfl, hb10⟩; have hoa : B < w10.heap.size := Nat.lt_of_lt_of_le hna hb10.size; have hob : B + 1 < w10.heap.size := Nat.lt_of_lt_of_le hnb hb10.size; have o0 := (hb10.cell (p := ⟨B, 0, none⟩) hna).trans n0; have o1 := (hb10.cell (p := ⟨B, 1, none⟩) hna).trans n1; have o2 := (hb10.cell (p := ⟨B, 2, none⟩) hna).trans n2; have o3 := (hb10.cell (p := ⟨B, 3, none⟩) hna).trans n3; have o4 := (hb10.cell (p := ⟨B + 1, 0, none⟩) hnb).trans n4; have o5 := (hb10.cell (p := ⟨B + 1, 1, none⟩) hnb).trans n5; have o6 := (hb10.cell (p := ⟨B + 1, 2, none⟩) hnb).trans n6; have o7 := (hb10.cell (p := ⟨B + 1, 3, none⟩) hnb).trans n7; have hoc : B + 2 < w10.heap.size := Nat.lt_of_lt_of_le hnc hb10.size; have hop := (hb10.block (B + 2) hnc).trans hnp; have oq0 : w10.cell? ⟨B + 2, 0, none⟩ = some (.int .i64 0) := cell_of' hop 0; have oz0 : w10.frozen? ⟨B + 2, 0, none⟩ = false := frozen_of' hop 0; have oq1 : w10.cell? ⟨B + 2, 1, none⟩ = some (.int .i64 0) := cell_of' hop 1; have oz1 : w10.frozen? ⟨B + 2, 1, none⟩ = false := frozen_of' hop 1; have oq2 : w10.cell? ⟨B + 2, 2, none⟩ = some (.int .i64 0) := cell_of' hop 2; have oz2 : w10.frozen? ⟨B + 2, 2, none⟩ = false := frozen_of' hop 2; have oq3 : w10.cell? ⟨B + 2, 3, none⟩ = some (.int .i64 0) := cell_of' hop 3; have oz3 : w10.frozen? ⟨B + 2, 3, none⟩ = false := frozen_of' hop 3))
  go_wp2_with fail
  have hL10 : Below B w w10 := (((hL6.drew.trans (hb7.mono (Nat.le_of_lt hka))).trans (hb8.mono (Nat.le_of_lt hla))).trans (hb9.mono (Nat.le_of_lt hma))).trans (hb10.mono (Nat.le_of_lt hna))
  refine bodyPost_ret (v := .agg #[.int .i64 P1, .int .i64 P2, .int .i64 P3, .int .i64 P4]) (by simp [results, Tryz.results138, go_sem, oq0, oq1, oq2, oq3]) rfl ⟨rfl, ?_⟩
  rw [hB]
  exact (((hL10.setCell (by simp; omega) _).setCell (by simp; omega) _).setCell (by simp; omega) _).setCell (by simp; omega) _

theorem meet_any (e f : Ed) (w : World) (he : smallE e) (hf : smallE f) (hc : Ge.crE e f ≠ 0) :
    Calls Tryz.prog 138 #[.agg (edA e), .agg (edA f)] w fun r w' => r = .returned (.agg (qA (Ge.meetP e f))) ∧ Below w.heap.size w w' := by
  obtain ⟨a1, a2, a3, a4⟩ := he
  obtain ⟨b1, b2, b3, b4⟩ := hf
  have sm1 : ∀ {x y : Int}, small x → small y → -100 ≤ y - x ∧ y - x ≤ 100 := fun hx hy => by unfold small at *; omega
  have x1 := sm1 a1 a3
  have x2 := sm1 a2 a4
  have x3 := sm1 b1 b3
  have x4 := sm1 b2 b4
  have x5 := sm1 a1 b1
  have x6 := sm1 a2 b2
  have m1 : -10000 ≤ (e.2.1 - e.1.1) * (f.2.2 - f.1.2) ∧ (e.2.1 - e.1.1) * (f.2.2 - f.1.2) ≤ 10000 := mul_in (a := 100) (b := 100) x1 x4
  have m2 : -10000 ≤ (e.2.2 - e.1.2) * (f.2.1 - f.1.1) ∧ (e.2.2 - e.1.2) * (f.2.1 - f.1.1) ≤ 10000 := mul_in (a := 100) (b := 100) x2 x3
  have m3 : -10000 ≤ (f.1.1 - e.1.1) * (f.2.2 - f.1.2) ∧ (f.1.1 - e.1.1) * (f.2.2 - f.1.2) ≤ 10000 := mul_in (a := 100) (b := 100) x5 x4
  have m4 : -10000 ≤ (f.1.2 - e.1.2) * (f.2.1 - f.1.1) ∧ (f.1.2 - e.1.2) * (f.2.1 - f.1.1) ≤ 10000 := mul_in (a := 100) (b := 100) x6 x3
  have hC : Ge.crE e f = (e.2.1 - e.1.1) * (f.2.2 - f.1.2) - (e.2.2 - e.1.2) * (f.2.1 - f.1.1) := rfl
  have hT : Ge.mT e f = (f.1.1 - e.1.1) * (f.2.2 - f.1.2) - (f.1.2 - e.1.2) * (f.2.1 - f.1.1) := rfl
  have cb : -20000 ≤ Ge.crE e f ∧ Ge.crE e f ≤ 20000 := by omega
  have tb : -20000 ≤ Ge.mT e f ∧ Ge.mT e f ≤ 20000 := by omega
  have m5 : -1000000 ≤ e.1.1 * Ge.crE e f ∧ e.1.1 * Ge.crE e f ≤ 1000000 := mul_in (a := 50) (b := 20000) a1 cb
  have m6 : -2000000 ≤ (e.2.1 - e.1.1) * Ge.mT e f ∧ (e.2.1 - e.1.1) * Ge.mT e f ≤ 2000000 := mul_in (a := 100) (b := 20000) x1 tb
  have m7 : -1000000 ≤ e.1.2 * Ge.crE e f ∧ e.1.2 * Ge.crE e f ≤ 1000000 := mul_in (a := 50) (b := 20000) a2 cb
  have m8 : -2000000 ≤ (e.2.2 - e.1.2) * Ge.mT e f ∧ (e.2.2 - e.1.2) * Ge.mT e f ≤ 2000000 := mul_in (a := 100) (b := 20000) x2 tb
  have wp : ∀ {z : Int}, -9223372036854775808 ≤ z → z ≤ 9223372036854775807 → IntKind.i64.wrap z = z := fun h1 h2 => by rw [IntKind.wrap_i64]; omega
  have h := meet_core e.1.1 e.1.2 e.2.1 e.2.2 f.1.1 f.1.2 f.2.1 f.2.2 (e.2.1 - e.1.1) (e.2.2 - e.1.2) (f.2.1 - f.1.1) (f.2.2 - f.1.2) (Ge.crE e f) (Ge.mT e f) (Ge.meetP e f).1.1 (Ge.meetP e f).1.2 (Ge.meetP e f).2.1 (Ge.meetP e f).2.2 w
    (fun w1 => rDx_any _ _ _ _ w1 a1 a3) (fun w1 => rDy_any _ _ _ _ w1 a2 a4) (fun w1 => rDx_any _ _ _ _ w1 b1 b3) (fun w1 => rDy_any _ _ _ _ w1 b2 b4)
    (fun w1 => frac_any _ _ w1 hc (by omega) (by omega)) (fun w1 => frac_any _ _ w1 hc (by omega) (by omega))
    (wp (by omega) (by omega)) (wp (by omega) (by omega)) (by rw [wp (by omega) (by omega)]; rfl) (wp (by omega) (by omega)) (wp (by omega) (by omega)) (wp (by omega) (by omega)) (wp (by omega) (by omega)) (by rw [wp (by omega) (by omega)]; rfl)
    (wp (by omega) (by omega)) (wp (by omega) (by omega)) (wp (by omega) (by omega)) (wp (by omega) (by omega)) (wp (by omega) (by omega)) (wp (by omega) (by omega))
  exact h

end Go.Proofs.YtkjhhooecopolaaGreatDoor
