import Derived.Test.YtkjhhooecopolaaGreatDoorVj30
import Derived.Test.YtkjhhooecopolaaGreatDoorVj26
import Derived.Test.YtkjhhooecopolaaGreatDoorVj19
import Derived.Test.YtkjhhooecopolaaGreatDoorVj20
import Derived.Deep.RegionLaw
import Derived.Deep.RegionWith
import Derived.Test.YtkjhhooecopolaaGreatDoorSgqV
import Derived.Test.YtkjhhooecopolaaGreatDoorVj24
namespace Go.Proofs.YtkjhhooecopolaaGreatDoor
open Go.RowKit

/-- The edges so far, the shape's own block, and what was there ahead of the call. -/
def EIn (w : World) (sh : Array Value) (lv : Value) (acc : List Ed) (wr : World) : Prop :=
  wr.ownsRow w.heap.size 151 4 lv acc.length (edRow acc) ∧ Below w.heap.size w wr ∧ w.heap.size < wr.heap.size ∧ wr.heap[w.heap.size]? = some (.cells sh 29 (0, 0))

theorem edRow_snoc (l : List Ed) (e : Ed) : edRow (l ++ [e]) = edRow l ++ (edA e).toList := by simp [edRow]

theorem EIn.alloc {w wr : World} {sh : Array Value} {lv : Value} {acc : List Ed} (h : EIn w sh lv acc wr) (o : Obj) : EIn w sh lv acc (wr.alloc o) := by
  obtain ⟨h1, h2, h3, h4⟩ := h
  refine ⟨own_kept h1 fun k hk => Below.heap_alloc _ _ _ (own_lt h1 k hk).2, h2.alloc h2.size _, by simp; omega, ?_⟩
  rw [Below.heap_alloc _ _ _ h3]; exact h4

theorem EIn.drew {w wr : World} {sh : Array Value} {lv : Value} {acc : List Ed} (h : EIn w sh lv acc wr) : EIn w sh lv acc wr.drew :=
  ⟨own_kept h.1 fun _ _ => rfl, h.2.1.drew, h.2.2.1, h.2.2.2⟩

theorem EIn.grown {w W5 w6 : World} {sh : Array Value} {lv lv' : Value} {acc acc' : List Ed} {o : Obj} (h : EIn w sh lv acc W5) (hg : (W5.alloc o).drew.grownBy w6 lv.ownBlock)
    (ho : w6.ownsRow w.heap.size 151 4 lv' acc'.length (edRow acc')) : EIn w sh lv' acc' w6 := by
  obtain ⟨h1, h2, h3, h4⟩ := h
  have hs := hg.size
  have hs' : W5.heap.size + 1 ≤ w6.heap.size := by
    have e : (W5.alloc o).drew.heap.size = W5.heap.size + 1 := by show (W5.alloc o).heap.size = _; simp
    omega
  have hne : lv.ownBlock ≠ some w.heap.size := own_elem h1 h4 (by decide)
  refine ⟨ho, ⟨hg.os.trans h2.os, hg.tape.trans h2.tape, hg.output.trans h2.output, ?_, fun k hk => ?_⟩, by omega, ?_⟩
  · have := h2.size; omega
  · have := h2.size
    exact (grown_heap_drew hg k (by omega) (own_base_ne h1 k hk)).trans (h2.block k hk)
  · exact (grown_heap_drew hg _ h3 hne).trans h4

theorem cell_alloc (w : World) (o : Obj) {b k : Nat} (h : b < w.heap.size) : (w.alloc o).cell? ⟨b, k, none⟩ = w.cell? ⟨b, k, none⟩ := by
  simp only [World.cell?]
  rw [Below.heap_alloc _ _ _ h]

theorem edgeInfo : (Tryz.prog.info? 151).map (fun i => (i.zero, i.size, i.bytes)) = some (some (.agg #[.int .i64 0, .int .i64 0, .int .i64 0, .int .i64 0]), 4, 32) := by kernel_rfl

theorem ring_cells {w : World} {so : Option Addr} {n cap : Nat} {g : List (Int × Int)} (hR : RdRing w (.slice so n cap) g) {k : Nat} {p : Int × Int} (hp : g[k]? = some p) :
    ∃ b, so = some ⟨b, 0, none⟩ ∧ b < w.heap.size ∧ w.cell? ⟨b, k * 2, none⟩ = some (.int .i64 p.1) ∧ w.cell? ⟨b, k * 2 + 1, none⟩ = some (.int .i64 p.2) := by
  obtain ⟨a0, a1⟩ := pairRow_get g k p hp
  obtain ⟨b, c, hv, hb, hc⟩ := own_get' hR a0
  injection hv with hv
  exact ⟨b, hv, hb, hc _ _ a0, hc _ _ a1⟩

set_option maxRecDepth 100000 in
set_option maxHeartbeats 4000000 in
theorem redges_any (ps : List (List (List (Int × Int)))) (W : ByteArray) (pv : Value) (w : World) (hR : RdMulti w pv ps) (hok : okMulti ps) :
    Calls Tryz.prog 79 #[.agg #[.string W, pv, .int .i64 0]] w fun e w' => ∃ v, e = .returned v ∧ RdEdges w' v (Ge.allEdges ps.flatten) ∧ Below w.heap.size w w' := by
  obtain ⟨so, cap, rfl⟩ := rdRow_slice hR
  obtain ⟨i0, hi, hz0, hz1, hz2⟩ := info_parts edgeInfo
  have HR : Hid (RdMulti w (.slice so ps.length cap) ps) := hR
  have HOK : Hid (okMulti ps) := hok
  have hl : ps.length ≤ 402 := hok.1
  clear hR hok
  have HIN : Hid (EIn w #[.string W, .slice so ps.length cap, .int .i64 0] (.slice none 0 0) [] (w.alloc (.cells #[.string W, .slice so ps.length cap, .int .i64 0] 29))) :=
    ⟨World.ownsRow_nil _ _ _ _, (Below.refl _ _).alloc (Nat.le_refl _) _, by simp, heap_alloc_new _ _⟩
  have HLEN : Hid (∀ i, (Ge.allEdges (ps.take i).flatten).length ≤ 65000000) := fun i => by
    have h := Ge.flat_le 402 402 (ps.take i) (fun p hp => ⟨(HOK.out.2 p (List.mem_of_mem_take hp)).1, fun g hg => ((HOK.out.2 p (List.mem_of_mem_take hp)).2 g hg).2⟩)
    have h2 : (ps.take i).length ≤ 402 := by simp; omega
    omega
  go_enter Tryz.func79, Tryz.ntmps79
  go_wp2_with fail
  go_loopg [3, 4] ps.length (fun m lv iv wr => ∃ i : Nat, i + m = ps.length ∧ iv = .int .i64 i ∧ Hid (EIn w #[.string W, .slice so ps.length cap, .int .i64 0] lv (Ge.allEdges (ps.take i).flatten) wr))
  case atStart => exact ⟨0, by omega, rfl, HIN⟩
  case round =>
    obtain ⟨i, him, rfl, HE⟩ := hrel
    obtain ⟨hown, hbel, hwz, hbx⟩ := HE.out
    have c1 : wr.cell? ⟨w.heap.size, 1, none⟩ = some (.slice so ps.length cap) := cell_of' hbx 1
    clear HIN
    by_cases hlt : i < ps.length
    · obtain ⟨p, hp⟩ : ∃ p, ps[i]? = some p := ⟨_, List.getElem?_eq_getElem hlt⟩
      obtain ⟨b, u, rfl, hb, e0, hru⟩ := rdRow_get HR.out hp
      obtain ⟨us, uc, rfl⟩ := rdRow_slice hru
      have HOKP : Hid (okPoly p) := HOK.out.2 p (List.mem_of_getElem? hp)
      have HRP : Hid (RdPoly w (.slice us p.length uc) p) := hru
      have HCP : Hid (w.cell? ⟨b, i, none⟩ = some (.slice us p.length uc)) := e0
      have hpl : p.length ≤ 402 := HOKP.out.1
      have HT : Hid (Ge.allEdges (ps.take (i + 1)).flatten = Ge.allEdges (ps.take i).flatten ++ Ge.allEdges p) := Ge.flat_take hp
      have hli := HLEN.out i
      have HL2 : Hid (∀ k, (Ge.allEdges (p.take k)).length ≤ 162000) := fun k => by
        have h := Ge.all_le 402 (p.take k) (fun g hg => (HOKP.out.2 g (List.mem_of_mem_take hg)).2)
        have h2 : (p.take k).length ≤ 402 := by simp; omega
        omega
      generalize Ge.allEdges (ps.take i).flatten = A1 at *
      have hki : (i : Int) < (ps.length : Int) := by omega
      obtain ⟨m1, hm1⟩ : ∃ m1, m1 = gk := ⟨_, rfl⟩
      clear hp e0 hru HOK HR hown hbx
      go_wp2_with fail
      go_loopg [3, 5] p.length (fun m lv kv wr => ∃ k : Nat, k + m = p.length ∧ kv = .int .i64 k ∧ Hid (EIn w #[.string W, .slice (some ⟨b, 0, none⟩) ps.length cap, .int .i64 0] lv (A1 ++ Ge.allEdges (p.take k)) wr))
      case atStart => exact ⟨0, by omega, rfl, by simpa [Ge.allEdges] using HE⟩
      case round =>
        obtain ⟨k, hkm, rfl, HE2⟩ := hrel
        obtain ⟨hown2, hbel2, hwz2, hbx2⟩ := HE2.out
        have d1 : wr.cell? ⟨w.heap.size, 1, none⟩ = some (.slice (some ⟨b, 0, none⟩) ps.length cap) := cell_of' hbx2 1
        have d2 := (hbel2.cell (p := ⟨b, i, none⟩) hb).trans HCP.out
        have hbr : b < wr.heap.size := Nat.lt_of_lt_of_le hb hbel2.size
        clear HE
        by_cases hlt2 : k < p.length
        · obtain ⟨g, hg⟩ : ∃ g, p[k]? = some g := ⟨_, List.getElem?_eq_getElem hlt2⟩
          obtain ⟨b2, u2, rfl, hb2, e2, hru2⟩ := rdRow_get HRP.out hg
          obtain ⟨gs, gc, rfl⟩ := rdRing_slice hru2
          have hgl : g.length ≤ 402 := (HOKP.out.2 g (List.mem_of_getElem? hg)).2
          have HRG : Hid (RdRing w (.slice gs g.length gc) g) := hru2
          have d3 := (hbel2.cell (p := ⟨b2, k, none⟩) hb2).trans e2
          have HT2 : Hid (Ge.allEdges (p.take (k + 1)) = Ge.allEdges (p.take k) ++ Ge.edges g) := Ge.all_take hg
          have hl2 := HL2.out k
          have hki2 : (k : Int) < (p.length : Int) := by omega
          have hbr2 : b2 < wr.heap.size := Nat.lt_of_lt_of_le hb2 hbel2.size
          obtain ⟨m2, hm2⟩ : ∃ m2, m2 = gk := ⟨_, rfl⟩
          generalize Ge.allEdges (p.take k) = A2 at *
          clear hg e2 hru2 hown2 hbx2
          go_wp2_with fail
          go_loopg [3, 7] g.length (fun m lv nv wr => ∃ n : Nat, n + m = g.length ∧ nv = .int .i64 n ∧ Hid (EIn w #[.string W, .slice (some ⟨b, 0, none⟩) ps.length cap, .int .i64 0] lv (A1 ++ A2 ++ Ge.edT g n) wr))
          case atStart => exact ⟨0, by omega, rfl, by simpa [Ge.edT_zero] using HE2⟩
          case round =>
            obtain ⟨n, hnm, rfl, HE3⟩ := hrel
            obtain ⟨hown3, hbel3, hwz3, hbx3⟩ := HE3.out
            clear HE2 d1 d2 d3
            by_cases hlt3 : n < g.length
            · obtain ⟨P, hP⟩ : ∃ P, g[n]? = some P := ⟨_, List.getElem?_eq_getElem hlt3⟩
              obtain ⟨F, hF⟩ : ∃ F, g[0]? = some F := ⟨_, List.getElem?_eq_getElem (show 0 < g.length by omega)⟩
              obtain ⟨b3, rfl, hb3, p0, p1⟩ := ring_cells HRG.out hP
              obtain ⟨b4, hb4, _, f0, f1⟩ := ring_cells HRG.out hF
              injection hb4 with hb4
              injection hb4 with hb4
              subst hb4
              rw [Nat.zero_mul] at f0 f1
              rw [Nat.zero_add] at f1
              have r0 := (hbel3.cell (p := ⟨b3, n * 2, none⟩) hb3).trans p0
              have r1 := (hbel3.cell (p := ⟨b3, n * 2 + 1, none⟩) hb3).trans p1
              have r2 := (hbel3.cell (p := ⟨b3, 0, none⟩) hb3).trans f0
              have r3 := (hbel3.cell (p := ⟨b3, 1, none⟩) hb3).trans f1
              have hbr3 : b3 < wr.heap.size := Nat.lt_of_lt_of_le hb3 hbel3.size
              have hki3 : (n : Int) < (g.length : Int) := by omega
              have h0g : (0 : Int) < (g.length : Int) := by omega
              have HP : Hid (g[n]? = some P) := hP
              have HF : Hid (g[0]? = some F) := hF
              clear p0 p1 f0 f1 hP hF
              by_cases hn1 : n + 1 < g.length
              · obtain ⟨Q, hQ⟩ : ∃ Q, g[n + 1]? = some Q := ⟨_, List.getElem?_eq_getElem hn1⟩
                obtain ⟨b4, hb4, _, f0, f1⟩ := ring_cells HRG.out hQ
                injection hb4 with hb4
                injection hb4 with hb4
                subst hb4
                have r4 := (hbel3.cell (p := ⟨b3, (n + 1) * 2, none⟩) hb3).trans f0
                have r5 := (hbel3.cell (p := ⟨b3, (n + 1) * 2 + 1, none⟩) hb3).trans f1
                have hki4 : (n : Int) + 1 < (g.length : Int) := by omega
                have HQ : Hid (Ge.nextOf g n = some Q) := by unfold Ge.nextOf Hid; rw [if_pos hn1]; exact hQ
                clear f0 f1 hQ
                go_wp2_with fail
                have hEW : EIn w #[.string W, .slice (some ⟨b, 0, none⟩) ps.length cap, .int .i64 0] u3 (A1 ++ A2 ++ Ge.edT g n) (wr.alloc (.cells #[.int .i64 Q.1, .int .i64 Q.2] 65)) := HE3.out.alloc _
                have s0 : (wr.alloc (.cells #[.int .i64 Q.1, .int .i64 Q.2] 65)).cell? ⟨b3, n * 2, none⟩ = some (.int .i64 P.1) := by rw [← r0]; exact cell_alloc _ _ hbr3
                have s1 : (wr.alloc (.cells #[.int .i64 Q.1, .int .i64 Q.2] 65)).cell? ⟨b3, n * 2 + 1, none⟩ = some (.int .i64 P.2) := by rw [← r1]; exact cell_alloc _ _ hbr3
                have s2 : (wr.alloc (.cells #[.int .i64 Q.1, .int .i64 Q.2] 65)).cell? ⟨wr.heap.size, 0, none⟩ = some (.int .i64 Q.1) := cell_of' (heap_alloc_new _ _) 0
                have s3 : (wr.alloc (.cells #[.int .i64 Q.1, .int .i64 Q.2] 65)).cell? ⟨wr.heap.size, 1, none⟩ = some (.int .i64 Q.2) := cell_of' (heap_alloc_new _ _) 1
                have hQB := heap_alloc_new wr (.cells #[.int .i64 Q.1, .int .i64 Q.2] 65)
                have hsW : wr.heap.size < (wr.alloc (.cells #[.int .i64 Q.1, .int .i64 Q.2] 65)).heap.size := by simp
                generalize wr.alloc (.cells #[.int .i64 Q.1, .int .i64 Q.2] 65) = W4 at *
                have hbr4 : b3 < W4.heap.size := by omega
                clear r0 r1 r2 r3 r4 r5 HE3 hown3 hbx3 hbel3 hwz3
                generalize wr.heap.size = BQ at *
                obtain ⟨P1, P2⟩ := P
                obtain ⟨Q1, Q2⟩ := Q
                simp only at s0 s1 s2 s3
                by_cases hpq : (P1, P2) = (Q1, Q2)
                · injection hpq with hpq1 hpq2
                  subst hpq1 hpq2
                  have HN : Hid (EIn w #[.string W, .slice (some ⟨b, 0, none⟩) ps.length cap, .int .i64 0] u3 (A1 ++ A2 ++ Ge.edT g (n + 1)) W4.drew) := by
                    rw [Ge.edT_eq HP.out HQ.out rfl]; exact hEW.drew
                  clear hEW HF HRG
                  go_region_held3 (fun w' => w'.cell? ⟨b3, n * 2, none⟩ = some (.int .i64 P1) ∧ w'.cell? ⟨b3, n * 2 + 1, none⟩ = some (.int .i64 P2) ∧ w'.cell? ⟨BQ, 0, none⟩ = some (.int .i64 P1) ∧ w'.cell? ⟨BQ, 1, none⟩ = some (.int .i64 P2)) (go_keep) (fail)
                  go_wp2_with fail
                  go_roundg (gk - 1)
                  case measure => omega
                  case rel => exact ⟨n + 1, by omega, by go_num, HN⟩
                · have HNE : Hid (Ge.edT g (n + 1) = Ge.edT g n ++ [((P1, P2), (Q1, Q2))]) := Ge.edT_ne HP.out HQ.out hpq
                  have hal : (A1 ++ A2 ++ Ge.edT g n).length ≤ 66000000 := by
                    have := Ge.edT_le g n
                    simp only [List.length_append]; omega
                  have HA3 : Hid (∃ A3, A3 = A1 ++ A2 ++ Ge.edT g n) := ⟨_, rfl⟩
                  obtain ⟨A3, hA3⟩ := HA3.out
                  rw [← hA3] at hEW hal
                  have HA : Hid (A3 = A1 ++ A2 ++ Ge.edT g n) := hA3
                  clear hA3 HA3
                  rcases (show (P1 == Q1) = false ∨ ((P1 == Q1) = true ∧ (P2 == Q2) = false) by
                    by_cases h1 : P1 = Q1
                    · by_cases h2 : P2 = Q2
                      · exact absurd (by rw [h1, h2]) hpq
                      · exact Or.inr ⟨beq_iff_eq.2 h1, beq_eq_false_iff_ne.2 h2⟩
                    · exact Or.inl (beq_eq_false_iff_ne.2 h1)) with hq1 | ⟨hq1, hq2⟩
                  all_goals
                    clear hpq HP HQ HF HRG
                    go_region_held3 (fun w' => w'.cell? ⟨b3, n * 2, none⟩ = some (.int .i64 P1) ∧ w'.cell? ⟨b3, n * 2 + 1, none⟩ = some (.int .i64 P2) ∧ w'.cell? ⟨BQ, 0, none⟩ = some (.int .i64 Q1) ∧ w'.cell? ⟨BQ, 1, none⟩ = some (.int .i64 Q2)) (go_keep) (fail)
                    go_wp2_with fail
                    have hE5 : EIn w #[.string W, .slice (some ⟨b, 0, none⟩) ps.length cap, .int .i64 0] u3 A3 W4.drew := hEW.drew
                    have t0 : W4.drew.cell? ⟨b3, n * 2, none⟩ = some (.int .i64 P1) := s0
                    have t1 : W4.drew.cell? ⟨b3, n * 2 + 1, none⟩ = some (.int .i64 P2) := s1
                    have t2 : W4.drew.cell? ⟨BQ, 0, none⟩ = some (.int .i64 Q1) := s2
                    have t3 : W4.drew.cell? ⟨BQ, 1, none⟩ = some (.int .i64 Q2) := s3
                    clear hEW s0 s1 s2 s3
                    have hQB : W4.drew.heap[BQ]? = some (.cells #[.int .i64 Q1, .int .i64 Q2] 65 (0, 0)) := hQB
                    have hsW : BQ < W4.drew.heap.size := hsW
                    have hbr4 : b3 < W4.drew.heap.size := hbr4
                    generalize W4.drew = W5 at *
                    obtain ⟨ho5, hb5, hz5, hx5⟩ := hE5
                    have ne3 : u3.ownBlock ≠ some b3 := own_base_ne ho5 b3 hb3
                    have neQ : u3.ownBlock ≠ some BQ := own_elem ho5 hQB (by decide)
                    have hE5 : EIn w #[.string W, .slice (some ⟨b, 0, none⟩) ps.length cap, .int .i64 0] u3 A3 W5 := ⟨ho5, hb5, hz5, hx5⟩
                    go_region_held3 (fun w' => w'.cell? ⟨b3, n * 2, none⟩ = some (.int .i64 P1) ∧ w'.cell? ⟨b3, n * 2 + 1, none⟩ = some (.int .i64 P2) ∧ w'.cell? ⟨BQ, 0, none⟩ = some (.int .i64 Q1) ∧ w'.cell? ⟨BQ, 1, none⟩ = some (.int .i64 Q2))
                      (first
                        | go_keep
                        | (go_split_ands
                           refine ⟨?_, ?_, ?_, ?_⟩
                           · (rw [hgrow6.cell_far _ (by simp; omega) (Ne.symm ne3)]; assumption)
                           · (rw [hgrow6.cell_far _ (by simp; omega) (Ne.symm ne3)]; assumption)
                           · (rw [hgrow6.cell_far _ (by simp; omega) (Ne.symm neQ)]; assumption)
                           · (rw [hgrow6.cell_far _ (by simp; omega) (Ne.symm neQ)]; assumption)))
                      ((refine step_append_lies _ (by rfl) _ _ _ (by rfl) w.heap.size 151 i0 _ 4 32 Tryz.underlying148 hi hz0 hz1 hz2 rfl (by decide) u3 A3.length (edRow A3) (by rfl) (own_kept ho5 (fun k hk => Below.heap_alloc _ _ _ (own_lt ho5 k hk).2)) ⟨W5.heap.size, 0, none⟩ 1 1 [.int .i64 P1, .int .i64 P2, .int .i64 Q1, .int .i64 Q2] (by rfl) (by rfl) (World.news_of_block (cs := #[.int .i64 P1, .int .i64 P2, .int .i64 Q1, .int .i64 Q2]) (t := 151) (fr := (0, 0)) (heap_alloc_new W5 _)) (by simp [Value.oneCell']) (by decide) (by unfold maxLen; omega) (by omega) (by simp; omega) (W5.heap.size + 1) (by simp) ?_; intro g' cap' w6 ho6 hgrow6 hat6 hlt6))
                    have HN : Hid (EIn w #[.string W, .slice (some ⟨b, 0, none⟩) ps.length cap, .int .i64 0] (.slice (some ⟨g', 0, none⟩) (A3.length + 1) cap') (A1 ++ A2 ++ Ge.edT g (n + 1)) w6) := by
                      rw [HNE.out, ← List.append_assoc, ← HA.out]
                      exact hE5.grown hgrow6 (by rw [edRow_snoc, List.length_append]; exact ho6)
                    clear ho6 hgrow6 hE5 ho5 hb5 hx5 hz5
                    go_wp2_with fail
                    go_roundg (gk - 1)
                    case measure => omega
                    case rel => exact ⟨n + 1, by omega, by go_num, HN⟩
              · have HQ : Hid (Ge.nextOf g n = some F) := by unfold Ge.nextOf Hid; rw [if_neg hn1]; exact HF.out
                obtain ⟨Q, hQF⟩ : ∃ Q, Q = F := ⟨_, rfl⟩
                subst hQF
                have hki4 : ¬ ((n : Int) + 1 < (g.length : Int)) := by omega
                go_wp2_with fail
                have hEW : EIn w #[.string W, .slice (some ⟨b, 0, none⟩) ps.length cap, .int .i64 0] u3 (A1 ++ A2 ++ Ge.edT g n) (wr.alloc (.cells #[.int .i64 Q.1, .int .i64 Q.2] 65)) := HE3.out.alloc _
                have s0 : (wr.alloc (.cells #[.int .i64 Q.1, .int .i64 Q.2] 65)).cell? ⟨b3, n * 2, none⟩ = some (.int .i64 P.1) := by rw [← r0]; exact cell_alloc _ _ hbr3
                have s1 : (wr.alloc (.cells #[.int .i64 Q.1, .int .i64 Q.2] 65)).cell? ⟨b3, n * 2 + 1, none⟩ = some (.int .i64 P.2) := by rw [← r1]; exact cell_alloc _ _ hbr3
                have s2 : (wr.alloc (.cells #[.int .i64 Q.1, .int .i64 Q.2] 65)).cell? ⟨wr.heap.size, 0, none⟩ = some (.int .i64 Q.1) := cell_of' (heap_alloc_new _ _) 0
                have s3 : (wr.alloc (.cells #[.int .i64 Q.1, .int .i64 Q.2] 65)).cell? ⟨wr.heap.size, 1, none⟩ = some (.int .i64 Q.2) := cell_of' (heap_alloc_new _ _) 1
                have hQB := heap_alloc_new wr (.cells #[.int .i64 Q.1, .int .i64 Q.2] 65)
                have hsW : wr.heap.size < (wr.alloc (.cells #[.int .i64 Q.1, .int .i64 Q.2] 65)).heap.size := by simp
                generalize wr.alloc (.cells #[.int .i64 Q.1, .int .i64 Q.2] 65) = W4 at *
                have hbr4 : b3 < W4.heap.size := by omega
                clear r0 r1 r2 r3 HE3 hown3 hbx3 hbel3 hwz3
                generalize wr.heap.size = BQ at *
                obtain ⟨P1, P2⟩ := P
                obtain ⟨Q1, Q2⟩ := Q
                simp only at s0 s1 s2 s3
                by_cases hpq : (P1, P2) = (Q1, Q2)
                · injection hpq with hpq1 hpq2
                  subst hpq1 hpq2
                  have HN : Hid (EIn w #[.string W, .slice (some ⟨b, 0, none⟩) ps.length cap, .int .i64 0] u3 (A1 ++ A2 ++ Ge.edT g (n + 1)) W4.drew) := by
                    rw [Ge.edT_eq HP.out HQ.out rfl]; exact hEW.drew
                  clear hEW HF HRG
                  go_region_held3 (fun w' => w'.cell? ⟨b3, n * 2, none⟩ = some (.int .i64 P1) ∧ w'.cell? ⟨b3, n * 2 + 1, none⟩ = some (.int .i64 P2) ∧ w'.cell? ⟨BQ, 0, none⟩ = some (.int .i64 P1) ∧ w'.cell? ⟨BQ, 1, none⟩ = some (.int .i64 P2)) (go_keep) (fail)
                  go_wp2_with fail
                  go_roundg (gk - 1)
                  case measure => omega
                  case rel => exact ⟨n + 1, by omega, by go_num, HN⟩
                · have HNE : Hid (Ge.edT g (n + 1) = Ge.edT g n ++ [((P1, P2), (Q1, Q2))]) := Ge.edT_ne HP.out HQ.out hpq
                  have hal : (A1 ++ A2 ++ Ge.edT g n).length ≤ 66000000 := by
                    have := Ge.edT_le g n
                    simp only [List.length_append]; omega
                  have HA3 : Hid (∃ A3, A3 = A1 ++ A2 ++ Ge.edT g n) := ⟨_, rfl⟩
                  obtain ⟨A3, hA3⟩ := HA3.out
                  rw [← hA3] at hEW hal
                  have HA : Hid (A3 = A1 ++ A2 ++ Ge.edT g n) := hA3
                  clear hA3 HA3
                  rcases (show (P1 == Q1) = false ∨ ((P1 == Q1) = true ∧ (P2 == Q2) = false) by
                    by_cases h1 : P1 = Q1
                    · by_cases h2 : P2 = Q2
                      · exact absurd (by rw [h1, h2]) hpq
                      · exact Or.inr ⟨beq_iff_eq.2 h1, beq_eq_false_iff_ne.2 h2⟩
                    · exact Or.inl (beq_eq_false_iff_ne.2 h1)) with hq1 | ⟨hq1, hq2⟩
                  all_goals
                    clear hpq HP HQ HF HRG
                    go_region_held3 (fun w' => w'.cell? ⟨b3, n * 2, none⟩ = some (.int .i64 P1) ∧ w'.cell? ⟨b3, n * 2 + 1, none⟩ = some (.int .i64 P2) ∧ w'.cell? ⟨BQ, 0, none⟩ = some (.int .i64 Q1) ∧ w'.cell? ⟨BQ, 1, none⟩ = some (.int .i64 Q2)) (go_keep) (fail)
                    go_wp2_with fail
                    have hE5 : EIn w #[.string W, .slice (some ⟨b, 0, none⟩) ps.length cap, .int .i64 0] u3 A3 W4.drew := hEW.drew
                    have t0 : W4.drew.cell? ⟨b3, n * 2, none⟩ = some (.int .i64 P1) := s0
                    have t1 : W4.drew.cell? ⟨b3, n * 2 + 1, none⟩ = some (.int .i64 P2) := s1
                    have t2 : W4.drew.cell? ⟨BQ, 0, none⟩ = some (.int .i64 Q1) := s2
                    have t3 : W4.drew.cell? ⟨BQ, 1, none⟩ = some (.int .i64 Q2) := s3
                    clear hEW s0 s1 s2 s3
                    have hQB : W4.drew.heap[BQ]? = some (.cells #[.int .i64 Q1, .int .i64 Q2] 65 (0, 0)) := hQB
                    have hsW : BQ < W4.drew.heap.size := hsW
                    have hbr4 : b3 < W4.drew.heap.size := hbr4
                    generalize W4.drew = W5 at *
                    obtain ⟨ho5, hb5, hz5, hx5⟩ := hE5
                    have ne3 : u3.ownBlock ≠ some b3 := own_base_ne ho5 b3 hb3
                    have neQ : u3.ownBlock ≠ some BQ := own_elem ho5 hQB (by decide)
                    have hE5 : EIn w #[.string W, .slice (some ⟨b, 0, none⟩) ps.length cap, .int .i64 0] u3 A3 W5 := ⟨ho5, hb5, hz5, hx5⟩
                    go_region_held3 (fun w' => w'.cell? ⟨b3, n * 2, none⟩ = some (.int .i64 P1) ∧ w'.cell? ⟨b3, n * 2 + 1, none⟩ = some (.int .i64 P2) ∧ w'.cell? ⟨BQ, 0, none⟩ = some (.int .i64 Q1) ∧ w'.cell? ⟨BQ, 1, none⟩ = some (.int .i64 Q2))
                      (first
                        | go_keep
                        | (go_split_ands
                           refine ⟨?_, ?_, ?_, ?_⟩
                           · (rw [hgrow6.cell_far _ (by simp; omega) (Ne.symm ne3)]; assumption)
                           · (rw [hgrow6.cell_far _ (by simp; omega) (Ne.symm ne3)]; assumption)
                           · (rw [hgrow6.cell_far _ (by simp; omega) (Ne.symm neQ)]; assumption)
                           · (rw [hgrow6.cell_far _ (by simp; omega) (Ne.symm neQ)]; assumption)))
                      ((refine step_append_lies _ (by rfl) _ _ _ (by rfl) w.heap.size 151 i0 _ 4 32 Tryz.underlying148 hi hz0 hz1 hz2 rfl (by decide) u3 A3.length (edRow A3) (by rfl) (own_kept ho5 (fun k hk => Below.heap_alloc _ _ _ (own_lt ho5 k hk).2)) ⟨W5.heap.size, 0, none⟩ 1 1 [.int .i64 P1, .int .i64 P2, .int .i64 Q1, .int .i64 Q2] (by rfl) (by rfl) (World.news_of_block (cs := #[.int .i64 P1, .int .i64 P2, .int .i64 Q1, .int .i64 Q2]) (t := 151) (fr := (0, 0)) (heap_alloc_new W5 _)) (by simp [Value.oneCell']) (by decide) (by unfold maxLen; omega) (by omega) (by simp; omega) (W5.heap.size + 1) (by simp) ?_; intro g' cap' w6 ho6 hgrow6 hat6 hlt6))
                    have HN : Hid (EIn w #[.string W, .slice (some ⟨b, 0, none⟩) ps.length cap, .int .i64 0] (.slice (some ⟨g', 0, none⟩) (A3.length + 1) cap') (A1 ++ A2 ++ Ge.edT g (n + 1)) w6) := by
                      rw [HNE.out, ← List.append_assoc, ← HA.out]
                      exact hE5.grown hgrow6 (by rw [edRow_snoc, List.length_append]; exact ho6)
                    clear ho6 hgrow6 hE5 ho5 hb5 hx5 hz5
                    go_wp2_with fail
                    go_roundg (gk - 1)
                    case measure => omega
                    case rel => exact ⟨n + 1, by omega, by go_num, HN⟩
            · have hn : n = g.length := by omega
              subst hn
              have HN : Hid (EIn w #[.string W, .slice (some ⟨b, 0, none⟩) ps.length cap, .int .i64 0] u3 (A1 ++ Ge.allEdges (p.take (k + 1))) wr) := by
                rw [HT2.out, ← List.append_assoc, ← Ge.edT_all]; exact HE3.out
              clear HE3 hown3 hbel3 hbx3 HRG HT2 HL2
              go_wp2_with fail
              go_roundg (m2 - 1)
              case measure => omega
              case rel => exact ⟨k + 1, by omega, by go_num, HN⟩
        · have hk : k = p.length := by omega
          subst hk
          have HN : Hid (EIn w #[.string W, .slice (some ⟨b, 0, none⟩) ps.length cap, .int .i64 0] u3 (Ge.allEdges (ps.take (i + 1)).flatten) wr) := by
            rw [HT.out]
            have := HE2.out
            rw [List.take_length] at this
            exact this
          clear HE2 hown2 hbx2 HRP HT HL2
          go_wp2_with fail
          go_roundg (m1 - 1)
          case measure => omega
          case rel => exact ⟨i + 1, by omega, by go_num, HN⟩
    · have hk : i = ps.length := by omega
      subst hk
      have HF : Hid (EIn w #[.string W, .slice so ps.length cap, .int .i64 0] u3 (Ge.allEdges ps.flatten) wr) := by
        rw [List.take_length] at HE; exact HE
      clear HE HR HOK HLEN hown hbel hbx
      go_wp2_with fail
      go_ret
      exact ⟨_, rfl, own_zero HF.out.1, HF.out.2.1⟩

end Go.Proofs.YtkjhhooecopolaaGreatDoor

namespace Go.Proofs.YtkjhhooecopolaaGreatDoor
open Go.RowKit

namespace Pl
/-- The rings of a good text. -/
def rings (s : List UInt8) : List (List (Int × Int)) := (pWhole (all s)).2.2.flatten
def badPt (x y d : Int) : Bool := decide (d < 1) || decide (d > 60) || decide (x < -100000) || decide (x > 100000) || decide (y < -100000) || decide (y > 100000)
/-- What Wind answers. -/
def wind (s : List UInt8) (x y d : Int) : Int × Bool × Nat × Nat :=
  if (err s).1 = 0 then
    if badPt x y d then (0, false, 5, 0)
    else if (Ge.allEdges (rings s)).any (Ge.fo (x, y) d) then (0, true, 0, 0)
    else (Ge.total (Ge.fu (x, y) d) (Ge.allEdges (rings s)), false, 0, 0)
  else (0, false, err s)
def windV (r : Int × Bool × Nat × Nat) : Value := .tuple #[.int .i64 r.1, .bool r.2.1, .int .i64 r.2.2.1, .int .i64 r.2.2.2]
end Pl

theorem flat_small {ps : List (List (List (Int × Int)))} (hok : okMulti ps) : ∀ e ∈ Ge.allEdges ps.flatten, smallE e := fun e he => by
  obtain ⟨g, hg, h1, h2⟩ := Ge.all_mem he
  obtain ⟨p, hp, hgp⟩ := List.mem_flatten.1 hg
  have ho := ((hok.2 p hp).2 g hgp).1
  exact ⟨(ho _ h1).1, (ho _ h1).2, (ho _ h2).1, (ho _ h2).2⟩

theorem flat_len {ps : List (List (List (Int × Int)))} (hok : okMulti ps) : (Ge.allEdges ps.flatten).length ≤ 65000000 := by
  have h := Ge.flat_le 402 402 ps (fun p hp => ⟨(hok.2 p hp).1, fun g hg => ((hok.2 p hp).2 g hg).2⟩)
  have := hok.1
  omega

theorem ptOf {x y d : Int} (h : Pl.badPt x y d = false) : PtOf (frN x d) (frD x d) (frN y d) (frD y d) x y d := by
  unfold Pl.badPt at h
  simp only [Bool.or_eq_false_iff, decide_eq_false_iff_not] at h
  obtain ⟨⟨⟨⟨⟨h1, h2⟩, h3⟩, h4⟩, h5⟩, h6⟩ := h
  have hd : d ≠ 0 := by omega
  have a1 := fr_le (frN_eq x d) (gcd_pos hd)
  have a2 := fr_le (frD_eq x d) (gcd_pos hd)
  have a3 := fr_le (frN_eq y d) (gcd_pos hd)
  have a4 := fr_le (frD_eq y d) (gcd_pos hd)
  have b1 := frD_pos (n := x) (d := d) (by omega)
  have b2 := frD_pos (n := y) (d := d) (by omega)
  have g1 := gcd_pos (n := x) hd
  have g2 := gcd_pos (n := y) hd
  exact ⟨⟨by omega, by omega, by omega, by omega⟩, ⟨_, by omega, frN_eq x d, frD_eq x d⟩, ⟨_, by omega, frN_eq y d, frD_eq y d⟩⟩

theorem rdMulti_of {s : ByteArray} {w' : World} {W : ByteArray} {so : Option Addr} {pn pc : Nat} (h : (Pl.err s.data.toList).1 = 0)
    (hr : ((Pl.err s.data.toList).1 = 0 → ((∃ gs, (Pl.pWhole (Pl.all s.data.toList)).2.2 = [gs] ∧ W = ⟨Pl.POLYGON.toArray⟩ ∧ RdMulti w' (.slice so pn pc) [gs] ∧ okPoly gs ∧ Pl.ptext s.data.toList = Pl.POLYGON ++ ([32] ++ Pl.polyT gs)) ∨
        (W = ⟨Pl.MULTI.toArray⟩ ∧ RdMulti w' (.slice so pn pc) (Pl.pWhole (Pl.all s.data.toList)).2.2 ∧ okMulti (Pl.pWhole (Pl.all s.data.toList)).2.2 ∧ Pl.ptext s.data.toList = Pl.bodyT (Pl.pWhole (Pl.all s.data.toList)).2.2)))) :
    RdMulti w' (.slice so pn pc) (Pl.pWhole (Pl.all s.data.toList)).2.2 ∧ okMulti (Pl.pWhole (Pl.all s.data.toList)).2.2 := by
  rcases hr h with ⟨gs, e, _, h1, h2, _⟩ | ⟨_, h1, h2, _⟩
  · rw [e]
    exact ⟨h1, by simp, fun g hg => by rw [List.mem_singleton.1 hg]; exact h2⟩
  · exact ⟨h1, h2⟩

set_option maxRecDepth 100000 in
set_option maxHeartbeats 4000000 in
theorem rwind_any (s : ByteArray) (x y d : Int) (w : World) (hm : s.size ≤ maxLen) :
    Calls Tryz.prog 54 #[.string s, .int .i64 x, .int .i64 y, .int .i64 d] w fun e w' => e = .returned (Pl.windV (Pl.wind s.data.toList x y d)) ∧ Below w.heap.size w w' := by
  have HR : Hid (∀ w1, Calls Tryz.prog 14 #[.string s] w1 fun e w' => Below w1.heap.size w1 w' ∧ ∃ W so pn pc, e = .returned (.tuple #[.agg #[.string W, .slice so pn pc, .int .i64 0], .int .i64 (Pl.err s.data.toList).1, .int .i64 (Pl.err s.data.toList).2]) ∧
      ((Pl.err s.data.toList).1 = 0 → RdMulti w' (.slice so pn pc) (Pl.pWhole (Pl.all s.data.toList)).2.2 ∧ okMulti (Pl.pWhole (Pl.all s.data.toList)).2.2)) := fun w1 => by
    refine (mread_any s w1 hm).mono ?_
    rintro e w' ⟨hb, W, so, pn, pc, rfl, hr⟩
    exact ⟨hb, W, so, pn, pc, rfl, fun h => rdMulti_of h hr⟩
  by_cases h0 : (Pl.err s.data.toList).1 = 0
  · have he2 := (err_zero h0).2.1
    have hwd : Pl.wind s.data.toList x y d = if Pl.badPt x y d then (0, false, 5, 0)
        else if (Ge.allEdges (Pl.rings s.data.toList)).any (Ge.fo (x, y) d) then (0, true, 0, 0)
        else (Ge.total (Ge.fu (x, y) d) (Ge.allEdges (Pl.rings s.data.toList)), false, 0, 0) := if_pos h0
    rw [hwd]
    clear hwd
    have HR2 : Hid (∀ w1, Calls Tryz.prog 14 #[.string s] w1 fun e w' => Below w1.heap.size w1 w' ∧ ∃ W so pn pc, e = .returned (.tuple #[.agg #[.string W, .slice so pn pc, .int .i64 0], .int .i64 0, .int .i64 0]) ∧
        RdMulti w' (.slice so pn pc) (Pl.pWhole (Pl.all s.data.toList)).2.2 ∧ okMulti (Pl.pWhole (Pl.all s.data.toList)).2.2) := fun w1 => by
      refine (HR.out w1).mono ?_
      rintro e w' ⟨hb, W, so, pn, pc, rfl, hr⟩
      exact ⟨hb, W, so, pn, pc, by rw [h0, he2]; rfl, hr h0⟩
    have HRG : Hid (Pl.rings s.data.toList = (Pl.pWhole (Pl.all s.data.toList)).2.2.flatten) := rfl
    generalize (Pl.pWhole (Pl.all s.data.toList)).2.2 = PS at *
    generalize Pl.rings s.data.toList = RG at *
    clear HR he2 h0
    rcases (show d < 1 ∨ (¬ d < 1 ∧ 60 < d) ∨ (¬ d < 1 ∧ ¬ 60 < d ∧ x < -100000) ∨ (¬ d < 1 ∧ ¬ 60 < d ∧ ¬ x < -100000 ∧ 100000 < x) ∨ (¬ d < 1 ∧ ¬ 60 < d ∧ ¬ x < -100000 ∧ ¬ 100000 < x ∧ y < -100000) ∨ (¬ d < 1 ∧ ¬ 60 < d ∧ ¬ x < -100000 ∧ ¬ 100000 < x ∧ ¬ y < -100000 ∧ 100000 < y) ∨ (¬ d < 1 ∧ ¬ 60 < d ∧ ¬ x < -100000 ∧ ¬ 100000 < x ∧ ¬ y < -100000 ∧ ¬ 100000 < y) by omega) with h1 | ⟨h1, h2⟩ | ⟨h1, h2, h3⟩ | ⟨h1, h2, h3, h4⟩ | ⟨h1, h2, h3, h4, h5⟩ | ⟨h1, h2, h3, h4, h5, h6⟩ | ⟨h1, h2, h3, h4, h5, h6⟩
    rotate_left 6
    · have hbad : Pl.badPt x y d = false := by
        unfold Pl.badPt
        simp only [Bool.or_eq_false_iff, decide_eq_false_iff_not]
        omega
      have HPT : Hid (PtOf (frN x d) (frD x d) (frN y d) (frD y d) x y d) := ptOf hbad
      rw [hbad]
      have HF1 : Hid (∀ w1, Calls Tryz.prog 46 #[.int .i64 x, .int .i64 d] w1 fun e w' => e = .returned (.agg #[.int .i64 (frN x d), .int .i64 (frD x d)]) ∧ Below w1.heap.size w1 w') := fun w1 => frac_loop x d w1 _ rfl (by omega) (by omega) (by omega) (by
        by_cases hx : x < 0
        · exact Or.inl ⟨decide_eq_true hx, by omega⟩
        · exact Or.inr ⟨decide_eq_false hx, by omega⟩)
      have HF2 : Hid (∀ w1, Calls Tryz.prog 46 #[.int .i64 y, .int .i64 d] w1 fun e w' => e = .returned (.agg #[.int .i64 (frN y d), .int .i64 (frD y d)]) ∧ Below w1.heap.size w1 w') := fun w1 => frac_loop y d w1 _ rfl (by omega) (by omega) (by omega) (by
        by_cases hx : y < 0
        · exact Or.inl ⟨decide_eq_true hx, by omega⟩
        · exact Or.inr ⟨decide_eq_false hx, by omega⟩)
      generalize frN x d = XN at *
      generalize frD x d = XD at *
      generalize frN y d = YN at *
      generalize frD y d = YD at *
      simp only [Bool.false_eq_true, if_false]
      clear hbad
      obtain ⟨ES, hES⟩ : ∃ ES, ES = Ge.allEdges PS.flatten := ⟨_, rfl⟩
      rw [HRG.out, ← hES]
      have HES : Hid (ES = Ge.allEdges PS.flatten) := hES
      clear HRG hES
      go_enter Tryz.func54, Tryz.ntmps54
      go_wp2_with fail
      refine (HR2.out _).mono ?_
      rintro e w1 ⟨hb1, W, so, pn, pc, rfl, hrd, hok⟩
      have HRD : Hid (RdMulti w1 (.slice so pn pc) PS ∧ okMulti PS) := ⟨hrd, hok⟩
      clear hrd hok
      have hSB := heap_alloc_new w1 (.cells #[.string W, .slice so pn pc, .int .i64 0] 29)
      have hbA : Below w1.heap.size w1 (w1.alloc (.cells #[.string W, .slice so pn pc, .int .i64 0] 29)) := (Below.refl _ _).alloc (Nat.le_refl _) _
      have hsA : w1.heap.size < (w1.alloc (.cells #[.string W, .slice so pn pc, .int .i64 0] 29)).heap.size := by simp
      go_wp2_with fail
      generalize w1.alloc (.cells #[.string W, .slice so pn pc, .int .i64 0] 29) = w2 at *
      refine (HF1.out _).mono ?_
      rintro e w3 ⟨rfl, hb3⟩
      go_wp2_with fail
      refine (HF2.out _).mono ?_
      rintro e w4 ⟨rfl, hb4⟩
      have hs3 := hb3.size
      have hs4 := hb4.size
      have hSB4 := (hb4.block _ (Nat.lt_of_lt_of_le hsA hs3)).trans ((hb3.block _ hsA).trans hSB)
      have hb14 : Below w1.heap.size w1 w4 := (hbA.trans (hb3.mono (by omega))).trans (hb4.mono (by omega))
      have x0 : w4.cell? ⟨w1.heap.size, 0, none⟩ = some (.string W) := cell_of' hSB4 0
      have x1 : w4.cell? ⟨w1.heap.size, 1, none⟩ = some (.slice so pn pc) := cell_of' hSB4 1
      have x2 : w4.cell? ⟨w1.heap.size, 2, none⟩ = some (.int .i64 0) := cell_of' hSB4 2
      have hlt4 : w1.heap.size < w4.heap.size := by omega
      have HED : Hid (Calls Tryz.prog 79 #[.agg #[.string W, .slice so pn pc, .int .i64 0]] (w4.alloc (.cells #[.int .i64 XN, .int .i64 XD, .int .i64 YN, .int .i64 YD] 100)) fun e w' => ∃ v, e = .returned v ∧ RdEdges w' v ES ∧ Below (w4.alloc (.cells #[.int .i64 XN, .int .i64 XD, .int .i64 YN, .int .i64 YD] 100)).heap.size (w4.alloc (.cells #[.int .i64 XN, .int .i64 XD, .int .i64 YN, .int .i64 YD] 100)) w') :=
        HES.out ▸ redges_any PS W _ _ (keeps_below keeps_multi HRD.out.1 (hb14.alloc hb14.size _)) HRD.out.2
      have hb05 : Below w.heap.size w (w4.alloc (.cells #[.int .i64 XN, .int .i64 XD, .int .i64 YN, .int .i64 YD] 100)) := by
        have := hb1.trans (hb14.mono hb1.size)
        exact this.alloc this.size _
      have hPB := heap_alloc_new w4 (.cells #[.int .i64 XN, .int .i64 XD, .int .i64 YN, .int .i64 YD] 100)
      have hsP : w4.heap.size < (w4.alloc (.cells #[.int .i64 XN, .int .i64 XD, .int .i64 YN, .int .i64 YD] 100)).heap.size := by simp
      have HSM : Hid (∀ e ∈ ES, smallE e) := HES.out ▸ flat_small HRD.out.2
      have hel : ES.length ≤ 65000000 := HES.out ▸ flat_len HRD.out.2
      clear hb3 hb4 hSB hSB4 hbA hsA HF1 HF2 HR2 HRD hb14
      go_wp2_with fail
      refine HED.out.mono ?_
      rintro e w5 ⟨v, rfl, hre, hb5⟩
      obtain ⟨lo, lc, rfl⟩ := rdEdges_slice hre
      have hP5 := (hb5.block _ hsP).trans hPB
      have hbel5 := hb05.trans (hb5.mono hb05.size)
      have hs5 : w4.heap.size < w5.heap.size := Nat.lt_of_lt_of_le hsP hb5.size
      have HRE : Hid (RdEdges w5 (.slice lo ES.length lc) ES) := hre
      clear HED hPB hsP hb05 hb5 hre x0 x1 x2
      go_wp2_with fail
      go_loopg [17] ES.length (fun m iv wr => ∃ i : Nat, i + m = ES.length ∧ iv = .int .i64 i ∧ Hid ((∀ e ∈ ES.take i, Ge.fo (x, y) d e = false) ∧ Below w5.heap.size w5 wr))
      case atStart => exact ⟨0, by omega, rfl, by simp, Below.refl _ _⟩
      case round =>
        obtain ⟨i, him, rfl, HB⟩ := hrel
        have hb6 := HB.out.2
        have hs6 := hb6.size
        have hP6 := (hb6.block _ hs5).trans hP5
        have p0 : wr.cell? ⟨w4.heap.size, 0, none⟩ = some (.int .i64 XN) := cell_of' hP6 0
        have p1 : wr.cell? ⟨w4.heap.size, 1, none⟩ = some (.int .i64 XD) := cell_of' hP6 1
        have p2 : wr.cell? ⟨w4.heap.size, 2, none⟩ = some (.int .i64 YN) := cell_of' hP6 2
        have p3 : wr.cell? ⟨w4.heap.size, 3, none⟩ = some (.int .i64 YD) := cell_of' hP6 3
        have hb06 : Below w.heap.size w wr := hbel5.trans (hb6.mono hbel5.size)
        have hsz6 : w4.heap.size < wr.heap.size := by omega
        by_cases hlt : i < ES.length
        · obtain ⟨e, hek⟩ : ∃ e, ES[i]? = some e := ⟨_, List.getElem?_eq_getElem hlt⟩
          obtain ⟨b, rfl, hb, c0, c1, c2, c3⟩ := rdEdges_get HRE.out hek
          have r0 := (hb6.cell (p := ⟨b, i * 4, none⟩) hb).trans c0
          have r1 := (hb6.cell (p := ⟨b, i * 4 + 1, none⟩) hb).trans c1
          have r2 := (hb6.cell (p := ⟨b, i * 4 + 2, none⟩) hb).trans c2
          have r3 := (hb6.cell (p := ⟨b, i * 4 + 3, none⟩) hb).trans c3
          have hbr : b < wr.heap.size := Nat.lt_of_lt_of_le hb hs6
          have hki : (i : Int) < (ES.length : Int) := by omega
          have hmem := List.mem_of_getElem? hek
          have HH : Hid (∀ w1, Calls Tryz.prog 80 #[.agg #[.int .i64 e.1.1, .int .i64 e.1.2, .int .i64 e.2.1, .int .i64 e.2.2], .agg #[.int .i64 XN, .int .i64 XD, .int .i64 YN, .int .i64 YD]] w1 fun e' w' => e' = .returned (.bool (Ge.fo (x, y) d e)) ∧ Below w1.heap.size w1 w') := fun w1 => rholds_any e XN XD YN YD x y d w1 (HSM.out e hmem) HPT.out
          clear c0 c1 c2 c3
          cases hfo : Ge.fo (x, y) d e
          · rw [hfo] at HH
            have HN : Hid (∀ e ∈ ES.take (i + 1), Ge.fo (x, y) d e = false) := fun e' he' => by
              obtain ⟨h1, h2⟩ := List.getElem?_eq_some_iff.1 hek
              rw [List.take_succ_eq_append_getElem h1, h2] at he'
              rcases List.mem_append.1 he' with h | h
              · exact HB.out.1 e' h
              · rw [List.mem_singleton.1 h]; exact hfo
            clear hfo hek hmem HB
            go_wp2_with fail
            go_region_held3 (fun w' => w'.cell? ⟨b, i * 4, none⟩ = some (.int .i64 e.1.1) ∧ w'.cell? ⟨b, i * 4 + 1, none⟩ = some (.int .i64 e.1.2) ∧ w'.cell? ⟨b, i * 4 + 2, none⟩ = some (.int .i64 e.2.1) ∧ w'.cell? ⟨b, i * 4 + 3, none⟩ = some (.int .i64 e.2.2) ∧ w'.cell? ⟨w4.heap.size, 0, none⟩ = some (.int .i64 XN) ∧ w'.cell? ⟨w4.heap.size, 1, none⟩ = some (.int .i64 XD) ∧ w'.cell? ⟨w4.heap.size, 2, none⟩ = some (.int .i64 YN) ∧ w'.cell? ⟨w4.heap.size, 3, none⟩ = some (.int .i64 YD)) (go_keep) (first | (go_at_call 80; refine (HH.out _).mono ?_; rintro e' w7 ⟨rfl, hb7⟩; have s0 := (hb7.cell (p := ⟨b, i * 4, none⟩) hbr).trans r0; have s1 := (hb7.cell (p := ⟨b, i * 4 + 1, none⟩) hbr).trans r1; have s2 := (hb7.cell (p := ⟨b, i * 4 + 2, none⟩) hbr).trans r2; have s3 := (hb7.cell (p := ⟨b, i * 4 + 3, none⟩) hbr).trans r3; have t0 := (hb7.cell (p := ⟨w4.heap.size, 0, none⟩) hsz6).trans p0; have t1 := (hb7.cell (p := ⟨w4.heap.size, 1, none⟩) hsz6).trans p1; have t2 := (hb7.cell (p := ⟨w4.heap.size, 2, none⟩) hsz6).trans p2; have t3 := (hb7.cell (p := ⟨w4.heap.size, 3, none⟩) hsz6).trans p3))
            have HN2 : Hid ((∀ e ∈ ES.take (i + 1), Ge.fo (x, y) d e = false) ∧ Below w5.heap.size w5 w7) := ⟨HN.out, hb6.drew.trans (hb7.mono hs6)⟩
            clear hb7 HN
            go_wp2_with fail
            go_roundg (gk - 1)
            case measure => omega
            case rel => exact ⟨i + 1, by omega, by go_num, HN2⟩
          · rw [hfo] at HH
            have HA : Hid (ES.any (Ge.fo (x, y) d) = true) := List.any_eq_true.2 ⟨e, hmem, hfo⟩
            clear hfo hek hmem HB
            go_wp2_with fail
            go_region_held3 (fun w' => w'.cell? ⟨b, i * 4, none⟩ = some (.int .i64 e.1.1) ∧ w'.cell? ⟨b, i * 4 + 1, none⟩ = some (.int .i64 e.1.2) ∧ w'.cell? ⟨b, i * 4 + 2, none⟩ = some (.int .i64 e.2.1) ∧ w'.cell? ⟨b, i * 4 + 3, none⟩ = some (.int .i64 e.2.2) ∧ w'.cell? ⟨w4.heap.size, 0, none⟩ = some (.int .i64 XN) ∧ w'.cell? ⟨w4.heap.size, 1, none⟩ = some (.int .i64 XD) ∧ w'.cell? ⟨w4.heap.size, 2, none⟩ = some (.int .i64 YN) ∧ w'.cell? ⟨w4.heap.size, 3, none⟩ = some (.int .i64 YD)) (go_keep) (first | (go_at_call 80; refine (HH.out _).mono ?_; rintro e' w7 ⟨rfl, hb7⟩; have s0 := (hb7.cell (p := ⟨b, i * 4, none⟩) hbr).trans r0; have s1 := (hb7.cell (p := ⟨b, i * 4 + 1, none⟩) hbr).trans r1; have s2 := (hb7.cell (p := ⟨b, i * 4 + 2, none⟩) hbr).trans r2; have s3 := (hb7.cell (p := ⟨b, i * 4 + 3, none⟩) hbr).trans r3; have t0 := (hb7.cell (p := ⟨w4.heap.size, 0, none⟩) hsz6).trans p0; have t1 := (hb7.cell (p := ⟨w4.heap.size, 1, none⟩) hsz6).trans p1; have t2 := (hb7.cell (p := ⟨w4.heap.size, 2, none⟩) hsz6).trans p2; have t3 := (hb7.cell (p := ⟨w4.heap.size, 3, none⟩) hsz6).trans p3))
            have hbz := hb06.drew.trans (hb7.mono (by have := hb06.size; exact this))
            go_wp2_with fail
            exact bodyPost_ret (v := .tuple #[.int .i64 0, .bool true, .int .i64 0, .int .i64 0]) (by simp [results, Tryz.results54, go_sem]) rfl ⟨rfl, hbz⟩
        · have hi : i = ES.length := by omega
          subst hi
          have HNO : Hid (∀ e ∈ ES, Ge.fo (x, y) d e = false) := by
            have := HB.out.1
            rw [List.take_length] at this; exact this
          have HA : Hid (¬ ES.any (Ge.fo (x, y) d) = true) := fun h => by
            obtain ⟨e, h1, h2⟩ := List.any_eq_true.1 h
            rw [HNO.out e h1] at h2; cases h2
          have HO : Hid (Calls Tryz.prog 81 #[.slice lo ES.length lc, .agg #[.int .i64 XN, .int .i64 XD, .int .i64 YN, .int .i64 YD]] wr fun e w' => e = .returned (.int .i64 (Ge.total (Ge.fu (x, y) d) ES)) ∧ Below wr.heap.size wr w') :=
            over_any ES _ XN XD YN YD x y d wr (keeps_own HRE.out fun k cur hc => hb6.block k (lt_of_heap hc)) (by omega) HSM.out HPT.out (by omega) HNO.out
          clear HB
          go_wp2_with fail
          refine HO.out.mono ?_
          rintro e w7 ⟨rfl, hb7⟩
          have hbz := hb06.trans (hb7.mono hb06.size)
          go_wp2_with fail
          exact bodyPost_ret (v := .tuple #[.int .i64 (Ge.total (Ge.fu (x, y) d) ES), .bool false, .int .i64 0, .int .i64 0]) (by simp [results, Tryz.results54, go_sem]) rfl ⟨rfl, hbz⟩
    all_goals
      have hbad : Pl.badPt x y d = true := by
        unfold Pl.badPt
        simp only [Bool.or_eq_true, decide_eq_true_eq]
        omega
      rw [hbad]
      simp only [if_true, Pl.windV]
      clear hbad HRG
      go_enter Tryz.func54, Tryz.ntmps54
      go_wp2_with fail
      refine (HR2.out _).mono ?_
      rintro e w1 ⟨hb1, W, so, pn, pc, rfl, _⟩
      go_wp2_with fail
      exact bodyPost_ret (v := .tuple #[.int .i64 0, .bool false, .int .i64 5, .int .i64 0]) (by simp [results, Tryz.results54, go_sem]) rfl ⟨rfl, hb1.alloc hb1.size _⟩
  · have hw : Pl.wind s.data.toList x y d = (0, false, Pl.err s.data.toList) := if_neg h0
    rw [hw]
    have hne : (((Pl.err s.data.toList).1 : Int) != 0) = true := by rw [bne_iff_ne]; omega
    simp only [Pl.windV]
    generalize (Pl.err s.data.toList).1 = E at *
    generalize (Pl.err s.data.toList).2 = Pp at *
    clear hw h0
    go_enter Tryz.func54, Tryz.ntmps54
    go_wp2_with fail
    refine (HR.out _).mono ?_
    rintro e w1 ⟨hb1, W, so, pn, pc, rfl, _⟩
    go_wp2_with fail
    exact bodyPost_ret (v := .tuple #[.int .i64 0, .bool false, .int .i64 E, .int .i64 Pp]) (by simp [results, Tryz.results54, go_sem]) rfl ⟨rfl, hb1.alloc hb1.size _⟩

end Go.Proofs.YtkjhhooecopolaaGreatDoor
