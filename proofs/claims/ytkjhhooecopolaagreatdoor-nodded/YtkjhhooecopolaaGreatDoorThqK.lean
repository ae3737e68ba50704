import Derived.Test.YtkjhhooecopolaaGreatDoorKj23
import Derived.Test.YtkjhhooecopolaaGreatDoorKj13
import Derived.Deep.RegionHeld3
namespace Go.Proofs.YtkjhhooecopolaaGreatDoor
open Go.RowKit

def RdPts (w : World) (v : Value) (g : List (Int × Int)) : Prop := w.ownsRow 0 81 1 v g.length (ptCells g)
def RdRings (w : World) (v : Value) (rg : List (List (Int × Int))) : Prop := RdRow 127 RdPts w v rg

theorem rdRings_of {rb : Nat} {rv : Value} {rg : List (List (Int × Int))} {w : World} (h : Rings rb rv rg w) : RdRings w rv rg := by
  obtain ⟨vs, h1, h2, h3, _⟩ := h
  exact ⟨vs, h1, own_zero h2, fun i u x hu hx => own_zero (h3 i u x hu hx)⟩
theorem keeps_pts : Keeps [81] RdPts := fun w w' v x h hk => keeps_own h fun k cur hc => hk k cur _ hc (by simp)
theorem keeps_rings : Keeps [127, 81] RdRings := keeps_row keeps_pts
theorem rdPts_slice {w : World} {v : Value} {g : List (Int × Int)} (h : RdPts w v g) : ∃ so cap, v = .slice so g.length cap := by
  rcases h.2 with ⟨hv, h0⟩ | ⟨b, cap, cur, hv, _⟩
  · exact ⟨none, 0, by rw [hv, h0]⟩
  · exact ⟨_, cap, hv⟩
theorem pts_cells {w : World} {so : Option Addr} {n cap : Nat} {g : List (Int × Int)} (hR : RdPts w (.slice so n cap) g) {k : Nat} {p : Int × Int} (hp : g[k]? = some p) :
    ∃ b, so = some ⟨b, 0, none⟩ ∧ b < w.heap.size ∧ w.cell? ⟨b, k, none⟩ = some (.complex .f64 (floatOfInt .f64 p.1) (floatOfInt .f64 p.2)) := by
  have a0 : (ptCells g)[k]? = some (ptVal p) := by simp [ptCells, hp]
  obtain ⟨b, c, hv, hb, hc⟩ := own_get' hR a0
  injection hv with hv
  exact ⟨b, hv, hb, hc _ _ a0⟩

/-- The edges so far. -/
def EB2 (w : World) (lv : Value) (acc : List Ed) (wr : World) : Prop :=
  (∃ xs : List EB, xs.length = acc.length ∧ wr.ownsRow w.heap.size 124 4 lv acc.length (ebRow xs) ∧ ∀ (i : Nat) x e, xs[i]? = some x → acc[i]? = some e → EBok x e) ∧ Below w.heap.size w wr

theorem ebRow_snoc (l : List EB) (e : EB) : ebRow (l ++ [e]) = ebRow l ++ e.cells.toList := by simp [ebRow]
theorem ebInfo : (Tryz.prog.info? 124).map (fun i => (i.zero, i.size, i.bytes)) = some (some (.agg #[.complex .f64 0 0, .float .f64 0, .complex .f64 0 0, .complex .f64 0 0]), 4, 56) := by kernel_rfl
theorem ok_snoc {xs : List EB} {acc : List Ed} {x : EB} {e : Ed} (hlen : xs.length = acc.length) (h : ∀ (i : Nat) x e, xs[i]? = some x → acc[i]? = some e → EBok x e) (hx : EBok x e) :
    ∀ (i : Nat) y f, (xs ++ [x])[i]? = some y → (acc ++ [e])[i]? = some f → EBok y f := by
  intro i u y hu hy
  by_cases hi : i < xs.length
  · rw [List.getElem?_append_left hi] at hu
    rw [List.getElem?_append_left (by omega)] at hy
    exact h i u y hu hy
  · have hi2 : i = xs.length := by
      have := (List.getElem?_eq_some_iff.1 hu).1
      simp at this; omega
    subst hi2
    have e1 : u = x := by simpa using hu.symm
    have e2 : y = e := by rw [hlen] at hy; simpa using hy.symm
    subst e1 e2
    exact hx

set_option maxRecDepth 100000 in
set_option maxHeartbeats 4000000 in
theorem edgesOf_any (rg : List (List (Int × Int))) (v : Value) (w : World) (hR : RdRings w v rg) (hok : ∀ g ∈ rg, okRing g ∧ g.length ≤ 402) (hl : rg.length ≤ 161604) :
    Calls Tryz.prog 36 #[v] w fun e w' => ∃ v, e = .returned v ∧ RdB w' v (Ge.allEdges rg) ∧ Below w.heap.size w w' := by
  obtain ⟨so, cap, rfl⟩ := rdRow_slice hR
  obtain ⟨i0, hi, hz0, hz1, hz2⟩ := info_parts ebInfo
  have HR : Hid (RdRings w (.slice so rg.length cap) rg) := hR
  have HOK : Hid (∀ g ∈ rg, okRing g ∧ g.length ≤ 402) := hok
  clear hR hok
  have HIN : Hid (EB2 w (.slice none 0 0) [] w) := ⟨⟨[], rfl, World.ownsRow_nil _ _ _ _, fun i x e h => by simp at h⟩, Below.refl _ _⟩
  have HLEN : Hid (∀ i, (Ge.allEdges (rg.take i)).length ≤ 65000000) := fun i => by
    have h := Ge.all_le 402 (rg.take i) (fun g hg => (HOK.out g (List.mem_of_mem_take hg)).2)
    have h2 : (rg.take i).length ≤ 161604 := by simp; omega
    omega
  go_enter Tryz.func36, Tryz.ntmps36
  go_wp2_with fail
  go_loopg [3, 11] rg.length (fun m lv iv wr => ∃ i : Nat, i + m = rg.length ∧ iv = .int .i64 i ∧ Hid (EB2 w lv (Ge.allEdges (rg.take i)) wr))
  case atStart => exact ⟨0, by omega, rfl, HIN⟩
  case round =>
    obtain ⟨i, him, rfl, HE⟩ := hrel
    have hbel := HE.out.2
    clear HIN
    by_cases hlt : i < rg.length
    · obtain ⟨g, hg⟩ : ∃ g, rg[i]? = some g := ⟨_, List.getElem?_eq_getElem hlt⟩
      obtain ⟨b, u, rfl, hb, e0, hru⟩ := rdRow_get HR.out hg
      obtain ⟨gs, gc, rfl⟩ := rdPts_slice hru
      have r0 := (hbel.cell (p := ⟨b, i, none⟩) hb).trans e0
      have hgl : g.length ≤ 402 := (HOK.out g (List.mem_of_getElem? hg)).2
      have HOKG : Hid (okRing g) := (HOK.out g (List.mem_of_getElem? hg)).1
      have HRG : Hid (RdPts w (.slice gs g.length gc) g) := hru
      have HT : Hid (Ge.allEdges (rg.take (i + 1)) = Ge.allEdges (rg.take i) ++ Ge.edges g) := Ge.all_take hg
      have hli := HLEN.out i
      have hki : (i : Int) < (rg.length : Int) := by omega
      have hbr : b < wr.heap.size := Nat.lt_of_lt_of_le hb hbel.size
      obtain ⟨m1, hm1⟩ : ∃ m1, m1 = gk := ⟨_, rfl⟩
      generalize Ge.allEdges (rg.take i) = A1 at *
      clear hg e0 hru HOK HR HLEN
      go_wp2_with fail
      go_loopg [3, 17] g.length (fun m lv nv wr => ∃ n : Nat, n + m = g.length ∧ nv = .int .i64 n ∧ Hid (EB2 w lv (A1 ++ Ge.edT g n) wr))
      case atStart => exact ⟨0, by omega, rfl, by simpa [Ge.edT_zero] using HE⟩
      case round =>
        obtain ⟨n, hnm, rfl, HE3⟩ := hrel
        have hbel3 := HE3.out.2
        clear HE r0
        by_cases hlt3 : n < g.length
        · obtain ⟨P, hP⟩ : ∃ P, g[n]? = some P := ⟨_, List.getElem?_eq_getElem hlt3⟩
          obtain ⟨b3, rfl, hb3, p0⟩ := pts_cells HRG.out hP
          have r0 := (hbel3.cell (p := ⟨b3, n, none⟩) hb3).trans p0
          have hbr3 : b3 < wr.heap.size := Nat.lt_of_lt_of_le hb3 hbel3.size
          have hki3 : (n : Int) < (g.length : Int) := by omega
          obtain ⟨M, Q, hQ, hQ2, hM⟩ : ∃ (M : Nat) (Q : Int × Int), g[M]? = some Q ∧ Ge.nextOf g n = some Q ∧ (((n : Int) + 1) % (g.length : Int) = (M : Int) ∧ M < g.length ∧ (n + 1) % g.length = M) := by
            by_cases hn1 : n + 1 < g.length
            · exact ⟨n + 1, _, List.getElem?_eq_getElem hn1, by unfold Ge.nextOf; rw [if_pos hn1]; exact List.getElem?_eq_getElem hn1, by rw [Int.emod_eq_of_lt (by omega) (by omega)]; omega, hn1, Nat.mod_eq_of_lt hn1⟩
            · have hn2 : n + 1 = g.length := by omega
              exact ⟨0, _, List.getElem?_eq_getElem (show 0 < g.length by omega), by unfold Ge.nextOf; rw [if_neg hn1]; exact List.getElem?_eq_getElem (show 0 < g.length by omega), by rw [show ((n : Int) + 1) = (g.length : Int) by omega, Int.emod_self]; rfl, by omega, by rw [hn2, Nat.mod_self]⟩
          obtain ⟨hM1, hM2, hM3⟩ := hM
          obtain ⟨b4, hb4, _, f0⟩ := pts_cells HRG.out hQ
          injection hb4 with hb4
          injection hb4 with hb4
          subst hb4
          have s0 := (hbel3.cell (p := ⟨b3, M, none⟩) hb3).trans f0
          have hMl : (M : Int) < (g.length : Int) := by omega
          have hgz : ¬ ((g.length : Int) = 0) := by omega
          have hgz' : ¬ (g.length = 0) := by omega
          have HP : Hid (g[n]? = some P) := hP
          have HQ : Hid (Ge.nextOf g n = some Q) := hQ2
          have HPO : Hid (okInt P.1 ∧ okInt P.2) := HOKG.out P (List.mem_of_getElem? hP)
          have HQO : Hid (okInt Q.1 ∧ okInt Q.2) := HOKG.out Q (List.mem_of_getElem? hQ)
          obtain ⟨P1, P2⟩ := P
          obtain ⟨Q1, Q2⟩ := Q
          clear p0 f0 hP hQ hQ2
          simp only at r0 s0
          have fP1 : Fl (floatOfInt .f64 P1) P1 := fl_ofInt (by have := HPO.out.1; unfold okInt at this; omega)
          have fP2 : Fl (floatOfInt .f64 P2) P2 := fl_ofInt (by have := HPO.out.2; unfold okInt at this; omega)
          have fQ1 : Fl (floatOfInt .f64 Q1) Q1 := fl_ofInt (by have := HQO.out.1; unfold okInt at this; omega)
          have fQ2 : Fl (floatOfInt .f64 Q2) Q2 := fl_ofInt (by have := HQO.out.2; unfold okInt at this; omega)
          have hcmp : (!((FloatKind.f64.format.order (floatOfInt .f64 P1) (floatOfInt .f64 Q1) == some .eq) && (FloatKind.f64.format.order (floatOfInt .f64 P2) (floatOfInt .f64 Q2) == some .eq))) = !(decide (P1 = Q1) && decide (P2 = Q2)) := by
            rw [eq_bits fP1 fQ1, eq_bits fP2 fQ2]
          obtain ⟨wa, wb, sh, l1, l2, l3, hLT⟩ := lineThrough_any fP1 fP2 fQ1 fQ2 (by have := HPO.out.1; unfold okInt at this; omega) (by have := HPO.out.2; unfold okInt at this; omega) (by have := HQO.out.1; unfold okInt at this; omega) (by have := HQO.out.2; unfold okInt at this; omega)
          have HX : Hid (EBok ⟨wa, wb, sh, floatOfInt .f64 P1, floatOfInt .f64 P2, floatOfInt .f64 Q1, floatOfInt .f64 Q2⟩ ((P1, P2), (Q1, Q2))) := ⟨l1, l2, l3, fP1, fP2, fQ1, fQ2⟩
          have HLT : Hid (∀ w, Calls Tryz.prog 64 #[.complex .f64 (floatOfInt .f64 P1) (floatOfInt .f64 P2), .complex .f64 (floatOfInt .f64 Q1) (floatOfInt .f64 Q2)] w fun e w' => e = .returned (.agg #[.complex .f64 wa wb, .float .f64 sh]) ∧ Below w.heap.size w w') := hLT
          clear hLT l1 l2 l3 fP1 fP2 fQ1 fQ2 HPO HQO
          generalize floatOfInt .f64 P1 = fP1 at *
          generalize floatOfInt .f64 P2 = fP2 at *
          generalize floatOfInt .f64 Q1 = fQ1 at *
          generalize floatOfInt .f64 Q2 = fQ2 at *
          by_cases hpq : (P1, P2) = (Q1, Q2)
          · injection hpq with hpq1 hpq2
            have hc : (!((FloatKind.f64.format.order fP1 fQ1 == some .eq) && (FloatKind.f64.format.order fP2 fQ2 == some .eq))) = false := by rw [hcmp, hpq1, hpq2]; simp
            have HN : Hid (EB2 w u3 (A1 ++ Ge.edT g (n + 1)) wr) := by
              rw [Ge.edT_eq HP.out HQ.out (by rw [hpq1, hpq2])]; exact HE3.out
            clear hcmp hpq1 hpq2 HE3
            go_wp2_with fail
            go_roundg (gk - 1)
            case measure => omega
            case rel => exact ⟨n + 1, by omega, by go_num, HN⟩
          · have hc : (!((FloatKind.f64.format.order fP1 fQ1 == some .eq) && (FloatKind.f64.format.order fP2 fQ2 == some .eq))) = true := by
              rw [hcmp]
              by_cases h1 : P1 = Q1
              · by_cases h2 : P2 = Q2
                · exact absurd (by rw [h1, h2]) hpq
                · simp [h2]
              · simp [h1]
            have HNE : Hid (Ge.edT g (n + 1) = Ge.edT g n ++ [((P1, P2), (Q1, Q2))]) := Ge.edT_ne HP.out HQ.out hpq
            have hal : (A1 ++ Ge.edT g n).length ≤ 65000402 := by
              have := Ge.edT_le g n
              simp only [List.length_append]; omega
            obtain ⟨A3, hA3⟩ : ∃ A3, A3 = A1 ++ Ge.edT g n := ⟨_, rfl⟩
            have HA : Hid (A3 = A1 ++ Ge.edT g n) := hA3
            rw [← hA3] at hal HE3
            clear hcmp hpq hA3
            go_wp2_with fail
            refine (HLT.out _).mono ?_
            rintro e w5 ⟨rfl, hb5⟩
            obtain ⟨⟨xs, hx1, hx2, hx3⟩, _⟩ := HE3.out
            have HX3 : Hid (∀ (i : Nat) x e, xs[i]? = some x → A3[i]? = some e → EBok x e) := hx3
            have hbel5 := hbel3.trans (hb5.mono hbel3.size)
            have ho5 : w5.ownsRow w.heap.size 124 4 u3 A3.length (ebRow xs) := own_kept hx2 fun k hk => hb5.block k (own_lt hx2 k hk).2
            have hs5 := hbel5.size
            clear hx2 hx3 HE3
            go_wp2_with (at_builtin; refine wpList_append_lies _ rfl (.tmp 33) (.tmp 40) 72 rfl w.heap.size 124 i0 _ 4 56 Tryz.underlying72 hi hz0 hz1 hz2 rfl (by decide) u3 A3.length (ebRow xs) rfl (own_kept ho5 (fun k hk => Below.heap_alloc _ _ _ (own_lt ho5 k hk).2)) ⟨w5.heap.size, 0, none⟩ 1 1 [.complex .f64 wa wb, .float .f64 sh, .complex .f64 fP1 fP2, .complex .f64 fQ1 fQ2] rfl rfl (World.news_of_block (cs := #[.complex .f64 wa wb, .float .f64 sh, .complex .f64 fP1 fP2, .complex .f64 fQ1 fQ2]) (t := 124) (fr := (0, 0)) (heap_alloc_new w5 _)) (by simp [Value.oneCell']) (by decide) (by unfold maxLen; omega) (by omega) (by simp; omega) (w5.heap.size + 1) (by simp) ?_; intro g' cap' w6 ho6 hgrow6 hat6 hlt6)
            have HN : Hid (EB2 w (.slice (some ⟨g', 0, none⟩) (A3.length + 1) cap') (A1 ++ Ge.edT g (n + 1)) w6) := by
              rw [HNE.out, ← List.append_assoc, ← HA.out]
              refine ⟨⟨xs ++ [⟨wa, wb, sh, fP1, fP2, fQ1, fQ2⟩], by simp [hx1], ?_, ok_snoc hx1 HX3.out HX.out⟩, (hbel5.alloc hbel5.size _).grown hgrow6 (by simp; omega) (fun k hk => (own_lt ho5 k hk).1)⟩
              rw [ebRow_snoc, List.length_append]
              exact ho6
            clear ho6 hgrow6 ho5 HX HX3 HLT
            go_roundg (gk - 1)
            case measure => omega
            case rel => exact ⟨n + 1, by omega, by go_num, HN⟩
        · have hn : n = g.length := by omega
          subst hn
          have HN : Hid (EB2 w u3 (Ge.allEdges (rg.take (i + 1))) wr) := by
            rw [HT.out, ← Ge.edT_all]; exact HE3.out
          clear HE3 HRG HT
          go_wp2_with fail
          go_roundg (m1 - 1)
          case measure => omega
          case rel => exact ⟨i + 1, by omega, by go_num, HN⟩
    · have hk : i = rg.length := by omega
      subst hk
      have HF : Hid (EB2 w u3 (Ge.allEdges rg) wr) := by
        have := HE.out
        rw [List.take_length] at this
        exact this
      clear HE HR HOK HLEN
      go_wp2_with fail
      go_ret
      obtain ⟨⟨xs, h1, h2, h3⟩, h4⟩ := HF.out
      exact ⟨_, rfl, ⟨xs, h1, own_zero h2, h3⟩, h4⟩

end Go.Proofs.YtkjhhooecopolaaGreatDoor
