import Derived.Test.YtkjhhooecopolaaGreatDoorVj31
import Derived.Test.YtkjhhooecopolaaGreatDoorTblqV
import Derived.Deep.LoopGhost
namespace Go.Proofs.YtkjhhooecopolaaGreatDoor
open Go.RowKit

set_option maxRecDepth 100000 in
set_option maxHeartbeats 1000000 in
theorem passing_any (xb : EB) (ed : Ed) {na nb : Nat} {X Y D : Int} (hx : EBok xb ed) (hs : smallE ed) (g1 : Fl na X) (g2 : Fl nb Y) (hn : NodeIn X Y D) (w : World) :
    Calls Tryz.prog 63 #[.agg xb.cells, .agg #[.complex .f64 na nb, .int .i64 D]] w fun e w' => e = .returned (.int .i64 (Ge.fr (X, Y) D ed.1 ed.2)) ∧ Below w.heap.size w w' := by
  have sX : sm X := by have := hn.x; unfold sm; omega
  have sY : sm Y := by have := hn.y; unfold sm; omega
  have sD : sm D := by have := hn.d; unfold sm; omega
  have s1 : sm (ed.2.1 - ed.1.1) := by have := hs.a; have := hs.c; unfold small at *; unfold sm; omega
  have s2 : sm (ed.2.2 - ed.1.2) := by have := hs.b; have := hs.d; unfold small at *; unfold sm; omega
  obtain ⟨r, fr, hL⟩ := leftOf_any hx.wa hx.wb hx.sh g1 g2 s1 s2 (shift_sm hs) sD sX sY
  have HL : Hid (∀ w, Calls Tryz.prog 97 #[.agg #[.complex .f64 xb.wa xb.wb, .float .f64 xb.sh], .agg #[.complex .f64 na nb, .int .i64 D]] w fun e w' => e = .returned (.float .f64 r) ∧ Below w.heap.size w w') := hL
  have s1' : sm 1 := by unfold sm; decide
  have HU : Hid (∀ w, Calls Tryz.prog 100 #[.agg #[.complex .f64 na nb, .int .i64 D], .agg #[.complex .f64 xb.fa xb.fb, .int .i64 1]] w fun e w' => e = .returned (.bool (decide (X * 1 < ed.1.1 * D))) ∧ Below w.heap.size w w') := fun w => isLeftOf_any g1 g2 hx.fa hx.fb (sm_of hs.a) (sm_of hs.b) sD s1' sX sY w
  have HV : Hid (∀ w, Calls Tryz.prog 100 #[.agg #[.complex .f64 na nb, .int .i64 D], .agg #[.complex .f64 xb.ta xb.tb, .int .i64 1]] w fun e w' => e = .returned (.bool (decide (X * 1 < ed.2.1 * D))) ∧ Below w.heap.size w w') := fun w => isLeftOf_any g1 g2 hx.ta hx.tb (sm_of hs.c) (sm_of hs.d) sD s1' sX sY w
  have q1 := gt_bits fr fl_zero
  have q2 := lt_bits fr fl_zero
  have hfr := fr_of X Y D ed hn.d.1
  unfold lf at hfr
  rw [hfr]
  generalize (ed.2.1 - ed.1.1) * Y - (ed.2.2 - ed.1.2) * X - ((ed.2.1 - ed.1.1) * ed.1.2 - (ed.2.2 - ed.1.2) * ed.1.1) * D = L at *
  generalize hFA : decide (X * 1 < ed.1.1 * D) = FA at *
  generalize hTA : decide (X * 1 < ed.2.1 * D) = TA at *
  have hval : (if ¬ X * 1 < ed.1.1 * D ∧ X * 1 < ed.2.1 * D ∧ 0 < L then (1 : Int) else if X * 1 < ed.1.1 * D ∧ ¬ X * 1 < ed.2.1 * D ∧ L < 0 then -1 else 0) = (if FA = false ∧ TA = true ∧ 0 < L then 1 else if FA = true ∧ TA = false ∧ L < 0 then -1 else 0) := by
    rw [← hFA, ← hTA]; simp
  rw [hval]
  clear hval hfr hL fr hx hs hn g1 g2 sX sY sD s1 s2 s1' hFA hTA
  obtain ⟨wa, wb, sh, fa, fb, ta, tb⟩ := xb
  simp only [EB.cells] at *
  have hE : ((w.alloc (.cells #[.complex .f64 wa wb, .float .f64 sh, .complex .f64 fa fb, .complex .f64 ta tb] 124)).alloc (.cells #[.complex .f64 na nb, .int .i64 D] 83)).heap[w.heap.size]? = some (.cells #[.complex .f64 wa wb, .float .f64 sh, .complex .f64 fa fb, .complex .f64 ta tb] 124 (0, 0)) := by
    rw [Below.heap_alloc _ _ _ (by simp)]; exact heap_alloc_new _ _
  have hP : ((w.alloc (.cells #[.complex .f64 wa wb, .float .f64 sh, .complex .f64 fa fb, .complex .f64 ta tb] 124)).alloc (.cells #[.complex .f64 na nb, .int .i64 D] 83)).heap[w.heap.size + 1]? = some (.cells #[.complex .f64 na nb, .int .i64 D] 83 (0, 0)) := by
    have := heap_alloc_new (w.alloc (.cells #[.complex .f64 wa wb, .float .f64 sh, .complex .f64 fa fb, .complex .f64 ta tb] 124)) (.cells #[.complex .f64 na nb, .int .i64 D] 83)
    simpa using this
  have hb0 : Below w.heap.size w ((w.alloc (.cells #[.complex .f64 wa wb, .float .f64 sh, .complex .f64 fa fb, .complex .f64 ta tb] 124)).alloc (.cells #[.complex .f64 na nb, .int .i64 D] 83)) := ((Below.refl _ _).alloc (Nat.le_refl _) _).alloc (by simp) _
  have hsz : w.heap.size + 2 = ((w.alloc (.cells #[.complex .f64 wa wb, .float .f64 sh, .complex .f64 fa fb, .complex .f64 ta tb] 124)).alloc (.cells #[.complex .f64 na nb, .int .i64 D] 83)).heap.size := by simp
  go_enter Tryz.func63, Tryz.ntmps63
  go_wp2_with fail
  generalize (w.alloc (.cells #[.complex .f64 wa wb, .float .f64 sh, .complex .f64 fa fb, .complex .f64 ta tb] 124)).alloc (.cells #[.complex .f64 na nb, .int .i64 D] 83) = W at *
  generalize hB : w.heap.size = B at *
  have hza : B < W.heap.size := by omega
  have hzb : B + 1 < W.heap.size := by omega
  have z0 : W.cell? ⟨B, 0, none⟩ = some (.complex .f64 wa wb) := cell_of hE 0
  have z1 : W.cell? ⟨B, 1, none⟩ = some (.float .f64 sh) := cell_of hE 1
  have z2 : W.cell? ⟨B, 2, none⟩ = some (.complex .f64 fa fb) := cell_of hE 2
  have z3 : W.cell? ⟨B, 3, none⟩ = some (.complex .f64 ta tb) := cell_of hE 3
  have z4 : W.cell? ⟨B + 1, 0, none⟩ = some (.complex .f64 na nb) := cell_of hP 0
  have z5 : W.cell? ⟨B + 1, 1, none⟩ = some (.int .i64 D) := cell_of hP 1
  go_region_held3 (fun w' => w'.cell? ⟨B, 0, none⟩ = some (.complex .f64 wa wb) ∧ w'.cell? ⟨B, 1, none⟩ = some (.float .f64 sh) ∧ w'.cell? ⟨B, 2, none⟩ = some (.complex .f64 fa fb) ∧ w'.cell? ⟨B, 3, none⟩ = some (.complex .f64 ta tb) ∧ w'.cell? ⟨B + 1, 0, none⟩ = some (.complex .f64 na nb) ∧ w'.cell? ⟨B + 1, 1, none⟩ = some (.int .i64 D)) (go_keep) (first
      | (go_at_call_of 100 (Value.agg #[Value.complex FloatKind.f64 fa fb, Value.int IntKind.i64 1]); refine (HU.out _).mono ?_; rintro e w6 ⟨rfl, hb6⟩; have hua : B < w6.heap.size := Nat.lt_of_lt_of_le hza hb6.size; have hub : B + 1 < w6.heap.size := Nat.lt_of_lt_of_le hzb hb6.size; have u0 := (hb6.cell (p := ⟨B, 0, none⟩) hza).trans z0; have u1 := (hb6.cell (p := ⟨B, 1, none⟩) hza).trans z1; have u2 := (hb6.cell (p := ⟨B, 2, none⟩) hza).trans z2; have u3 := (hb6.cell (p := ⟨B, 3, none⟩) hza).trans z3; have u4 := (hb6.cell (p := ⟨B + 1, 0, none⟩) hzb).trans z4; have u5 := (hb6.cell (p := ⟨B + 1, 1, none⟩) hzb).trans z5)
      | (go_at_call_of 100 (Value.agg #[Value.complex FloatKind.f64 ta tb, Value.int IntKind.i64 1]); refine (HV.out _).mono ?_; rintro e w7 ⟨rfl, hb7⟩; have hva : B < w7.heap.size := Nat.lt_of_lt_of_le hua hb7.size; have hvb : B + 1 < w7.heap.size := Nat.lt_of_lt_of_le hub hb7.size; have v0 := (hb7.cell (p := ⟨B, 0, none⟩) hua).trans u0; have v1 := (hb7.cell (p := ⟨B, 1, none⟩) hua).trans u1; have v2 := (hb7.cell (p := ⟨B, 2, none⟩) hua).trans u2; have v3 := (hb7.cell (p := ⟨B, 3, none⟩) hua).trans u3; have v4 := (hb7.cell (p := ⟨B + 1, 0, none⟩) hub).trans u4; have v5 := (hb7.cell (p := ⟨B + 1, 1, none⟩) hub).trans u5))
  have hbel : Below w.heap.size w w7 := by
    rw [hB]
    exact (hb0.drew.trans (hb6.mono (Nat.le_of_lt hza))).trans (hb7.mono (Nat.le_of_lt hua))
  clear hb6 hb7 hb0
  cases FA <;> cases TA
  · go_wp2_with fail
    go_ret
    exact ⟨rfl, by rw [hB] at hbel; exact hbel⟩
  · go_wp2_with fail
    refine (HL.out _).mono ?_
    rintro e w8 ⟨rfl, hb8⟩
    have hbel8 := hbel.trans (hb8.mono (by rw [hB]; exact Nat.le_of_lt hva))
    by_cases hl : 0 < L
    · have hq : (FloatKind.f64.format.order r 0 == some Ordering.gt) = true := by rw [q1]; simp [hl]
      clear q1 q2
      go_wp2_with fail
      go_ret
      exact ⟨rfl, by rw [hB] at hbel8; exact hbel8⟩
    · have hq : (FloatKind.f64.format.order r 0 == some Ordering.gt) = false := by rw [q1]; simp [hl]
      clear q1 q2
      go_wp2_with fail
      go_ret
      exact ⟨rfl, by rw [hB] at hbel8; exact hbel8⟩
  · go_wp2_with fail
    refine (HL.out _).mono ?_
    rintro e w8 ⟨rfl, hb8⟩
    have hbel8 := hbel.trans (hb8.mono (by rw [hB]; exact Nat.le_of_lt hva))
    by_cases hl : L < 0
    · have hq : (FloatKind.f64.format.order r 0 == some Ordering.lt) = true := by rw [q2]; simp [hl]
      clear q1 q2
      go_wp2_with fail
      go_ret
      exact ⟨rfl, by rw [hB] at hbel8; exact hbel8⟩
    · have hq : (FloatKind.f64.format.order r 0 == some Ordering.lt) = false := by rw [q2]; simp [hl]
      clear q1 q2
      go_wp2_with fail
      go_ret
      exact ⟨rfl, by rw [hB] at hbel8; exact hbel8⟩
  · go_wp2_with fail
    go_ret
    exact ⟨rfl, by rw [hB] at hbel; exact hbel⟩

end Go.Proofs.YtkjhhooecopolaaGreatDoor

namespace Go.Proofs.YtkjhhooecopolaaGreatDoor
open Go.RowKit

def ebRow (l : List EB) : List Value := l.flatMap fun x => x.cells.toList
def RdB (w : World) (v : Value) (es : List Ed) : Prop :=
  ∃ xs : List EB, xs.length = es.length ∧ w.ownsRow 0 124 4 v es.length (ebRow xs) ∧ ∀ (i : Nat) x e, xs[i]? = some x → es[i]? = some e → EBok x e

theorem ebRow_get : ∀ (l : List EB) (k : Nat) (e : EB), l[k]? = some e → ∀ j, j < 4 → (ebRow l)[k * 4 + j]? = e.cells[j]?
  | [], _, _, h, _, _ => by simp at h
  | q :: r, 0, e, h, j, hj => by
    simp at h
    subst h
    have e1 : ebRow (q :: r) = q.cells.toList ++ ebRow r := by simp [ebRow]
    rw [e1, List.getElem?_append_left (by simp [EB.cells]; omega)]
    simp
  | q :: r, k + 1, e, h, j, hj => by
    have ih := ebRow_get r k e (by simpa using h) j hj
    have e1 : ebRow (q :: r) = q.cells.toList ++ ebRow r := by simp [ebRow]
    rw [e1, List.getElem?_append_right (by simp [EB.cells]; omega)]
    have e2 : (k + 1) * 4 + j - q.cells.toList.length = k * 4 + j := by simp [EB.cells]; omega
    rw [e2, ih]

theorem rdB_slice {w : World} {v : Value} {l : List Ed} (h : RdB w v l) : ∃ so cap, v = .slice so l.length cap := by
  obtain ⟨xs, _, h, _⟩ := h
  rcases h.2 with ⟨hv, h0⟩ | ⟨b, cap, cur, hv, _⟩
  · exact ⟨none, 0, by rw [hv, h0]⟩
  · exact ⟨_, cap, hv⟩

theorem rdB_get {w : World} {so : Option Addr} {n cap : Nat} {l : List Ed} (h : RdB w (.slice so n cap) l) {k : Nat} {e : Ed} (he : l[k]? = some e) :
    ∃ b x, so = some ⟨b, 0, none⟩ ∧ b < w.heap.size ∧ EBok x e ∧ w.cell? ⟨b, k * 4, none⟩ = some (.complex .f64 x.wa x.wb) ∧ w.cell? ⟨b, k * 4 + 1, none⟩ = some (.float .f64 x.sh) ∧ w.cell? ⟨b, k * 4 + 2, none⟩ = some (.complex .f64 x.fa x.fb) ∧ w.cell? ⟨b, k * 4 + 3, none⟩ = some (.complex .f64 x.ta x.tb) := by
  obtain ⟨xs, hl, ho, hr⟩ := h
  have hk : k < xs.length := by rw [hl]; exact (List.getElem?_eq_some_iff.1 he).1
  obtain ⟨x, hx⟩ : ∃ x, xs[k]? = some x := ⟨_, List.getElem?_eq_getElem hk⟩
  have g := ebRow_get xs k x hx
  obtain ⟨b, c, hv, hb, hc⟩ := own_get' ho (g 0 (by omega))
  injection hv with hv
  exact ⟨b, x, hv, hb, hr k x e hx he, hc _ _ (g 0 (by omega)), hc _ _ (g 1 (by omega)), hc _ _ (g 2 (by omega)), hc _ _ (g 3 (by omega))⟩

set_option maxRecDepth 100000 in
set_option maxHeartbeats 2000000 in
theorem turnsAround_any (es : List Ed) (v : Value) {na nb : Nat} {X Y D : Int} (w : World) (hR : RdB w v es) (hl : es.length ≤ 65000000) (hs : ∀ e ∈ es, smallE e) (g1 : Fl na X) (g2 : Fl nb Y) (hn : NodeIn X Y D) :
    Calls Tryz.prog 35 #[v, .agg #[.complex .f64 na nb, .int .i64 D]] w fun e w' => e = .returned (if es.any (Ge.fo (X, Y) D) then .tuple #[.int .i64 0, .bool true] else .tuple #[.int .i64 (Ge.total (Ge.fr (X, Y) D) es), .bool false]) ∧ Below w.heap.size w w' := by
  obtain ⟨so, cap, rfl⟩ := rdB_slice hR
  have HR : Hid (RdB w (.slice so es.length cap) es) := hR
  have HH : Hid (∀ (x : EB) (e : Ed), EBok x e → e ∈ es → ∀ w1, Calls Tryz.prog 62 #[.agg #[.complex .f64 x.wa x.wb, .float .f64 x.sh, .complex .f64 x.fa x.fb, .complex .f64 x.ta x.tb], .agg #[.complex .f64 na nb, .int .i64 D]] w1 fun e' w' => e' = .returned (.bool (Ge.fo (X, Y) D e)) ∧ Below w1.heap.size w1 w') := fun x e hx he w1 => holds_any x e hx (hs e he) g1 g2 hn w1
  have HP : Hid (∀ (x : EB) (e : Ed), EBok x e → e ∈ es → ∀ w1, Calls Tryz.prog 63 #[.agg #[.complex .f64 x.wa x.wb, .float .f64 x.sh, .complex .f64 x.fa x.fb, .complex .f64 x.ta x.tb], .agg #[.complex .f64 na nb, .int .i64 D]] w1 fun e' w' => e' = .returned (.int .i64 (Ge.fr (X, Y) D e.1 e.2)) ∧ Below w1.heap.size w1 w') := fun x e hx he w1 => passing_any x e hx (hs e he) g1 g2 hn w1
  have HT : Hid (∀ k : Nat, -(k : Int) ≤ Ge.total (Ge.fr (X, Y) D) (es.take k) ∧ Ge.total (Ge.fr (X, Y) D) (es.take k) ≤ (k : Int)) := fun k => by
    have h := total_in (Ge.fr (X, Y) D) (fr_in _ _) (es.take k)
    have h2 : (es.take k).length ≤ k := by simp; omega
    omega
  clear hR hs g1 g2 hn
  have hb0 : Below w.heap.size w (w.alloc (.cells #[.complex .f64 na nb, .int .i64 D] 83)) := (Below.refl _ _).alloc (Nat.le_refl _) _
  have hP0 := heap_alloc_new w (.cells #[.complex .f64 na nb, .int .i64 D] 83)
  have HB0 : Hid (Below w.heap.size w (w.alloc (.cells #[.complex .f64 na nb, .int .i64 D] 83)) ∧ (w.alloc (.cells #[.complex .f64 na nb, .int .i64 D] 83)).heap[w.heap.size]? = some (.cells #[.complex .f64 na nb, .int .i64 D] 83 (0, 0))) := ⟨hb0, hP0⟩
  clear hb0 hP0
  go_enter Tryz.func35, Tryz.ntmps35
  go_wp2_with fail
  go_loopg [6, 11] es.length (fun n tv iv wr => ∃ k : Nat, k + n = es.length ∧ iv = .int .i64 k ∧ tv = .int .i64 (Ge.total (Ge.fr (X, Y) D) (es.take k)) ∧ Hid ((∀ e ∈ es.take k, Ge.fo (X, Y) D e = false) ∧ Below w.heap.size w wr ∧ w.heap.size < wr.heap.size ∧ wr.heap[w.heap.size]? = some (.cells #[.complex .f64 na nb, .int .i64 D] 83 (0, 0))))
  case atStart => exact ⟨0, by omega, rfl, rfl, by simp, HB0.out.1, by simp, HB0.out.2⟩
  case round =>
    obtain ⟨k, hkn, rfl, rfl, HB⟩ := hrel
    obtain ⟨hno, hbel, hwz, hPb⟩ := HB.out
    have HNO : Hid (∀ e ∈ es.take k, Ge.fo (X, Y) D e = false) := hno
    have hTk := HT.out k
    clear HB0 HB hno
    by_cases hlt : k < es.length
    · obtain ⟨e, hek⟩ : ∃ e, es[k]? = some e := ⟨_, List.getElem?_eq_getElem hlt⟩
      obtain ⟨b, x, rfl, hb, hok, c0, c1, c2, c3⟩ := rdB_get HR.out hek
      have r0 := (hbel.cell (p := ⟨b, k * 4, none⟩) hb).trans c0
      have r1 := (hbel.cell (p := ⟨b, k * 4 + 1, none⟩) hb).trans c1
      have r2 := (hbel.cell (p := ⟨b, k * 4 + 2, none⟩) hb).trans c2
      have r3 := (hbel.cell (p := ⟨b, k * 4 + 3, none⟩) hb).trans c3
      have p0 : wr.cell? ⟨w.heap.size, 0, none⟩ = some (.complex .f64 na nb) := cell_of hPb 0
      have p1 : wr.cell? ⟨w.heap.size, 1, none⟩ = some (.int .i64 D) := cell_of hPb 1
      have hbr : b < wr.heap.size := Nat.lt_of_lt_of_le hb hbel.size
      have hki : (k : Int) < (es.length : Int) := by omega
      have hmem := List.mem_of_getElem? hek
      have HTT : Hid (Ge.total (Ge.fr (X, Y) D) (es.take (k + 1)) = Ge.total (Ge.fr (X, Y) D) (es.take k) + Ge.fr (X, Y) D e.1 e.2) := total_take _ hek
      have HH1 : Hid (∀ w1, Calls Tryz.prog 62 #[.agg #[.complex .f64 x.wa x.wb, .float .f64 x.sh, .complex .f64 x.fa x.fb, .complex .f64 x.ta x.tb], .agg #[.complex .f64 na nb, .int .i64 D]] w1 fun e' w' => e' = .returned (.bool (Ge.fo (X, Y) D e)) ∧ Below w1.heap.size w1 w') := HH.out x e hok hmem
      have HP1 : Hid (∀ w1, Calls Tryz.prog 63 #[.agg #[.complex .f64 x.wa x.wb, .float .f64 x.sh, .complex .f64 x.fa x.fb, .complex .f64 x.ta x.tb], .agg #[.complex .f64 na nb, .int .i64 D]] w1 fun e' w' => e' = .returned (.int .i64 (Ge.fr (X, Y) D e.1 e.2)) ∧ Below w1.heap.size w1 w') := HP.out x e hok hmem
      have hfin := fr_in (X, Y) D e.1 e.2
      have HEK : Hid (es[k]? = some e) := hek
      obtain ⟨wa, wb, sh, fa, fb, ta, tb⟩ := x
      simp only at r0 r1 r2 r3 HH1 HP1
      generalize Ge.total (Ge.fr (X, Y) D) (es.take k) = T at *
      generalize Ge.fr (X, Y) D e.1 e.2 = FR at *
      clear c0 c1 c2 c3 hek HR HH HP hok
      have hL0 : Below w.heap.size w (wr.alloc (.cells #[.complex .f64 wa wb, .float .f64 sh, .complex .f64 fa fb, .complex .f64 ta tb] 124)) := hbel.alloc hbel.size _
      have hE0 := heap_alloc_new wr (.cells #[.complex .f64 wa wb, .float .f64 sh, .complex .f64 fa fb, .complex .f64 ta tb] 124)
      have hP0 : (wr.alloc (.cells #[.complex .f64 wa wb, .float .f64 sh, .complex .f64 fa fb, .complex .f64 ta tb] 124)).heap[w.heap.size]? = some (.cells #[.complex .f64 na nb, .int .i64 D] 83 (0, 0)) := by
        rw [Below.heap_alloc _ _ _ hwz]; exact hPb
      have hsz : wr.heap.size + 1 = (wr.alloc (.cells #[.complex .f64 wa wb, .float .f64 sh, .complex .f64 fa fb, .complex .f64 ta tb] 124)).heap.size := by simp
      cases hfo : Ge.fo (X, Y) D e
      · rw [hfo] at HH1
        have HN : Hid (∀ e ∈ es.take (k + 1), Ge.fo (X, Y) D e = false) := fun e' he' => by
          obtain ⟨h1, h2⟩ := List.getElem?_eq_some_iff.1 HEK.out
          rw [List.take_succ_eq_append_getElem h1, h2] at he'
          rcases List.mem_append.1 he' with h | h
          · exact HNO.out e' h
          · rw [List.mem_singleton.1 h]; exact hfo
        clear hfo hmem
        go_wp2_with (simp only [st_complex, st_float]; go_simp)
        generalize wr.alloc (.cells #[.complex .f64 wa wb, .float .f64 sh, .complex .f64 fa fb, .complex .f64 ta tb] 124) = w0 at *
        generalize hEe : wr.heap.size = E at *
        clear r0 r1 r2 r3 p0 p1
        refine (HH1.out _).mono ?_
        rintro e' w1 ⟨rfl, hb1⟩
        have hE1 := (hb1.block _ (show E < w0.heap.size by omega)).trans hE0
        have hP1 := (hb1.block _ (show w.heap.size < w0.heap.size by omega)).trans hP0
        have hb1z := hb1.size
        have hL1 := hL0.trans (hb1.mono (by omega))
        have e0 : w1.cell? ⟨E, 0, none⟩ = some (.complex .f64 wa wb) := cell_of hE1 0
        have e1 : w1.cell? ⟨E, 1, none⟩ = some (.float .f64 sh) := cell_of hE1 1
        have e2 : w1.cell? ⟨E, 2, none⟩ = some (.complex .f64 fa fb) := cell_of hE1 2
        have e3 : w1.cell? ⟨E, 3, none⟩ = some (.complex .f64 ta tb) := cell_of hE1 3
        have q0 : w1.cell? ⟨w.heap.size, 0, none⟩ = some (.complex .f64 na nb) := cell_of hP1 0
        have q1 : w1.cell? ⟨w.heap.size, 1, none⟩ = some (.int .i64 D) := cell_of hP1 1
        go_wp2_with fail
        refine (HP1.out _).mono ?_
        rintro e' w2 ⟨rfl, hb2⟩
        have hP2 := (hb2.block _ (show w.heap.size < w1.heap.size by omega)).trans hP1
        have hb2z := hb2.size
        have hL2 := hL1.trans (hb2.mono (by omega))
        clear hE0 hE1 hP0 hP1 hb1 hb2 hL0 hL1 hPb
        go_wp2_with fail
        go_roundg (gk - 1)
        case measure => omega
        case rel => exact ⟨k + 1, by omega, by go_num, by rw [HTT.out], HN.out, hL2, by omega, hP2⟩
      · rw [hfo] at HH1
        have HA : Hid (es.any (Ge.fo (X, Y) D) = true) := List.any_eq_true.2 ⟨e, hmem, hfo⟩
        clear hfo hmem
        go_wp2_with (simp only [st_complex, st_float]; go_simp)
        generalize wr.alloc (.cells #[.complex .f64 wa wb, .float .f64 sh, .complex .f64 fa fb, .complex .f64 ta tb] 124) = w0 at *
        refine (HH1.out _).mono ?_
        rintro e' w1 ⟨rfl, hb1⟩
        have hL1 := hL0.trans (hb1.mono (by have := hL0.size; omega))
        go_wp2_with fail
        refine bodyPost_ret (v := .tuple #[.int .i64 0, .bool true]) (by simp [results, Tryz.results35, go_sem]) rfl ⟨?_, hL1⟩
        first
          | rfl
          | rw [if_pos HA.out]
    · have hk : k = es.length := by omega
      subst hk
      rw [List.take_length]
      have HA : Hid (¬ es.any (Ge.fo (X, Y) D) = true) := fun h => by
        obtain ⟨e, h1, h2⟩ := List.any_eq_true.1 h
        rw [HNO.out e (by rw [List.take_length]; exact h1)] at h2; cases h2
      clear HR HH HP HT
      go_wp2_with fail
      refine bodyPost_ret (v := .tuple #[.int .i64 (Ge.total (Ge.fr (X, Y) D) es), .bool false]) (by simp [results, Tryz.results35, go_sem]) rfl ⟨?_, hbel⟩
      first
        | rfl
        | rw [if_neg HA.out]

end Go.Proofs.YtkjhhooecopolaaGreatDoor
