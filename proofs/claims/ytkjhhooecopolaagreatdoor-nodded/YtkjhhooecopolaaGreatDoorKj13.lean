import Derived.Test.YtkjhhooecopolaaGreatDoorKj12
import Derived.Test.YtkjhhooecopolaaGreatDoorKj11
import Derived.Deep.RegionHeld3
namespace Go.Proofs.YtkjhhooecopolaaGreatDoor
open Go.RowKit

namespace Pl
def joinT {α : Type} (f : α → List UInt8) : List α → List UInt8
  | [] => []
  | [x] => f x
  | x :: y :: r => f x ++ ([44, 32] ++ joinT f (y :: r))
theorem joinT_snoc {α : Type} (f : α → List UInt8) : ∀ (l : List α) (x : α), joinT f (l ++ [x]) = joinT f l ++ ((if l.length = 0 then [] else [44, 32]) ++ f x)
  | [], x => by simp [joinT]
  | [a], x => by simp [joinT]
  | a :: b :: r, x => by
    have ih := joinT_snoc f (b :: r) x
    show f a ++ ([44, 32] ++ joinT f (b :: r ++ [x])) = _
    rw [ih]
    simp [joinT, List.append_assoc]
def ptT (p : Int × Int) : List UInt8 := Lib.itoa p.1 ++ ([32] ++ Lib.itoa p.2)
def ringT (g : List (Int × Int)) : List UInt8 := [40] ++ (joinT ptT g ++ [41])
def polyT (gs : List (List (Int × Int))) : List UInt8 := if gs.length = 0 then EMPTY else [40] ++ (joinT ringT gs ++ [41])
def bodyT (ps : List (List (List (Int × Int)))) : List UInt8 := if ps.length = 0 then MULTI ++ ([32] ++ EMPTY) else MULTI ++ ([32, 40] ++ (joinT polyT ps ++ [41]))

theorem joinT_len {α : Type} (f : α → List UInt8) (B : Nat) : ∀ (l : List α), (∀ x ∈ l, (f x).length ≤ B) → (joinT f l).length ≤ l.length * (B + 2)
  | [], _ => by simp [joinT]
  | [a], h => by have := h a (by simp); simp [joinT]; omega
  | a :: b :: r, h => by
    have ih := joinT_len f B (b :: r) (fun x hx => h x (by simp [hx]))
    have ha := h a (by simp)
    simp only [joinT, List.length_append, List.length_cons, List.length_nil] at ih ⊢
    rw [Nat.add_mul]
    rw [Nat.add_mul] at ih ⊢
    omega
end Pl

set_option maxRecDepth 100000 in
set_option maxHeartbeats 400000 in
theorem dec_any (n : Int) (w : World) (hG : Gl w) (h1 : -9223372036854775808 ≤ n) (h2 : n ≤ 9223372036854775807) :
    Calls Tryz.prog 88 #[.int .i64 n] w fun e w' => e = .returned (.string ⟨(Lib.itoa n).toArray⟩) ∧ Below w.heap.size w w' := by
  have HI : Hid (∀ w1, Gl w1 → Calls Tryz.prog 146 #[.int .i64 n] w1 fun e w' => e = .returned (.string ⟨(Lib.itoa n).toArray⟩) ∧ Below w1.heap.size w1 w') := fun w1 g1 => by
    refine (Tryz.strconv_Itoa n h1 h2 w1 g1.tab).mono ?_
    rintro e w' ⟨rfl, k, os, rfl⟩
    exact ⟨rfl, Lib.below_grow _ _ (Nat.le_refl _) _ _⟩
  clear h1 h2
  go_enter Tryz.func88, Tryz.ntmps88
  go_wp2_with fail
  refine (HI.out _ hG).mono ?_
  rintro e w1 ⟨rfl, hb⟩
  go_wp2_with fail
  go_ret
  exact ⟨rfl, hb⟩

def okInt (n : Int) : Prop := -50 ≤ n ∧ n ≤ 50
def okRing (g : List (Int × Int)) : Prop := ∀ p ∈ g, okInt p.1 ∧ okInt p.2

theorem pairRow_get : ∀ (g : List (Int × Int)) (k : Nat) (p : Int × Int), g[k]? = some p → (pairRow g)[k * 2]? = some (.int .i64 p.1) ∧ (pairRow g)[k * 2 + 1]? = some (.int .i64 p.2)
  | [], _, _, h => by simp at h
  | q :: r, 0, p, h => by
    simp at h
    subst h
    exact ⟨rfl, rfl⟩
  | q :: r, k + 1, p, h => by
    have ih := pairRow_get r k p (by simpa using h)
    have e : pairRow (q :: r) = .int .i64 q.1 :: .int .i64 q.2 :: pairRow r := rfl
    rw [e]
    exact ⟨by rw [show (k + 1) * 2 = k * 2 + 1 + 1 by omega, List.getElem?_cons_succ, List.getElem?_cons_succ]; exact ih.1, by rw [show (k + 1) * 2 + 1 = k * 2 + 1 + 1 + 1 by omega, List.getElem?_cons_succ, List.getElem?_cons_succ]; exact ih.2⟩

theorem own_get {w : World} {e : TypeId} {size : Nat} {v : Value} {n : Nat} {xs : List Value} (h : w.ownsRow 0 e size v n xs) {o : Nat} {u : Value} (hu : xs[o]? = some u) :
    ∃ b cap, v = .slice (some ⟨b, 0, none⟩) n cap ∧ b < w.heap.size ∧ w.cell? ⟨b, o, none⟩ = some u := by
  obtain ⟨h1, h2⟩ := h
  rcases h2 with ⟨_, h0⟩ | ⟨b, cap, cur, hv, _, hb, _, _, _, ht⟩
  · rw [h0, Nat.zero_mul] at h1
    rw [List.length_eq_zero_iff.1 h1] at hu
    simp at hu
  · refine ⟨b, cap, hv, lt_of_heap hb, ?_⟩
    rw [cell_of hb o, ← Array.getElem?_toList]
    rw [← ht, List.getElem?_take] at hu
    split at hu
    · exact hu
    · cases hu

theorem ptT_len {p : Int × Int} (h1 : okInt p.1) (h2 : okInt p.2) : (Pl.ptT p).length ≤ 43 := by
  have hx1 := Lib.itoa_length_le p.1 (by have := h1.1; omega) (by have := h1.2; omega)
  have hx2 := Lib.itoa_length_le p.2 (by have := h2.1; omega) (by have := h2.2; omega)
  simp [Pl.ptT]
  omega

theorem joinPt_len (g : List (Int × Int)) (hok : okRing g) (k : Nat) : (Pl.joinT Pl.ptT (g.take k)).length ≤ k * 45 := by
  refine Nat.le_trans (Pl.joinT_len Pl.ptT 43 (g.take k) fun p hp => ptT_len (hok p (List.mem_of_mem_take hp)).1 (hok p (List.mem_of_mem_take hp)).2) ?_
  exact Nat.mul_le_mul_right _ (by simp; omega)

set_option maxRecDepth 100000 in
set_option maxHeartbeats 2000000 in
theorem ringText_any (g : List (Int × Int)) (v : Value) (w : World) (hG : Gl w) (hR : RdRing w v g) (hok : okRing g) (hl : g.length ≤ 402) :
    Calls Tryz.prog 59 #[v] w fun e w' => e = .returned (.string ⟨(Pl.ringT g).toArray⟩) ∧ Below w.heap.size w w' := by
  obtain ⟨so, cap, rfl⟩ : ∃ so cap, v = .slice so g.length cap := by
    rcases hR.2 with ⟨hv, h0⟩ | ⟨b, cap, cur, hv, _⟩
    · exact ⟨none, 0, by rw [hv, h0]⟩
    · exact ⟨_, cap, hv⟩
  have HCELL : Hid (∀ (k : Nat) p, g[k]? = some p → ∃ b, so = some ⟨b, 0, none⟩ ∧ b < w.heap.size ∧ w.cell? ⟨b, k * 2, none⟩ = some (.int .i64 p.1) ∧ w.cell? ⟨b, k * 2 + 1, none⟩ = some (.int .i64 p.2)) := fun k p hp => by
    obtain ⟨a0, a1⟩ := pairRow_get g k p hp
    obtain ⟨b, c, hv, hb, c0⟩ := own_get hR a0
    obtain ⟨b', c', hv', hb', c1⟩ := own_get hR a1
    injection hv with hv
    injection hv' with hv'
    rw [hv] at hv'
    injection hv' with hv'
    injection hv' with hv'
    subst hv'
    exact ⟨b, hv, hb, c0, c1⟩
  have HOK : Hid (okRing g) := hok
  have HL : Hid (∀ k, (Pl.joinT Pl.ptT (g.take k)).length ≤ k * 45) := joinPt_len g hok
  clear hR hok
  go_enter Tryz.func59, Tryz.ntmps59
  go_wp2_with fail
  go_loopg [3, 4] g.length (fun n sv iv wr => ∃ k : Nat, k + n = g.length ∧ iv = .int .i64 k ∧ sv = .string ⟨([40] ++ Pl.joinT Pl.ptT (g.take k)).toArray⟩ ∧ Hid (Below w.heap.size w wr ∧ Gl wr))
  case atStart => exact ⟨0, by omega, rfl, rfl, Below.refl _ _, hG⟩
  case round =>
    obtain ⟨k, hkn, rfl, rfl, HB⟩ := hrel
    obtain ⟨hbel, hGr⟩ := HB.out
    by_cases hlt : k < g.length
    · obtain ⟨p, hp⟩ : ∃ p, g[k]? = some p := ⟨_, List.getElem?_eq_getElem hlt⟩
      obtain ⟨b, rfl, hb, e0, e1⟩ := HCELL.out k p hp
      obtain ⟨⟨o1', o2'⟩, o3', o4'⟩ := HOK.out p (List.mem_of_getElem? hp)
      have o1 : -9223372036854775808 ≤ p.1 := by omega
      have o2 : p.1 ≤ 9223372036854775807 := by omega
      have o3 : -9223372036854775808 ≤ p.2 := by omega
      have o4 : p.2 ≤ 9223372036854775807 := by omega
      clear o1' o2' o3' o4'
      have r0 : wr.cell? ⟨b, k * 2, none⟩ = some (.int .i64 p.1) := (hbel.cell (p := ⟨b, k * 2, none⟩) hb).trans e0
      have r1 : wr.cell? ⟨b, k * 2 + 1, none⟩ = some (.int .i64 p.2) := (hbel.cell (p := ⟨b, k * 2 + 1, none⟩) hb).trans e1
      have hbl := HL.out k
      have hbr : b < wr.heap.size := by have := hbel.size; omega
      have hki : (k : Int) < (g.length : Int) := by omega
      have hT : Pl.joinT Pl.ptT (g.take (k + 1)) = Pl.joinT Pl.ptT (g.take k) ++ ((if (g.take k).length = 0 then [] else [44, 32]) ++ Pl.ptT p) := by
        have e : g.take (k + 1) = g.take k ++ [p] := by rw [List.take_succ_eq_append_getElem hlt, (List.getElem?_eq_some_iff.1 hp).2]
        rw [e, Pl.joinT_snoc]
      have HT : Hid (Pl.joinT Pl.ptT (g.take (k + 1)) = Pl.joinT Pl.ptT (g.take k) ++ ((if k = 0 then [] else [44, 32]) ++ Pl.ptT p)) := by
        rw [List.length_take, Nat.min_eq_left (by omega)] at hT; exact hT
      have hx1 := Lib.itoa_length_le p.1 o1 o2
      have hx2 := Lib.itoa_length_le p.2 o3 o4
      have HD1 : Hid (∀ w1, Gl w1 → Calls Tryz.prog 88 #[.int .i64 p.1] w1 fun e w' => e = .returned (.string ⟨(Lib.itoa p.1).toArray⟩) ∧ Below w1.heap.size w1 w') := fun w1 g1 => dec_any p.1 w1 g1 o1 o2
      have HD2 : Hid (∀ w1, Gl w1 → Calls Tryz.prog 88 #[.int .i64 p.2] w1 fun e w' => e = .returned (.string ⟨(Lib.itoa p.2).toArray⟩) ∧ Below w1.heap.size w1 w') := fun w1 g1 => dec_any p.2 w1 g1 o3 o4
      have HPT : Hid (Pl.ptT p = Lib.itoa p.1 ++ ([32] ++ Lib.itoa p.2)) := rfl
      generalize Pl.joinT Pl.ptT (g.take k) = J at *
      generalize Pl.ptT p = PT at *
      generalize Lib.itoa p.1 = X1 at *
      generalize Lib.itoa p.2 = X2 at *
      generalize p.1 = P1 at *
      generalize p.2 = P2 at *
      clear hT hp e0 e1 o1 o2 o3 o4 HOK HCELL HL HB
      have HBEL : Hid (Below w.heap.size w wr) := hbel
      clear hbel
      by_cases hk0 : k = 0
      · have hq0 : decide (0 < (k : Int)) = false := by simp; omega
        have HK0 : Hid (k = 0) := hk0
        have hq1 : decide (0 < k) = false := by simp; omega
        clear hk0
        have hs1 : ¬9223372036854775807 < J.length + 1 + X1.length := by omega
        have hs2 : ¬9223372036854775807 < J.length + 1 + X1.length + 1 := by omega
        have hs3 : ¬9223372036854775807 < J.length + 1 + X1.length + 1 + X2.length := by omega
        go_wp2_with fail
        go_region_held3 (fun w' => w'.cell? ⟨b, k * 2, none⟩ = some (.int .i64 P1) ∧ w'.cell? ⟨b, k * 2 + 1, none⟩ = some (.int .i64 P2)) (go_keep) (first
          | (go_at_call_of 88 (Value.int IntKind.i64 P1); refine (HD1.out _ hGr.drew).mono ?_; rintro e w5 ⟨rfl, hb5⟩; have hG5 := hGr.drew.below hb5 hGr.sz; have q0 := (hb5.cell (p := ⟨b, k * 2, none⟩) hbr).trans r0; have q1 := (hb5.cell (p := ⟨b, k * 2 + 1, none⟩) hbr).trans r1)
          | (go_at_call_of 88 (Value.int IntKind.i64 P2); refine (HD2.out _ hG5).mono ?_; rintro e w6 ⟨rfl, hb6⟩; have s0 := (hb6.cell (p := ⟨b, k * 2, none⟩) (Nat.lt_of_lt_of_le hbr hb5.size)).trans q0; have s1 := (hb6.cell (p := ⟨b, k * 2 + 1, none⟩) (Nat.lt_of_lt_of_le hbr hb5.size)).trans q1))
        go_wp2_with fail
        go_roundg (gk - 1)
        case measure => omega
        case rel =>
          refine ⟨k + 1, by omega, by go_num, ?_, ?_⟩
          · rw [HT.out, HPT.out, if_pos HK0.out]
            simp [ByteArray.mk_append_mk]
          · exact ⟨(HBEL.out.drew.trans (hb5.mono HBEL.out.size)).trans (hb6.mono (Nat.le_trans HBEL.out.size hb5.size)), hG5.below hb6 hG5.sz⟩
      · have hq0 : decide (0 < (k : Int)) = true := by simp; omega
        have HK0 : Hid (¬ k = 0) := hk0
        have hq1 : decide (0 < k) = true := by simp; omega
        clear hk0
        have hs0 : ¬9223372036854775807 < J.length + 1 + 2 := by omega
        have hs1 : ¬9223372036854775807 < J.length + 1 + 2 + X1.length := by omega
        have hs2 : ¬9223372036854775807 < J.length + 1 + 2 + X1.length + 1 := by omega
        have hs3 : ¬9223372036854775807 < J.length + 1 + 2 + X1.length + 1 + X2.length := by omega
        go_wp2_with fail
        go_region_held3 (fun w' => w'.cell? ⟨b, k * 2, none⟩ = some (.int .i64 P1) ∧ w'.cell? ⟨b, k * 2 + 1, none⟩ = some (.int .i64 P2)) (go_keep) (first
          | (go_at_call_of 88 (Value.int IntKind.i64 P1); refine (HD1.out _ hGr.drew).mono ?_; rintro e w5 ⟨rfl, hb5⟩; have hG5 := hGr.drew.below hb5 hGr.sz; have q0 := (hb5.cell (p := ⟨b, k * 2, none⟩) hbr).trans r0; have q1 := (hb5.cell (p := ⟨b, k * 2 + 1, none⟩) hbr).trans r1)
          | (go_at_call_of 88 (Value.int IntKind.i64 P2); refine (HD2.out _ hG5).mono ?_; rintro e w6 ⟨rfl, hb6⟩; have s0 := (hb6.cell (p := ⟨b, k * 2, none⟩) (Nat.lt_of_lt_of_le hbr hb5.size)).trans q0; have s1 := (hb6.cell (p := ⟨b, k * 2 + 1, none⟩) (Nat.lt_of_lt_of_le hbr hb5.size)).trans q1))
        go_wp2_with fail
        go_roundg (gk - 1)
        case measure => omega
        case rel =>
          refine ⟨k + 1, by omega, by go_num, ?_, ?_⟩
          · rw [HT.out, HPT.out, if_neg HK0.out]
            simp [ByteArray.mk_append_mk]
          · exact ⟨(HBEL.out.drew.trans (hb5.mono HBEL.out.size)).trans (hb6.mono (Nat.le_trans HBEL.out.size hb5.size)), hG5.below hb6 hG5.sz⟩
    · have hk : k = g.length := by omega
      subst hk
      have hbl := HL.out g.length
      rw [List.take_length] at hbl
      rw [List.take_length]
      have HRT : Hid (Pl.ringT g = [40] ++ (Pl.joinT Pl.ptT g ++ [41])) := rfl
      generalize Pl.joinT Pl.ptT g = J at *
      have hs1 : ¬9223372036854775807 < J.length + 1 + 1 := by omega
      clear HL HOK HCELL
      go_wp2_with fail
      go_ret
      exact ⟨by rw [HRT.out]; simp [ByteArray.mk_append_mk], hbel⟩

end Go.Proofs.YtkjhhooecopolaaGreatDoor

namespace Go.Proofs.YtkjhhooecopolaaGreatDoor
open Go.RowKit

theorem keeps_below {α : Type} {ts : List Nat} {R : World → Value → α → Prop} (hR : Keeps ts R) {w w' : World} {v : Value} {x : α} (h : R w v x) (hb : Below w.heap.size w w') : R w' v x :=
  hR w w' v x h fun k _ _ hc _ => hb.block k (lt_of_heap hc)

def okPoly (gs : List (List (Int × Int))) : Prop := gs.length ≤ 402 ∧ ∀ g ∈ gs, okRing g ∧ g.length ≤ 402

theorem ringT_len {g : List (Int × Int)} (h : okRing g) (hl : g.length ≤ 402) : (Pl.ringT g).length ≤ 18100 := by
  have := joinPt_len g h g.length
  rw [List.take_length] at this
  simp [Pl.ringT]
  omega

theorem joinRing_len (gs : List (List (Int × Int))) (hok : okPoly gs) (k : Nat) : (Pl.joinT Pl.ringT (gs.take k)).length ≤ k * 18102 := by
  refine Nat.le_trans (Pl.joinT_len Pl.ringT 18100 (gs.take k) fun p hp => ringT_len (hok.2 p (List.mem_of_mem_take hp)).1 (hok.2 p (List.mem_of_mem_take hp)).2) ?_
  exact Nat.mul_le_mul_right _ (by simp; omega)

theorem polyT_len {gs : List (List (Int × Int))} (h : okPoly gs) : (Pl.polyT gs).length ≤ 7300000 := by
  have := joinRing_len gs h gs.length
  rw [List.take_length] at this
  have := h.1
  unfold Pl.polyT
  split
  · decide
  · simp
    omega

theorem rdRing_slice {w : World} {v : Value} {g : List (Int × Int)} (h : RdRing w v g) : ∃ so cap, v = .slice so g.length cap := by
  rcases h.2 with ⟨hv, h0⟩ | ⟨b, cap, cur, hv, _⟩
  · exact ⟨none, 0, by rw [hv, h0]⟩
  · exact ⟨_, cap, hv⟩
theorem rdRow_slice {α : Type} {T : Nat} {R : World → Value → α → Prop} {w : World} {v : Value} {xs : List α} (h : RdRow T R w v xs) : ∃ so cap, v = .slice so xs.length cap := by
  obtain ⟨vs, _, h, _⟩ := h
  rcases h.2 with ⟨hv, h0⟩ | ⟨b, cap, cur, hv, _⟩
  · exact ⟨none, 0, by rw [hv, h0]⟩
  · exact ⟨_, cap, hv⟩
theorem rdRow_get {α : Type} {T : Nat} {R : World → Value → α → Prop} {w : World} {so : Option Addr} {n cap : Nat} {xs : List α} (h : RdRow T R w (.slice so n cap) xs) {k : Nat} {x : α} (hx : xs[k]? = some x) :
    ∃ b u, so = some ⟨b, 0, none⟩ ∧ b < w.heap.size ∧ w.cell? ⟨b, k, none⟩ = some u ∧ R w u x := by
  obtain ⟨vs, hl, ho, hr⟩ := h
  have hk : k < vs.length := by rw [hl]; exact (List.getElem?_eq_some_iff.1 hx).1
  obtain ⟨u, hu⟩ : ∃ u, vs[k]? = some u := ⟨_, List.getElem?_eq_getElem hk⟩
  obtain ⟨b, c, hv, hb, hc⟩ := own_get ho hu
  injection hv with hv
  exact ⟨b, u, hv, hb, hc, hr k u x hu hx⟩

theorem joinT_take {α : Type} (f : α → List UInt8) {g : List α} {k : Nat} {p : α} (hp : g[k]? = some p) :
    Pl.joinT f (g.take (k + 1)) = Pl.joinT f (g.take k) ++ ((if k = 0 then [] else [44, 32]) ++ f p) := by
  obtain ⟨hlt, hp'⟩ := List.getElem?_eq_some_iff.1 hp
  have e : g.take (k + 1) = g.take k ++ [p] := by rw [List.take_succ_eq_append_getElem hlt, hp']
  rw [e, Pl.joinT_snoc, List.length_take, Nat.min_eq_left (by omega)]

set_option maxRecDepth 100000 in
set_option maxHeartbeats 2000000 in
theorem polyText_any (gs : List (List (Int × Int))) (v : Value) (w : World) (hG : Gl w) (hR : RdPoly w v gs) (hok : okPoly gs) :
    Calls Tryz.prog 32 #[v] w fun e w' => e = .returned (.string ⟨(Pl.polyT gs).toArray⟩) ∧ Below w.heap.size w w' := by
  obtain ⟨so, cap, rfl⟩ := rdRow_slice hR
  have HR : Hid (RdPoly w (.slice so gs.length cap) gs) := hR
  have HOK : Hid (okPoly gs) := hok
  have HL : Hid (∀ k, (Pl.joinT Pl.ringT (gs.take k)).length ≤ k * 18102) := joinRing_len gs hok
  have hl : gs.length ≤ 402 := hok.1
  clear hR hok
  go_enter Tryz.func32, Tryz.ntmps32
  by_cases hz : gs.length = 0
  · have HZ : Hid (gs.length = 0) := hz
    have hq : (gs.length : Int) = 0 := by omega
    clear hz
    go_wp2_with fail
    go_ret
    exact ⟨by unfold Pl.polyT; rw [if_pos HZ.out]; rfl, Below.refl _ _⟩
  · have HZ : Hid (¬ gs.length = 0) := hz
    have hq : ((gs.length : Int) == 0) = false := beq_eq_false_iff_ne.2 (by omega)
    clear hz
    go_wp2_with fail
    go_loopg [3, 4] gs.length (fun n sv iv wr => ∃ k : Nat, k + n = gs.length ∧ iv = .int .i64 k ∧ sv = .string ⟨([40] ++ Pl.joinT Pl.ringT (gs.take k)).toArray⟩ ∧ Hid (Below w.heap.size w wr ∧ Gl wr))
    case atStart => exact ⟨0, by omega, rfl, rfl, Below.refl _ _, hG⟩
    case round =>
      obtain ⟨k, hkn, rfl, rfl, HB⟩ := hrel
      obtain ⟨hbel, hGr⟩ := HB.out
      by_cases hlt : k < gs.length
      · obtain ⟨p, hp⟩ : ∃ p, gs[k]? = some p := ⟨_, List.getElem?_eq_getElem hlt⟩
        obtain ⟨b, u, rfl, hb, e0, hru⟩ := rdRow_get HR.out hp
        obtain ⟨us, uc, rfl⟩ := rdRing_slice hru
        obtain ⟨o1, o2⟩ := HOK.out.2 p (List.mem_of_getElem? hp)
        have r0 : wr.cell? ⟨b, k, none⟩ = some (.slice us p.length uc) := (hbel.cell (p := ⟨b, k, none⟩) hb).trans e0
        have HRT : Hid (Calls Tryz.prog 59 #[.slice us p.length uc] wr fun e w' => e = .returned (.string ⟨(Pl.ringT p).toArray⟩) ∧ Below wr.heap.size wr w') := ringText_any p _ wr hGr (keeps_below keeps_ring hru hbel) o1 o2
        have hxl := ringT_len o1 o2
        have hbl := HL.out k
        have hbr : b < wr.heap.size := by have := hbel.size; omega
        have hki : (k : Int) < (gs.length : Int) := by omega
        have HT : Hid (Pl.joinT Pl.ringT (gs.take (k + 1)) = Pl.joinT Pl.ringT (gs.take k) ++ ((if k = 0 then [] else [44, 32]) ++ Pl.ringT p)) := joinT_take Pl.ringT hp
        generalize Pl.joinT Pl.ringT (gs.take k) = J at *
        generalize Pl.ringT p = X1 at *
        generalize p.length = PN at *
        clear hp e0 hru o1 o2 HOK HL HB HR
        have HBEL : Hid (Below w.heap.size w wr) := hbel
        clear hbel
        by_cases hk0 : k = 0
        · have hq0 : decide (0 < (k : Int)) = false := by simp; omega
          have HK0 : Hid (k = 0) := hk0
          have hq1 : decide (0 < k) = false := by simp; omega
          clear hk0
          have hs1 : ¬9223372036854775807 < J.length + 1 + X1.length := by omega
          go_wp2_with fail
          refine HRT.out.mono ?_
          rintro e w5 ⟨rfl, hb5⟩
          go_wp2_with fail
          go_roundg (gk - 1)
          case measure => omega
          case rel =>
            refine ⟨k + 1, by omega, by go_num, ?_, ?_⟩
            · rw [HT.out, if_pos HK0.out]
              simp [ByteArray.mk_append_mk]
            · exact ⟨HBEL.out.trans (hb5.mono HBEL.out.size), hGr.below hb5 hGr.sz⟩
        · have hq0 : decide (0 < (k : Int)) = true := by simp; omega
          have HK0 : Hid (¬ k = 0) := hk0
          have hq1 : decide (0 < k) = true := by simp; omega
          clear hk0
          have hs0 : ¬9223372036854775807 < J.length + 1 + 2 := by omega
          have hs1 : ¬9223372036854775807 < J.length + 1 + 2 + X1.length := by omega
          go_wp2_with fail
          refine HRT.out.mono ?_
          rintro e w5 ⟨rfl, hb5⟩
          go_wp2_with fail
          go_roundg (gk - 1)
          case measure => omega
          case rel =>
            refine ⟨k + 1, by omega, by go_num, ?_, ?_⟩
            · rw [HT.out, if_neg HK0.out]
              simp [ByteArray.mk_append_mk]
            · exact ⟨HBEL.out.trans (hb5.mono HBEL.out.size), hGr.below hb5 hGr.sz⟩
      · have hk : k = gs.length := by omega
        subst hk
        have hbl := HL.out gs.length
        rw [List.take_length] at hbl
        rw [List.take_length]
        have HRT : Hid (Pl.polyT gs = [40] ++ (Pl.joinT Pl.ringT gs ++ [41])) := if_neg HZ.out
        generalize Pl.joinT Pl.ringT gs = J at *
        have hs1 : ¬9223372036854775807 < J.length + 1 + 1 := by omega
        clear HL HOK HR
        go_wp2_with fail
        go_ret
        exact ⟨by rw [HRT.out]; simp [ByteArray.mk_append_mk], hbel⟩

end Go.Proofs.YtkjhhooecopolaaGreatDoor

namespace Go.Proofs.YtkjhhooecopolaaGreatDoor
open Go.RowKit

def okMulti (ps : List (List (List (Int × Int)))) : Prop := ps.length ≤ 402 ∧ ∀ gs ∈ ps, okPoly gs

theorem joinPoly_len (ps : List (List (List (Int × Int)))) (hok : okMulti ps) (k : Nat) : (Pl.joinT Pl.polyT (ps.take k)).length ≤ k * 7300002 := by
  refine Nat.le_trans (Pl.joinT_len Pl.polyT 7300000 (ps.take k) fun p hp => polyT_len (hok.2 p (List.mem_of_mem_take hp))) ?_
  exact Nat.mul_le_mul_right _ (by simp; omega)

set_option maxRecDepth 100000 in
set_option maxHeartbeats 2000000 in
theorem written_poly (gs : List (List (Int × Int))) (pv : Value) (w : World) (hG : Gl w) (hR : RdMulti w pv [gs]) (hok : okPoly gs) :
    Calls Tryz.prog 15 #[.agg #[.string ⟨Pl.POLYGON.toArray⟩, pv, .int .i64 0]] w fun e w' => e = .returned (.string ⟨(Pl.POLYGON ++ ([32] ++ Pl.polyT gs)).toArray⟩) ∧ Below w.heap.size w w' := by
  obtain ⟨so, cap, rfl⟩ := rdRow_slice hR
  obtain ⟨b, u, rfl, hb, e0, hru⟩ := rdRow_get (k := 0) hR rfl
  obtain ⟨us, uc, rfl⟩ := rdRow_slice hru
  have HP : Hid (∀ w1, Below w.heap.size w w1 → Gl w1 → Calls Tryz.prog 32 #[.slice us gs.length uc] w1 fun e w' => e = .returned (.string ⟨(Pl.polyT gs).toArray⟩) ∧ Below w1.heap.size w1 w') := fun w1 hb1 g1 => polyText_any gs _ w1 g1 (keeps_below keeps_poly hru hb1) hok
  have hxl := polyT_len hok
  have HPO : Hid (Pl.POLYGON = [80, 79, 76, 89, 71, 79, 78]) := rfl
  clear hR hru hok
  generalize Pl.polyT gs = X at *
  generalize gs.length = GN at *
  simp only [List.length_cons, List.length_nil, Nat.zero_add, show Pl.POLYGON = [80, 79, 76, 89, 71, 79, 78] from rfl]
  go_enter Tryz.func15, Tryz.ntmps15
  have hs1 : ¬9223372036854775807 < 8 + X.length := by omega
  have hb0 : Below w.heap.size w (w.alloc (.cells #[.string ⟨#[80, 79, 76, 89, 71, 79, 78]⟩, .slice (some ⟨b, 0, none⟩) 1 cap, .int .i64 0] 29)) := (Below.refl _ _).alloc (Nat.le_refl _) _
  go_wp2_with fail
  refine (HP.out _ hb0 (hG.alloc _)).mono ?_
  rintro e w1 ⟨rfl, hb1⟩
  go_wp2_with fail
  go_ret
  exact ⟨by simp [ByteArray.mk_append_mk], hb0.trans (hb1.mono hb0.size)⟩

set_option maxRecDepth 100000 in
set_option maxHeartbeats 2000000 in
theorem written_multi (ps : List (List (List (Int × Int)))) (pv : Value) (w : World) (hG : Gl w) (hR : RdMulti w pv ps) (hok : okMulti ps) :
    Calls Tryz.prog 15 #[.agg #[.string ⟨Pl.MULTI.toArray⟩, pv, .int .i64 0]] w fun e w' => e = .returned (.string ⟨(Pl.bodyT ps).toArray⟩) ∧ Below w.heap.size w w' := by
  obtain ⟨so, cap, rfl⟩ := rdRow_slice hR
  have HR : Hid (RdMulti w (.slice so ps.length cap) ps) := hR
  have HOK : Hid (okMulti ps) := hok
  have HL : Hid (∀ k, (Pl.joinT Pl.polyT (ps.take k)).length ≤ k * 7300002) := joinPoly_len ps hok
  have hl : ps.length ≤ 402 := hok.1
  clear hR hok
  simp only [show Pl.MULTI = [77, 85, 76, 84, 73, 80, 79, 76, 89, 71, 79, 78] from rfl]
  have hb0 : Below w.heap.size w (w.alloc (.cells #[.string ⟨#[77, 85, 76, 84, 73, 80, 79, 76, 89, 71, 79, 78]⟩, .slice so ps.length cap, .int .i64 0] 29)) := (Below.refl _ _).alloc (Nat.le_refl _) _
  have HB0 : Hid (Below w.heap.size w (w.alloc (.cells #[.string ⟨#[77, 85, 76, 84, 73, 80, 79, 76, 89, 71, 79, 78]⟩, .slice so ps.length cap, .int .i64 0] 29))) := hb0
  clear hb0
  go_enter Tryz.func15, Tryz.ntmps15
  by_cases hz : ps.length = 0
  · have HZ : Hid (ps.length = 0) := hz
    have hq : ((ps.length : Int) == 0) = true := beq_iff_eq.2 (by omega)
    clear hz
    go_wp2_with fail
    go_ret
    exact ⟨by unfold Pl.bodyT; rw [if_pos HZ.out]; rfl, HB0.out⟩
  · have HZ : Hid (¬ ps.length = 0) := hz
    have hq : ((ps.length : Int) == 0) = false := beq_eq_false_iff_ne.2 (by omega)
    clear hz
    go_wp2_with fail
    go_loopg [4, 5] ps.length (fun n sv iv wr => ∃ k : Nat, k + n = ps.length ∧ iv = .int .i64 k ∧ sv = .string ⟨([77, 85, 76, 84, 73, 80, 79, 76, 89, 71, 79, 78, 32, 40] ++ Pl.joinT Pl.polyT (ps.take k)).toArray⟩ ∧ Hid (Below w.heap.size w wr ∧ Gl wr ∧ w.heap.size < wr.heap.size ∧ wr.heap[w.heap.size]? = some (.cells #[.string ⟨#[77, 85, 76, 84, 73, 80, 79, 76, 89, 71, 79, 78]⟩, .slice so ps.length cap, .int .i64 0] 29)))
    case atStart => exact ⟨0, by omega, rfl, rfl, HB0.out, hG.alloc _, by simp, heap_alloc_new _ _⟩
    case round =>
      obtain ⟨k, hkn, rfl, rfl, HB⟩ := hrel
      obtain ⟨hbel, hGr, hwz, hbx⟩ := HB.out
      have c1 : wr.cell? ⟨w.heap.size, 1, none⟩ = some (.slice so ps.length cap) := cell_of hbx 1
      by_cases hlt : k < ps.length
      · obtain ⟨p, hp⟩ : ∃ p, ps[k]? = some p := ⟨_, List.getElem?_eq_getElem hlt⟩
        obtain ⟨b, u, rfl, hb, e0, hru⟩ := rdRow_get HR.out hp
        obtain ⟨us, uc, rfl⟩ := rdRow_slice hru
        have o1 := HOK.out.2 p (List.mem_of_getElem? hp)
        have r0 : wr.cell? ⟨b, k, none⟩ = some (.slice us p.length uc) := (hbel.cell (p := ⟨b, k, none⟩) hb).trans e0
        have HRT : Hid (Calls Tryz.prog 32 #[.slice us p.length uc] wr fun e w' => e = .returned (.string ⟨(Pl.polyT p).toArray⟩) ∧ Below wr.heap.size wr w') := polyText_any p _ wr hGr (keeps_below keeps_poly hru hbel) o1
        have hxl := polyT_len o1
        have hbl := HL.out k
        have hbr : b < wr.heap.size := by have := hbel.size; omega
        have hki : (k : Int) < (ps.length : Int) := by omega
        have HT : Hid (Pl.joinT Pl.polyT (ps.take (k + 1)) = Pl.joinT Pl.polyT (ps.take k) ++ ((if k = 0 then [] else [44, 32]) ++ Pl.polyT p)) := joinT_take Pl.polyT hp
        generalize Pl.joinT Pl.polyT (ps.take k) = J at *
        generalize Pl.polyT p = X1 at *
        generalize p.length = PN at *
        clear hp e0 hru o1 HOK HL HR hbx
        have HBEL : Hid (Below w.heap.size w wr) := hbel
        clear hbel
        by_cases hk0 : k = 0
        · have hq0 : decide (0 < (k : Int)) = false := by simp; omega
          have HK0 : Hid (k = 0) := hk0
          have hq1 : decide (0 < k) = false := by simp; omega
          clear hk0
          have hs1 : ¬9223372036854775807 < J.length + 14 + X1.length := by omega
          go_wp2_with fail
          refine HRT.out.mono ?_
          rintro e w5 ⟨rfl, hb5⟩
          go_wp2_with fail
          go_roundg (gk - 1)
          case measure => omega
          case rel =>
            refine ⟨k + 1, by omega, by go_num, ?_, ?_⟩
            · rw [HT.out, if_pos HK0.out]
              simp [ByteArray.mk_append_mk]
            · exact ⟨HBEL.out.trans (hb5.mono HBEL.out.size), hGr.below hb5 hGr.sz, Nat.lt_of_lt_of_le hwz hb5.size, (hb5.block _ hwz).trans HB.out.2.2.2⟩
        · have hq0 : decide (0 < (k : Int)) = true := by simp; omega
          have HK0 : Hid (¬ k = 0) := hk0
          have hq1 : decide (0 < k) = true := by simp; omega
          clear hk0
          have hs0 : ¬9223372036854775807 < J.length + 14 + 2 := by omega
          have hs1 : ¬9223372036854775807 < J.length + 14 + 2 + X1.length := by omega
          go_wp2_with fail
          refine HRT.out.mono ?_
          rintro e w5 ⟨rfl, hb5⟩
          go_wp2_with fail
          go_roundg (gk - 1)
          case measure => omega
          case rel =>
            refine ⟨k + 1, by omega, by go_num, ?_, ?_⟩
            · rw [HT.out, if_neg HK0.out]
              simp [ByteArray.mk_append_mk]
            · exact ⟨HBEL.out.trans (hb5.mono HBEL.out.size), hGr.below hb5 hGr.sz, Nat.lt_of_lt_of_le hwz hb5.size, (hb5.block _ hwz).trans HB.out.2.2.2⟩
      · have hk : k = ps.length := by omega
        subst hk
        have hbl := HL.out ps.length
        rw [List.take_length] at hbl
        rw [List.take_length]
        have HRT : Hid (Pl.bodyT ps = Pl.MULTI ++ ([32, 40] ++ (Pl.joinT Pl.polyT ps ++ [41]))) := if_neg HZ.out
        generalize Pl.joinT Pl.polyT ps = J at *
        have hs1 : ¬9223372036854775807 < J.length + 14 + 1 := by omega
        clear HL HOK HR
        go_wp2_with fail
        go_ret
        exact ⟨by rw [HRT.out]; simp [ByteArray.mk_append_mk, Pl.MULTI], hbel⟩

end Go.Proofs.YtkjhhooecopolaaGreatDoor
