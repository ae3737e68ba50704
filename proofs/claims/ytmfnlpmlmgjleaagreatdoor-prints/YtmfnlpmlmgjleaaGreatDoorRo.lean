import Derived.Test.YtmfnlpmlmgjleaaGreatDoorRn
namespace Go.Proofs.YtmfnlpmlmgjleaaGreatDoor
open Go.RowKit

theorem keeps_below {α : Type} {ts : List Nat} {R : World → Value → α → Prop} (hR : Keeps ts R) {w w' : World} {v : Value} {x : α} (h : R w v x) (hb : Below w.heap.size w w') : R w' v x :=
  hR w w' v x h fun k _ _ hc _ => hb.block k (lt_of_heap hc)

def okPoly (gs : List (List (Int × Int))) : Prop := gs.length ≤ 402 ∧ ∀ g ∈ gs, okRing g ∧ g.length ≤ 402

theorem ringT_len {g : List (Int × Int)} (h : okRing g) (hl : g.length ≤ 402) : (Pl.ringT g).length ≤ 18100 := by
  have := joinPt_len g h g.length
  rw [List.take_length] at this
  simp [Pl.ringT]
  omega

theorem joinRing_len (gs : List (List (Int × Int))) (hok : okPoly gs) (k : Nat) : (Pl.joinT Pl.ringT (gs.take k)).length ≤ k * 18102 := by
  refine Nat.le_trans (Pl.joinT_len Pl.ringT 18100 (gs.take k) fun p hp => ringT_len (hok.2 p (List.mem_of_mem_take hp)).1 (hok.2 p (List.mem_of_mem_take hp)).2) ?_
  exact Nat.mul_le_mul_right _ (by simp; omega)

theorem polyT_len {gs : List (List (Int × Int))} (h : okPoly gs) : (Pl.polyT gs).length ≤ 7300000 := by
  have := joinRing_len gs h gs.length
  rw [List.take_length] at this
  have := h.1
  unfold Pl.polyT
  split
  · decide
  · simp
    omega

theorem rdRing_slice {w : World} {v : Value} {g : List (Int × Int)} (h : RdRing w v g) : ∃ so cap, v = .slice so g.length cap := by
  rcases h.2 with ⟨hv, h0⟩ | ⟨b, cap, cur, hv, _⟩
  · exact ⟨none, 0, by rw [hv, h0]⟩
  · exact ⟨_, cap, hv⟩
theorem rdRow_slice {α : Type} {T : Nat} {R : World → Value → α → Prop} {w : World} {v : Value} {xs : List α} (h : RdRow T R w v xs) : ∃ so cap, v = .slice so xs.length cap := by
  obtain ⟨vs, _, h, _⟩ := h
  rcases h.2 with ⟨hv, h0⟩ | ⟨b, cap, cur, hv, _⟩
  · exact ⟨none, 0, by rw [hv, h0]⟩
  · exact ⟨_, cap, hv⟩
theorem rdRow_get {α : Type} {T : Nat} {R : World → Value → α → Prop} {w : World} {so : Option Addr} {n cap : Nat} {xs : List α} (h : RdRow T R w (.slice so n cap) xs) {k : Nat} {x : α} (hx : xs[k]? = some x) :
    ∃ b u, so = some ⟨b, 0, none⟩ ∧ b < w.heap.size ∧ w.cell? ⟨b, k, none⟩ = some u ∧ R w u x := by
  obtain ⟨vs, hl, ho, hr⟩ := h
  have hk : k < vs.length := by rw [hl]; exact (List.getElem?_eq_some_iff.1 hx).1
  obtain ⟨u, hu⟩ : ∃ u, vs[k]? = some u := ⟨_, List.getElem?_eq_getElem hk⟩
  obtain ⟨b, c, hv, hb, hc⟩ := own_get ho hu
  injection hv with hv
  exact ⟨b, u, hv, hb, hc, hr k u x hu hx⟩

theorem joinT_take {α : Type} (f : α → List UInt8) {g : List α} {k : Nat} {p : α} (hp : g[k]? = some p) :
    Pl.joinT f (g.take (k + 1)) = Pl.joinT f (g.take k) ++ ((if k = 0 then [] else [44, 32]) ++ f p) := by
  obtain ⟨hlt, hp'⟩ := List.getElem?_eq_some_iff.1 hp
  have e : g.take (k + 1) = g.take k ++ [p] := by rw [List.take_succ_eq_append_getElem hlt, hp']
  rw [e, Pl.joinT_snoc, List.length_take, Nat.min_eq_left (by omega)]

set_option maxRecDepth 100000 in
set_option maxHeartbeats 2000000 in
theorem polyText_any (gs : List (List (Int × Int))) (v : Value) (w : World) (hG : Gl w) (hR : RdPoly w v gs) (hok : okPoly gs) :
    Calls Tryz.prog 42 #[v] w fun e w' => e = .returned (.string ⟨(Pl.polyT gs).toArray⟩) ∧ Below w.heap.size w w' := by
  obtain ⟨so, cap, rfl⟩ := rdRow_slice hR
  have HR : Hid (RdPoly w (.slice so gs.length cap) gs) := hR
  have HOK : Hid (okPoly gs) := hok
  have HL : Hid (∀ k, (Pl.joinT Pl.ringT (gs.take k)).length ≤ k * 18102) := joinRing_len gs hok
  have hl : gs.length ≤ 402 := hok.1
  clear hR hok
  go_enter Tryz.func42, Tryz.ntmps42
  by_cases hz : gs.length = 0
  · have HZ : Hid (gs.length = 0) := hz
    have hq : (gs.length : Int) = 0 := by omega
    clear hz
    go_wp2_with fail
    go_ret
    exact ⟨by unfold Pl.polyT; rw [if_pos HZ.out]; rfl, Below.refl _ _⟩
  · have HZ : Hid (¬ gs.length = 0) := hz
    have hq : ((gs.length : Int) == 0) = false := beq_eq_false_iff_ne.2 (by omega)
    clear hz
    go_wp2_with fail
    go_loopg [3, 4] gs.length (fun n sv iv wr => ∃ k : Nat, k + n = gs.length ∧ iv = .int .i64 k ∧ sv = .string ⟨([40] ++ Pl.joinT Pl.ringT (gs.take k)).toArray⟩ ∧ Hid (Below w.heap.size w wr ∧ Gl wr))
    case atStart => exact ⟨0, by omega, rfl, rfl, Below.refl _ _, hG⟩
    case round =>
      obtain ⟨k, hkn, rfl, rfl, HB⟩ := hrel
      obtain ⟨hbel, hGr⟩ := HB.out
      by_cases hlt : k < gs.length
      · obtain ⟨p, hp⟩ : ∃ p, gs[k]? = some p := ⟨_, List.getElem?_eq_getElem hlt⟩
        obtain ⟨b, u, rfl, hb, e0, hru⟩ := rdRow_get HR.out hp
        obtain ⟨us, uc, rfl⟩ := rdRing_slice hru
        obtain ⟨o1, o2⟩ := HOK.out.2 p (List.mem_of_getElem? hp)
        have r0 : wr.cell? ⟨b, k, none⟩ = some (.slice us p.length uc) := (hbel.cell (p := ⟨b, k, none⟩) hb).trans e0
        have HRT : Hid (Calls Tryz.prog 72 #[.slice us p.length uc] wr fun e w' => e = .returned (.string ⟨(Pl.ringT p).toArray⟩) ∧ Below wr.heap.size wr w') := ringText_any p _ wr hGr (keeps_below keeps_ring hru hbel) o1 o2
        have hxl := ringT_len o1 o2
        have hbl := HL.out k
        have hbr : b < wr.heap.size := by have := hbel.size; omega
        have hki : (k : Int) < (gs.length : Int) := by omega
        have HT : Hid (Pl.joinT Pl.ringT (gs.take (k + 1)) = Pl.joinT Pl.ringT (gs.take k) ++ ((if k = 0 then [] else [44, 32]) ++ Pl.ringT p)) := joinT_take Pl.ringT hp
        generalize Pl.joinT Pl.ringT (gs.take k) = J at *
        generalize Pl.ringT p = X1 at *
        generalize p.length = PN at *
        clear hp e0 hru o1 o2 HOK HL HB HR
        have HBEL : Hid (Below w.heap.size w wr) := hbel
        clear hbel
        by_cases hk0 : k = 0
        · have hq0 : decide (0 < (k : Int)) = false := by simp; omega
          have HK0 : Hid (k = 0) := hk0
          have hq1 : decide (0 < k) = false := by simp; omega
          clear hk0
          have hs1 : ¬9223372036854775807 < J.length + 1 + X1.length := by omega
          go_wp2_with fail
          refine HRT.out.mono ?_
          rintro e w5 ⟨rfl, hb5⟩
          go_wp2_with fail
          go_roundg (gk - 1)
          case measure => omega
          case rel =>
            refine ⟨k + 1, by omega, by go_num, ?_, ?_⟩
            · rw [HT.out, if_pos HK0.out]
              simp [ByteArray.mk_append_mk]
            · exact ⟨HBEL.out.trans (hb5.mono HBEL.out.size), hGr.below hb5 hGr.sz⟩
        · have hq0 : decide (0 < (k : Int)) = true := by simp; omega
          have HK0 : Hid (¬ k = 0) := hk0
          have hq1 : decide (0 < k) = true := by simp; omega
          clear hk0
          have hs0 : ¬9223372036854775807 < J.length + 1 + 2 := by omega
          have hs1 : ¬9223372036854775807 < J.length + 1 + 2 + X1.length := by omega
          go_wp2_with fail
          refine HRT.out.mono ?_
          rintro e w5 ⟨rfl, hb5⟩
          go_wp2_with fail
          go_roundg (gk - 1)
          case measure => omega
          case rel =>
            refine ⟨k + 1, by omega, by go_num, ?_, ?_⟩
            · rw [HT.out, if_neg HK0.out]
              simp [ByteArray.mk_append_mk]
            · exact ⟨HBEL.out.trans (hb5.mono HBEL.out.size), hGr.below hb5 hGr.sz⟩
      · have hk : k = gs.length := by omega
        subst hk
        have hbl := HL.out gs.length
        rw [List.take_length] at hbl
        rw [List.take_length]
        have HRT : Hid (Pl.polyT gs = [40] ++ (Pl.joinT Pl.ringT gs ++ [41])) := if_neg HZ.out
        generalize Pl.joinT Pl.ringT gs = J at *
        have hs1 : ¬9223372036854775807 < J.length + 1 + 1 := by omega
        clear HL HOK HR
        go_wp2_with fail
        go_ret
        exact ⟨by rw [HRT.out]; simp [ByteArray.mk_append_mk], hbel⟩

end Go.Proofs.YtmfnlpmlmgjleaaGreatDoor
