import Derived.Test.YtmfnlpmlmgjleaaGreatDoorRo
namespace Go.Proofs.YtmfnlpmlmgjleaaGreatDoor
open Go.RowKit

def okMulti (ps : List (List (List (Int × Int)))) : Prop := ps.length ≤ 402 ∧ ∀ gs ∈ ps, okPoly gs

theorem joinPoly_len (ps : List (List (List (Int × Int)))) (hok : okMulti ps) (k : Nat) : (Pl.joinT Pl.polyT (ps.take k)).length ≤ k * 7300002 := by
  refine Nat.le_trans (Pl.joinT_len Pl.polyT 7300000 (ps.take k) fun p hp => polyT_len (hok.2 p (List.mem_of_mem_take hp))) ?_
  exact Nat.mul_le_mul_right _ (by simp; omega)

set_option maxRecDepth 100000 in
set_option maxHeartbeats 2000000 in
theorem written_poly (gs : List (List (Int × Int))) (pv : Value) (w : World) (hG : Gl w) (hR : RdMulti w pv [gs]) (hok : okPoly gs) :
    Calls Tryz.prog 18 #[.agg #[.string ⟨Pl.POLYGON.toArray⟩, pv, .int .i64 0]] w fun e w' => e = .returned (.string ⟨(Pl.POLYGON ++ ([32] ++ Pl.polyT gs)).toArray⟩) ∧ Below w.heap.size w w' := by
  obtain ⟨so, cap, rfl⟩ := rdRow_slice hR
  obtain ⟨b, u, rfl, hb, e0, hru⟩ := rdRow_get (k := 0) hR rfl
  obtain ⟨us, uc, rfl⟩ := rdRow_slice hru
  have HP : Hid (∀ w1, Below w.heap.size w w1 → Gl w1 → Calls Tryz.prog 42 #[.slice us gs.length uc] w1 fun e w' => e = .returned (.string ⟨(Pl.polyT gs).toArray⟩) ∧ Below w1.heap.size w1 w') := fun w1 hb1 g1 => polyText_any gs _ w1 g1 (keeps_below keeps_poly hru hb1) hok
  have hxl := polyT_len hok
  have HPO : Hid (Pl.POLYGON = [80, 79, 76, 89, 71, 79, 78]) := rfl
  clear hR hru hok
  generalize Pl.polyT gs = X at *
  generalize gs.length = GN at *
  simp only [List.length_cons, List.length_nil, Nat.zero_add, show Pl.POLYGON = [80, 79, 76, 89, 71, 79, 78] from rfl]
  go_enter Tryz.func18, Tryz.ntmps18
  have hs1 : ¬9223372036854775807 < 8 + X.length := by omega
  have hb0 : Below w.heap.size w (w.alloc (.cells #[.string ⟨#[80, 79, 76, 89, 71, 79, 78]⟩, .slice (some ⟨b, 0, none⟩) 1 cap, .int .i64 0] 43)) := (Below.refl _ _).alloc (Nat.le_refl _) _
  go_wp2_with fail
  refine (HP.out _ hb0 (hG.alloc _)).mono ?_
  rintro e w1 ⟨rfl, hb1⟩
  go_wp2_with fail
  go_ret
  exact ⟨by simp [ByteArray.mk_append_mk], hb0.trans (hb1.mono hb0.size)⟩

set_option maxRecDepth 100000 in
set_option maxHeartbeats 2000000 in
theorem written_multi (ps : List (List (List (Int × Int)))) (pv : Value) (w : World) (hG : Gl w) (hR : RdMulti w pv ps) (hok : okMulti ps) :
    Calls Tryz.prog 18 #[.agg #[.string ⟨Pl.MULTI.toArray⟩, pv, .int .i64 0]] w fun e w' => e = .returned (.string ⟨(Pl.bodyT ps).toArray⟩) ∧ Below w.heap.size w w' := by
  obtain ⟨so, cap, rfl⟩ := rdRow_slice hR
  have HR : Hid (RdMulti w (.slice so ps.length cap) ps) := hR
  have HOK : Hid (okMulti ps) := hok
  have HL : Hid (∀ k, (Pl.joinT Pl.polyT (ps.take k)).length ≤ k * 7300002) := joinPoly_len ps hok
  have hl : ps.length ≤ 402 := hok.1
  clear hR hok
  simp only [show Pl.MULTI = [77, 85, 76, 84, 73, 80, 79, 76, 89, 71, 79, 78] from rfl]
  have hb0 : Below w.heap.size w (w.alloc (.cells #[.string ⟨#[77, 85, 76, 84, 73, 80, 79, 76, 89, 71, 79, 78]⟩, .slice so ps.length cap, .int .i64 0] 43)) := (Below.refl _ _).alloc (Nat.le_refl _) _
  have HB0 : Hid (Below w.heap.size w (w.alloc (.cells #[.string ⟨#[77, 85, 76, 84, 73, 80, 79, 76, 89, 71, 79, 78]⟩, .slice so ps.length cap, .int .i64 0] 43))) := hb0
  clear hb0
  go_enter Tryz.func18, Tryz.ntmps18
  by_cases hz : ps.length = 0
  · have HZ : Hid (ps.length = 0) := hz
    have hq : ((ps.length : Int) == 0) = true := beq_iff_eq.2 (by omega)
    clear hz
    go_wp2_with fail
    go_ret
    exact ⟨by unfold Pl.bodyT; rw [if_pos HZ.out]; rfl, HB0.out⟩
  · have HZ : Hid (¬ ps.length = 0) := hz
    have hq : ((ps.length : Int) == 0) = false := beq_eq_false_iff_ne.2 (by omega)
    clear hz
    go_wp2_with fail
    go_loopg [4, 5] ps.length (fun n sv iv wr => ∃ k : Nat, k + n = ps.length ∧ iv = .int .i64 k ∧ sv = .string ⟨([77, 85, 76, 84, 73, 80, 79, 76, 89, 71, 79, 78, 32, 40] ++ Pl.joinT Pl.polyT (ps.take k)).toArray⟩ ∧ Hid (Below w.heap.size w wr ∧ Gl wr ∧ w.heap.size < wr.heap.size ∧ wr.heap[w.heap.size]? = some (.cells #[.string ⟨#[77, 85, 76, 84, 73, 80, 79, 76, 89, 71, 79, 78]⟩, .slice so ps.length cap, .int .i64 0] 43)))
    case atStart => exact ⟨0, by omega, rfl, rfl, HB0.out, hG.alloc _, by simp, heap_alloc_new _ _⟩
    case round =>
      obtain ⟨k, hkn, rfl, rfl, HB⟩ := hrel
      obtain ⟨hbel, hGr, hwz, hbx⟩ := HB.out
      have c1 : wr.cell? ⟨w.heap.size, 1, none⟩ = some (.slice so ps.length cap) := cell_of hbx 1
      by_cases hlt : k < ps.length
      · obtain ⟨p, hp⟩ : ∃ p, ps[k]? = some p := ⟨_, List.getElem?_eq_getElem hlt⟩
        obtain ⟨b, u, rfl, hb, e0, hru⟩ := rdRow_get HR.out hp
        obtain ⟨us, uc, rfl⟩ := rdRow_slice hru
        have o1 := HOK.out.2 p (List.mem_of_getElem? hp)
        have r0 : wr.cell? ⟨b, k, none⟩ = some (.slice us p.length uc) := (hbel.cell (p := ⟨b, k, none⟩) hb).trans e0
        have HRT : Hid (Calls Tryz.prog 42 #[.slice us p.length uc] wr fun e w' => e = .returned (.string ⟨(Pl.polyT p).toArray⟩) ∧ Below wr.heap.size wr w') := polyText_any p _ wr hGr (keeps_below keeps_poly hru hbel) o1
        have hxl := polyT_len o1
        have hbl := HL.out k
        have hbr : b < wr.heap.size := by have := hbel.size; omega
        have hki : (k : Int) < (ps.length : Int) := by omega
        have HT : Hid (Pl.joinT Pl.polyT (ps.take (k + 1)) = Pl.joinT Pl.polyT (ps.take k) ++ ((if k = 0 then [] else [44, 32]) ++ Pl.polyT p)) := joinT_take Pl.polyT hp
        generalize Pl.joinT Pl.polyT (ps.take k) = J at *
        generalize Pl.polyT p = X1 at *
        generalize p.length = PN at *
        clear hp e0 hru o1 HOK HL HR hbx
        have HBEL : Hid (Below w.heap.size w wr) := hbel
        clear hbel
        by_cases hk0 : k = 0
        · have hq0 : decide (0 < (k : Int)) = false := by simp; omega
          have HK0 : Hid (k = 0) := hk0
          have hq1 : decide (0 < k) = false := by simp; omega
          clear hk0
          have hs1 : ¬9223372036854775807 < J.length + 14 + X1.length := by omega
          go_wp2_with fail
          refine HRT.out.mono ?_
          rintro e w5 ⟨rfl, hb5⟩
          go_wp2_with fail
          go_roundg (gk - 1)
          case measure => omega
          case rel =>
            refine ⟨k + 1, by omega, by go_num, ?_, ?_⟩
            · rw [HT.out, if_pos HK0.out]
              simp [ByteArray.mk_append_mk]
            · exact ⟨HBEL.out.trans (hb5.mono HBEL.out.size), hGr.below hb5 hGr.sz, Nat.lt_of_lt_of_le hwz hb5.size, (hb5.block _ hwz).trans HB.out.2.2.2⟩
        · have hq0 : decide (0 < (k : Int)) = true := by simp; omega
          have HK0 : Hid (¬ k = 0) := hk0
          have hq1 : decide (0 < k) = true := by simp; omega
          clear hk0
          have hs0 : ¬9223372036854775807 < J.length + 14 + 2 := by omega
          have hs1 : ¬9223372036854775807 < J.length + 14 + 2 + X1.length := by omega
          go_wp2_with fail
          refine HRT.out.mono ?_
          rintro e w5 ⟨rfl, hb5⟩
          go_wp2_with fail
          go_roundg (gk - 1)
          case measure => omega
          case rel =>
            refine ⟨k + 1, by omega, by go_num, ?_, ?_⟩
            · rw [HT.out, if_neg HK0.out]
              simp [ByteArray.mk_append_mk]
            · exact ⟨HBEL.out.trans (hb5.mono HBEL.out.size), hGr.below hb5 hGr.sz, Nat.lt_of_lt_of_le hwz hb5.size, (hb5.block _ hwz).trans HB.out.2.2.2⟩
      · have hk : k = ps.length := by omega
        subst hk
        have hbl := HL.out ps.length
        rw [List.take_length] at hbl
        rw [List.take_length]
        have HRT : Hid (Pl.bodyT ps = Pl.MULTI ++ ([32, 40] ++ (Pl.joinT Pl.polyT ps ++ [41]))) := if_neg HZ.out
        generalize Pl.joinT Pl.polyT ps = J at *
        have hs1 : ¬9223372036854775807 < J.length + 14 + 1 := by omega
        clear HL HOK HR
        go_wp2_with fail
        go_ret
        exact ⟨by rw [HRT.out]; simp [ByteArray.mk_append_mk, Pl.MULTI], hbel⟩

end Go.Proofs.YtmfnlpmlmgjleaaGreatDoor
