import Derived.Test.YtkjhhooecopolaaGreatDoorKj36
import Derived.Test.YtkjhhooecopolaaGreatDoorSsqK
import Derived.Test.YtkjhhooecopolaaGreatDoorKj29
namespace Go.Proofs.YtkjhhooecopolaaGreatDoor
open Go.RowKit

/-! slices.SortFunc at nodes: what the shelf's contract asks for. -/
abbrev VN := { n : Ge.Nd // Ge.Can n ∧ NodeIn n.1 n.2.1 n.2.2 }
def encN (x : VN) : List Value := ndCells x.1
def cfN (x y : VN) : Int := Ge.pc (Ge.ndQ x.1) (Ge.ndQ y.1)

theorem grown_of_below {w w' : World} (h : Below w.heap.size w w') (hd : w.drawn ≤ w'.drawn) : ∃ q os, w' = Sort.grow (w.drewN q) os := by
  refine ⟨w'.drawn - w.drawn, w'.heap.extract w.heap.size w'.heap.size, ?_⟩
  have hh : w'.heap = w.heap ++ w'.heap.extract w.heap.size w'.heap.size := by
    apply Array.ext_getElem?
    intro k
    rw [Array.getElem?_append]
    split
    · exact h.block k (by assumption)
    · rename_i hk
      rw [Array.getElem?_extract]
      by_cases hlt : k < w'.heap.size
      · rw [if_pos (by omega)]
        congr 1
        omega
      · rw [if_neg (by omega), Array.getElem?_eq_none (by omega)]
  have e1 : w.drawn + (w'.drawn - w.drawn) = w'.drawn := by omega
  have h1 := h.os
  have h2 := h.tape
  have h3 := h.output
  unfold Sort.grow World.drewN
  rw [e1]
  show w' = { heap := w.heap ++ w'.heap.extract w.heap.size w'.heap.size, tape := w.tape, drawn := w'.drawn, os := w.os, output := w.output }
  rw [← hh, ← h1, ← h2, ← h3]

theorem cmpLaysN [Inhabited VN] (blk off size : Nat) (w : World) : CmpLays Tryz.prog 125 #[] encN 2 cfN blk off size w :=
  fun _ _ _ _ x y => (compare_any x.1 y.1 x.2.2 y.2.2 x.2.1 y.2.1 _).mono fun _ _ ⟨h1, h2, h3⟩ => ⟨h1, grown_of_below h2 h3⟩

theorem ltN {x y : VN} : ltOf cfN x y = true ↔ Ge.lt (Ge.ndQ x.1) (Ge.ndQ y.1) := by
  unfold ltOf cfN Ge.lt
  exact decide_eq_true_iff
theorem nltN {x y : VN} : ltOf cfN x y = false ↔ ¬ Ge.lt (Ge.ndQ x.1) (Ge.ndQ y.1) := by
  rw [← ltN]; simp
theorem swoN : Sort.SWO (ltOf cfN) where
  irrefl _x := nltN.2 (Ge.lt_irrefl _)
  trans x y z h1 h2 := ltN.2 (Ge.lt_trans (Ge.ndQ_red x.2.1) (Ge.ndQ_red y.2.1) (Ge.ndQ_red z.2.1) (ltN.1 h1) (ltN.1 h2))
  ntrans x y z h1 h2 := nltN.2 fun h => nltN.1 h1 (Ge.lt_le_trans x.2.1 z.2.1 y.2.1 h (nltN.1 h2))

theorem lift_vn : ∀ (L : List Ge.Nd), (∀ n ∈ L, Ge.Can n) → (∀ n ∈ L, NodeIn n.1 n.2.1 n.2.2) → ∃ d : List VN, d.map Subtype.val = L
  | [], _, _ => ⟨[], rfl⟩
  | n :: L, h1, h2 => by
    obtain ⟨d, hd⟩ := lift_vn L (fun m hm => h1 m (by simp [hm])) (fun m hm => h2 m (by simp [hm]))
    exact ⟨⟨n, h1 n (by simp), h2 n (by simp)⟩ :: d, by simp [hd]⟩

theorem flat_row [Inhabited VN] (d : Array VN) : (Sort.flatK encN 2 d).toList = ndRow (d.toList.map Subtype.val) := by
  apply List.ext_getElem?
  intro t
  by_cases ht : t < d.size * 2
  · have h1 : t / 2 < d.size := by omega
    have hx : (d.toList.map Subtype.val)[t / 2]? = some (d[t / 2]!).1 := by
      rw [List.getElem?_map, Array.getElem?_toList, Array.getElem?_eq_getElem h1, getElem!_pos d _ h1]
      rfl
    have h2 := ndRow_get _ _ _ hx (t % 2) (Nat.mod_lt _ (by decide))
    have e1 : t / 2 * 2 + t % 2 = t := by omega
    rw [e1] at h2
    have h3 := Sort.get_flatK encN 2 d t ht
    have hs : t < (Sort.flatK encN 2 d).size := by rw [Sort.size_flatK]; exact ht
    rw [getElem!_pos (Sort.flatK encN 2 d) t hs] at h3
    rw [h2, Array.getElem?_toList, Array.getElem?_eq_getElem hs, h3]
    have hl : t % 2 < (encN d[t / 2]!).length := Nat.mod_lt _ (by decide)
    rw [getElem!_pos (encN d[t / 2]!) (t % 2) hl]
    exact (List.getElem?_eq_getElem hl).symm
  · rw [List.getElem?_eq_none (by rw [Array.length_toList, Sort.size_flatK]; omega), List.getElem?_eq_none (by rw [ndRow_len]; simp; omega)]

theorem put_take (F c : Array Value) (h : F.size ≤ c.size) : (Sort.putCells id 0 F c).toList.take F.size = F.toList := by
  apply List.ext_getElem?
  intro t
  rw [List.getElem?_take]
  by_cases ht : t < F.size
  · have h1 : t < c.size := by omega
    rw [if_pos ht, Array.getElem?_toList, Array.getElem?_toList]
    unfold Sort.putCells
    rw [Array.getElem?_mapIdx, Array.getElem?_eq_getElem h1, Array.getElem?_eq_getElem ht]
    simp [ht]
  · rw [if_neg ht, Array.getElem?_toList, Array.getElem?_eq_none (by omega)]

/-- The sort's world, block by block. -/
theorem sw_heap [Inhabited VN] (d' : Array VN) (n : Nat) (os : Array Obj) {wr : World} {g : Nat} {cur : Array Value} {t : TypeId} {fr : Nat × Nat} (hb : wr.heap[g]? = some (.cells cur t fr)) :
    (sortWorldK encN 2 wr g 0 n d' os).heap[g]? = some (.cells (Sort.putCells id 0 (Sort.flatK encN 2 d') cur) t fr) := by
  have hg := lt_of_heap hb
  show ((wr.heap.modify g (Sort.onCells (Sort.putCells id 0 (Sort.flatK encN 2 d')))) ++ os)[g]? = _
  rw [Array.getElem?_append_left (by simpa using hg), Array.getElem?_modify, if_pos rfl, hb]
  rfl
theorem sw_other [Inhabited VN] (d' : Array VN) (n : Nat) (os : Array Obj) {wr : World} {g k : Nat} (hk : k < wr.heap.size) (hne : g ≠ k) :
    (sortWorldK encN 2 wr g 0 n d' os).heap[k]? = wr.heap[k]? := by
  show ((wr.heap.modify g (Sort.onCells (Sort.putCells id 0 (Sort.flatK encN 2 d')))) ++ os)[k]? = _
  rw [Array.getElem?_append_left (by simpa using hk), Array.getElem?_modify, if_neg hne]
theorem sw_size [Inhabited VN] (d' : Array VN) (n : Nat) (os : Array Obj) (wr : World) (g : Nat) : wr.heap.size ≤ (sortWorldK encN 2 wr g 0 n d' os).heap.size := by
  show _ ≤ ((wr.heap.modify g (Sort.onCells (Sort.putCells id 0 (Sort.flatK encN 2 d')))) ++ os).size
  rw [Array.size_append, Array.size_modify]
  omega

theorem sort_any [Inhabited VN] (w : World) (lv : Value) (L : List Ge.Nd) (wr : World) (h : NL w lv L wr) (hl : L.length ≤ 200000) :
    Calls Tryz.prog 124 #[lv, .func (.func 125) #[] #[]] wr fun r w' => r = .returned (.tuple #[]) ∧ ∃ S, NL w lv S w' ∧ (∀ n, n ∈ S ↔ n ∈ L) ∧ S.length = L.length ∧ S.Pairwise Ge.le := by
  obtain ⟨hlen, hcase⟩ := h.own
  rcases hcase with ⟨rfl, h0⟩ | ⟨g, cap, cur, rfl, hg, hblk, hnc, hcm, hcs, htk⟩
  · have hL : L = [] := List.length_eq_zero_iff.1 h0
    subst hL
    refine (AnyF.slices_SortFunc_none Tryz.sortNd none 0 _ wr).mono ?_
    rintro e w' ⟨rfl, rfl⟩
    exact ⟨rfl, [], h, fun n => Iff.rfl, rfl, List.Pairwise.nil⟩
  · obtain ⟨d, hd⟩ := lift_vn L h.can h.inn
    have hgl : g < wr.heap.size := lt_of_heap hblk
    have hsz : L.length = d.toArray.size := by rw [← hd]; simp
    have hfl : (Sort.flatK encN 2 d.toArray).toList = cur.toList.take (L.length * 2) := by rw [flat_row, htk, ← hd]
    have hH : Sort.HoldsK encN 2 wr g 0 d.toArray := by
      intro j hj
      have hj' := hj
      rw [Sort.size_flatK, ← hsz] at hj'
      have hcj : cur[j]? = some (Sort.flatK encN 2 d.toArray)[j]! := by
        have e1 : (Sort.flatK encN 2 d.toArray).toList[j]? = (cur.toList.take (L.length * 2))[j]? := by rw [hfl]
        rw [List.getElem?_take, if_pos hj', Array.getElem?_toList, Array.getElem?_toList, Array.getElem?_eq_getElem hj] at e1
        rw [← e1, getElem!_pos (Sort.flatK encN 2 d.toArray) j hj]
      refine ⟨?_, frozen_of hblk _⟩
      rw [Nat.zero_add]
      unfold World.cell?
      rw [hblk]
      exact hcj
    have eg : ∀ args w, (callFunc 125 args).run Tryz.prog w = .ok (.enter 125 args) w := enters_of Tryz.func125 (by kernel_rfl) rfl
    have hone : ∀ x : VN, ∀ v ∈ encN x, v.oneCell' = true := fun x v hv => by
      simp [encN, ndCells] at hv
      rcases hv with rfl | rfl <;> rfl
    have hcon := AnyQ.slices_SortFunc Tryz.sortNd 2 Tryz.isAgg83 Tryz.sizeOf83 encN (fun _ => rfl) hone cfN swoN 125 #[] g 0 cap d.toArray wr eg (cmpLaysN _ _ _ _) hH hgl (by rw [← hsz]; omega)
    change Calls Tryz.prog 124 _ _ _ at hcon
    rw [← hsz] at hcon
    refine hcon.mono ?_
    rintro e w' ⟨rfl, d', n, os, hp, hs, rfl⟩
    obtain ⟨hps, _, hpp⟩ := hp
    have hs1 : d'.size = L.length := by rw [hps, hsz]
    have hperm : d'.toList.Perm d := by
      have e1 : d'.extract 0 L.length = d' := by rw [← hs1]; exact Array.extract_size
      have e2 : d.toArray.extract 0 L.length = d.toArray := by rw [hsz]; exact Array.extract_size
      rw [e1, e2] at hpp
      exact hpp
    have hlS : (d'.toList.map Subtype.val).length = L.length := by simp [hs1]
    have hmem : ∀ m, m ∈ d'.toList.map Subtype.val ↔ m ∈ L := fun m => by
      rw [← hd]
      simp only [List.mem_map]
      constructor
      · rintro ⟨x, hx, rfl⟩
        exact ⟨x, hperm.mem_iff.1 hx, rfl⟩
      · rintro ⟨x, hx, rfl⟩
        exact ⟨x, hperm.mem_iff.2 hx, rfl⟩
    refine ⟨rfl, d'.toList.map Subtype.val, ⟨⟨by rw [ndRow_len], Or.inr ⟨g, cap, _, by rw [hlS], hg, sw_heap d' n os hblk, by rw [hlS]; exact hnc, hcm, ?_, ?_⟩⟩, ?_, fun m hm => h.can m ((hmem m).1 hm), fun m hm => h.inn m ((hmem m).1 hm)⟩, hmem, hlS, ?_⟩
    · unfold Sort.putCells
      rw [Array.size_mapIdx]
      exact hcs
    · have e1 : (d'.toList.map Subtype.val).length * 2 = (Sort.flatK encN 2 d').size := by rw [Sort.size_flatK, hlS, hs1]
      rw [e1, put_take _ _ (by rw [Sort.size_flatK, hs1, hcs]; omega), flat_row]
    · exact h.below.trans ⟨rfl, rfl, rfl, sw_size d' n os wr g, fun k hk => sw_other d' n os (Nat.lt_of_lt_of_le hk h.below.size) (by omega)⟩
    · rw [List.pairwise_map, List.pairwise_iff_getElem]
      intro i j hi hj hij
      have hi' : i < d'.size := by simpa using hi
      have hj' : j < d'.size := by simpa using hj
      have hx := hs i j (Nat.zero_le _) hij (by omega)
      rw [getElem!_pos d' i hi', getElem!_pos d' j hj'] at hx
      exact nltN.1 hx

/-- THE NODES OF THE EDGES, IN ORDER, EACH ONCE. -/
theorem nodesOf_any (es : List Ed) (v : Value) (w : World) (hR : RdB w v es) (hl : es.length ≤ 402) (hs : ∀ e ∈ es, smallE e) :
    Calls Tryz.prog 72 #[v] w fun e w' => ∃ v' l, e = .returned v' ∧ RdN w' v' l ∧ Below w.heap.size w w' ∧ l.map Ge.ndQ = Ge.nodesL es ∧ (∀ n ∈ l, NodeIn n.1 n.2.1 n.2.2) ∧ l.length ≤ 200000 := by
  haveI : Inhabited VN := ⟨⟨(0, 0, 1), ⟨by decide, by decide⟩, ⟨by decide, by decide, by decide⟩⟩⟩
  exact nodesOf_core es v w hR hl hs (fun lv L wr h1 h2 => sort_any w lv L wr h1 h2) (fun lv S wr h1 h2 => compact_any w lv S wr h1 h2)

end Go.Proofs.YtkjhhooecopolaaGreatDoor

namespace Go.Proofs.YtkjhhooecopolaaGreatDoor
open Go.RowKit

theorem rdB_below {w w' : World} {v : Value} {es : List Ed} (h : RdB w v es) (hb : Below w.heap.size w w') : RdB w' v es := by
  obtain ⟨xs, h1, h2, h3⟩ := h
  exact ⟨xs, h1, keeps_own h2 fun k cur hc => hb.block k (lt_of_heap hc), h3⟩

theorem bad_iff (x y d : Int) : Pl.badPt x y d = (decide (d < 1) || decide (60 < d) || !inR 100000 x || !inR 100000 y) := by
  unfold Pl.badPt inR
  rw [Bool.eq_iff_iff]
  simp only [Bool.or_eq_true, decide_eq_true_eq, Bool.not_eq_true', decide_eq_false_iff_not]
  omega

set_option maxRecDepth 100000 in
set_option maxHeartbeats 2000000 in
theorem wind_any (s : ByteArray) (x y d : Int) (w : World) (hm : s.size ≤ maxLen) (hGl : Gl w) :
    Calls Tryz.prog 17 #[.string s, .int .i64 x, .int .i64 y, .int .i64 d] w fun e w' => e = .returned (Pl.windV (Pl.wind s.data.toList x y d)) ∧ Below w.heap.size w w' := by
  by_cases h0 : (Pl.err s.data.toList).1 = 0
  · have hp2 := (err_zero h0).2.1
    obtain ⟨hro, hrl, hse, hel⟩ := rings_ok h0
    have HR : Hid (∀ w1, Gl w1 → Calls Tryz.prog 33 #[.string s] w1 fun e w' => Below w1.heap.size w1 w' ∧ ∃ rb rv, e = .returned (.tuple #[.pointer (some ⟨rb, 0, none⟩), .int .i64 0, .int .i64 0]) ∧
        w'.cell? ⟨rb, 6, none⟩ = some rv ∧ rb < w'.heap.size ∧ RdRings w' rv (Pl.rings s.data.toList)) := fun w1 g1 => by
      refine (readText_any s w1 hm g1).mono ?_
      rintro e w' ⟨hb, pv, rfl, hrd⟩
      obtain ⟨rb, rfl, _, hR⟩ := hrd h0
      obtain ⟨c, t, r, tv, rv, hc, hl', hbk, hown, hrings⟩ := hR
      exact ⟨hb, rb, rv, by rw [h0, hp2]; rfl, cell_of hbk 6, lt_of_heap hbk, rdRings_of hrings⟩
    have HW1 : Hid (∀ w1, Calls Tryz.prog 34 #[.int .i64 x, .int .i64 100000] w1 fun e w' => e = .returned (.bool (inR 100000 x)) ∧ w' = w1) := fun w1 => within_any x 100000 w1 (by omega) (by omega)
    have HW2 : Hid (∀ w1, Calls Tryz.prog 34 #[.int .i64 y, .int .i64 100000] w1 fun e w' => e = .returned (.bool (inR 100000 y)) ∧ w' = w1) := fun w1 => within_any y 100000 w1 (by omega) (by omega)
    have hbad := bad_iff x y d
    have hwd : Pl.badPt x y d = true → Pl.wind s.data.toList x y d = (0, false, 5, 0) := fun h => by unfold Pl.wind; rw [if_pos h0, if_pos h]
    by_cases h1 : d < 1
    · rw [hwd (by rw [hbad]; simp [h1])]
      simp only [Pl.windV]
      clear hwd hbad HW1 HW2
      go_enter Tryz.func17, Tryz.ntmps17
      go_wp2_with fail
      refine (HR.out _ hGl).mono ?_
      rintro e w1 ⟨hb1, rb, rv, rfl, c6, hlt, hrr⟩
      go_wp2_with fail
      refine bodyPost_ret (v := .tuple #[.int .i64 0, .bool false, .int .i64 5, .int .i64 0]) (by simp [results, Tryz.results17, go_sem]) rfl ⟨rfl, hb1⟩
    · by_cases h2 : 60 < d
      · rw [hwd (by rw [hbad]; simp [h2])]
        simp only [Pl.windV]
        clear hwd hbad HW1 HW2
        go_enter Tryz.func17, Tryz.ntmps17
        go_wp2_with fail
        refine (HR.out _ hGl).mono ?_
        rintro e w1 ⟨hb1, rb, rv, rfl, c6, hlt, hrr⟩
        go_wp2_with fail
        refine bodyPost_ret (v := .tuple #[.int .i64 0, .bool false, .int .i64 5, .int .i64 0]) (by simp [results, Tryz.results17, go_sem]) rfl ⟨rfl, hb1⟩
      · cases hix : inR 100000 x
        · rw [hwd (by rw [hbad, hix]; simp)]
          rw [hix] at HW1
          simp only [Pl.windV]
          clear hwd hbad HW2 hix
          go_enter Tryz.func17, Tryz.ntmps17
          go_wp2_with fail
          refine (HR.out _ hGl).mono ?_
          rintro e w1 ⟨hb1, rb, rv, rfl, c6, hlt, hrr⟩
          go_wp2_with fail
          refine (HW1.out _).mono ?_
          rintro e w2 ⟨rfl, rfl⟩
          go_wp2_with fail
          refine bodyPost_ret (v := .tuple #[.int .i64 0, .bool false, .int .i64 5, .int .i64 0]) (by simp [results, Tryz.results17, go_sem]) rfl ⟨rfl, hb1⟩
        · cases hiy : inR 100000 y
          · rw [hwd (by rw [hbad, hiy]; simp)]
            rw [hix] at HW1
            rw [hiy] at HW2
            simp only [Pl.windV]
            clear hwd hbad hix hiy
            go_enter Tryz.func17, Tryz.ntmps17
            go_wp2_with fail
            refine (HR.out _ hGl).mono ?_
            rintro e w1 ⟨hb1, rb, rv, rfl, c6, hlt, hrr⟩
            go_wp2_with fail
            refine (HW1.out _).mono ?_
            rintro e w2 ⟨rfl, rfl⟩
            go_wp2_with fail
            refine (HW2.out _).mono ?_
            rintro e w2 ⟨rfl, rfl⟩
            go_wp2_with fail
            refine bodyPost_ret (v := .tuple #[.int .i64 0, .bool false, .int .i64 5, .int .i64 0]) (by simp [results, Tryz.results17, go_sem]) rfl ⟨rfl, hb1⟩
          · have hbf : Pl.badPt x y d = false := by rw [hbad, hix, hiy]; simp [h1, h2]
            have hxr : -100000 ≤ x ∧ x ≤ 100000 := of_decide_eq_true hix
            have hyr : -100000 ≤ y ∧ y ≤ 100000 := of_decide_eq_true hiy
            obtain ⟨G, hGe⟩ : ∃ G, Int.gcd (Int.gcd x y : Nat) d = G := ⟨_, rfl⟩
            have hGp : 0 < G := by rw [← hGe]; exact gcd_pos (by omega)
            have dvG : (G : Int) ∣ (Int.gcd x y : Nat) := by rw [← hGe]; exact Int.gcd_dvd_left _ _
            have dx : (G : Int) ∣ x := Int.dvd_trans dvG (Int.gcd_dvd_left _ _)
            have dy : (G : Int) ∣ y := Int.dvd_trans dvG (Int.gcd_dvd_right _ _)
            have dd : (G : Int) ∣ d := by rw [← hGe]; exact Int.gcd_dvd_right _ _
            have ex := (Int.mul_tdiv_cancel' dx).symm
            have ey := (Int.mul_tdiv_cancel' dy).symm
            have ed := (Int.mul_tdiv_cancel' dd).symm
            rw [wind_good h0 hbf (show (0 : Int) < G by omega) ex ey ed]
            have lx := fr_le ex hGp
            have ly := fr_le ey hGp
            have ld := fr_le ed hGp
            have fx : Fl (floatOfInt .f64 x) x := fl_ofInt (by omega)
            have fy : Fl (floatOfInt .f64 y) y := fl_ofInt (by omega)
            have HNA : Hid (∀ w1, Calls Tryz.prog 37 #[.complex .f64 (floatOfInt .f64 x) (floatOfInt .f64 y), .int .i64 d] w1 fun e w' => e = .returned (.agg #[.complex .f64 (floatOfInt .f64 (x.tdiv G)) (floatOfInt .f64 (y.tdiv G)), .int .i64 (d.tdiv G)]) ∧ Below w1.heap.size w1 w') := fun w1 => nodeAt_any d fx fy (by omega) (by omega) (by omega) G hGe w1
            have HPA : Hid (∀ w1, Calls Tryz.prog 38 #[.int .i64 x, .int .i64 y] w1 fun e w' => e = .returned (.complex .f64 (floatOfInt .f64 x) (floatOfInt .f64 y)) ∧ w' = w1) := fun w1 => pointAt_any x y w1
            have hDp : 0 < d.tdiv (G : Int) := by
              rcases Int.lt_trichotomy (d.tdiv (G : Int)) 0 with h | h | h
              · have := Int.mul_neg_of_pos_of_neg (show (0 : Int) < G by omega) h; omega
              · rw [h] at ed; omega
              · exact h
            have HTA : Hid (∀ v w1, RdB w1 v (Ge.allEdges (Pl.rings s.data.toList)) → Calls Tryz.prog 35 #[v, .agg #[.complex .f64 (floatOfInt .f64 (x.tdiv G)) (floatOfInt .f64 (y.tdiv G)), .int .i64 (d.tdiv G)]] w1 fun e w' => e = .returned (if (Ge.allEdges (Pl.rings s.data.toList)).any (Ge.fo (x.tdiv G, y.tdiv G) (d.tdiv G)) then .tuple #[.int .i64 0, .bool true] else .tuple #[.int .i64 (Ge.total (Ge.fr (x.tdiv G, y.tdiv G) (d.tdiv G)) (Ge.allEdges (Pl.rings s.data.toList))), .bool false]) ∧ Below w1.heap.size w1 w') := fun v w1 hv =>
              turnsAround_any _ v w1 hv hel hse (fl_ofInt (by omega)) (fl_ofInt (by omega)) ⟨by omega, by omega, by omega⟩
            have HEO : Hid (∀ v w1, RdRings w1 v (Pl.rings s.data.toList) → Calls Tryz.prog 36 #[v] w1 fun e w' => ∃ v, e = .returned v ∧ RdB w' v (Ge.allEdges (Pl.rings s.data.toList)) ∧ Below w1.heap.size w1 w') := fun v w1 hv => edgesOf_any _ v w1 hv hro hrl
            rw [hix] at HW1
            rw [hiy] at HW2
            clear hwd hbad hbf hix hiy dvG dx dy dd ex ey ed lx ly ld fx fy hDp hGe hel hse hro hrl hp2 h0
            generalize Pl.rings s.data.toList = RG at *
            generalize Ge.allEdges RG = ES at *
            generalize x.tdiv (G : Int) = XQ at *
            generalize y.tdiv (G : Int) = YQ at *
            generalize d.tdiv (G : Int) = DQ at *
            go_enter Tryz.func17, Tryz.ntmps17
            go_wp2_with fail
            refine (HR.out _ hGl).mono ?_
            rintro e w1 ⟨hb1, rb, rv, rfl, c6, hlt, hrr⟩
            go_wp2_with fail
            refine (HW1.out _).mono ?_
            rintro e w2 ⟨rfl, rfl⟩
            go_wp2_with fail
            refine (HW2.out _).mono ?_
            rintro e w2 ⟨rfl, rfl⟩
            go_wp2_with fail
            refine (HEO.out _ _ hrr).mono ?_
            rintro e w3 ⟨ev, rfl, hrb, hb3⟩
            have hbel3 := hb1.trans (hb3.mono hb1.size)
            go_wp2_with fail
            refine (HPA.out _).mono ?_
            rintro e w4 ⟨rfl, rfl⟩
            go_wp2_with fail
            refine (HNA.out _).mono ?_
            rintro e w5 ⟨rfl, hb5⟩
            have hbel5 := hbel3.trans (hb5.mono hbel3.size)
            have hrb5 := rdB_below hrb hb5
            go_wp2_with fail
            refine (HTA.out _ _ hrb5).mono ?_
            rintro e w6 ⟨rfl, hb6⟩
            have hbel6 := hbel5.trans (hb6.mono hbel5.size)
            by_cases ha : ES.any (Ge.fo (XQ, YQ) DQ) = true
            · rw [if_pos ha]
              go_wp2_with fail
              refine bodyPost_ret (v := .tuple #[.int .i64 0, .bool true, .int .i64 0, .int .i64 0]) (by simp [results, Tryz.results17, go_sem]) rfl ⟨?_, hbel6⟩
              first
                | rfl
                | (rw [if_pos ha]; rfl)
            · rw [if_neg ha]
              go_wp2_with fail
              refine bodyPost_ret (v := .tuple #[.int .i64 (Ge.total (Ge.fr (XQ, YQ) DQ) ES), .bool false, .int .i64 0, .int .i64 0]) (by simp [results, Tryz.results17, go_sem]) rfl ⟨?_, hbel6⟩
              first
                | rfl
                | (rw [if_neg ha]; rfl)
  · have hw : Pl.wind s.data.toList x y d = (0, false, Pl.err s.data.toList) := if_neg h0
    rw [hw]
    have hne : (((Pl.err s.data.toList).1 : Int) != 0) = true := by rw [bne_iff_ne]; omega
    have HR : Hid (∀ w1, Gl w1 → Calls Tryz.prog 33 #[.string s] w1 fun e w' => Below w1.heap.size w1 w' ∧ ∃ pv, e = .returned (.tuple #[.pointer pv, .int .i64 (Pl.err s.data.toList).1, .int .i64 (Pl.err s.data.toList).2])) := fun w1 g1 => by
      refine (readText_any s w1 hm g1).mono ?_
      rintro e w' ⟨hb, pv, rfl, _⟩
      exact ⟨hb, pv, rfl⟩
    simp only [Pl.windV]
    generalize (Pl.err s.data.toList).1 = E at *
    generalize (Pl.err s.data.toList).2 = Pp at *
    clear hw h0
    go_enter Tryz.func17, Tryz.ntmps17
    go_wp2_with fail
    refine (HR.out _ hGl).mono ?_
    rintro e w1 ⟨hb1, pv, rfl⟩
    go_wp2_with fail
    refine bodyPost_ret (v := .tuple #[.int .i64 0, .bool false, .int .i64 E, .int .i64 Pp]) (by simp [results, Tryz.results17, go_sem]) rfl ⟨rfl, hb1⟩

end Go.Proofs.YtkjhhooecopolaaGreatDoor

namespace Go.Proofs.YtkjhhooecopolaaGreatDoor
open Go.RowKit

set_option maxRecDepth 100000 in
set_option maxHeartbeats 2000000 in
theorem nodes_any (s : ByteArray) (w : World) (hm : s.size ≤ maxLen) (hGl : Gl w) :
    Calls Tryz.prog 41 #[.string s] w fun e w' => e = .returned (.tuple #[.string ⟨(Pl.ntext s.data.toList).toArray⟩, .int .i64 (Pl.err s.data.toList).1, .int .i64 (Pl.err s.data.toList).2]) ∧ Below w.heap.size w w' := by
  by_cases h0 : (Pl.err s.data.toList).1 = 0
  · have hp2 := (err_zero h0).2.1
    obtain ⟨hro, hrl, hse, hel⟩ := rings_ok h0
    have hfew := Pl.edges_few h0
    have hnt : Pl.ntext s.data.toList = Pl.joinT Pl.qtxt (Ge.nodesL (Ge.allEdges (Pl.rings s.data.toList))) := if_pos h0
    have HR : Hid (∀ w1, Gl w1 → Calls Tryz.prog 33 #[.string s] w1 fun e w' => Below w1.heap.size w1 w' ∧ ∃ rb rv, e = .returned (.tuple #[.pointer (some ⟨rb, 0, none⟩), .int .i64 0, .int .i64 0]) ∧
        w'.cell? ⟨rb, 6, none⟩ = some rv ∧ rb < w'.heap.size ∧ RdRings w' rv (Pl.rings s.data.toList)) := fun w1 g1 => by
      refine (readText_any s w1 hm g1).mono ?_
      rintro e w' ⟨hb, pv, rfl, hrd⟩
      obtain ⟨rb, rfl, _, hR⟩ := hrd h0
      obtain ⟨c, t, r, tv, rv, hc, hl', hbk, hown, hrings⟩ := hR
      exact ⟨hb, rb, rv, by rw [h0, hp2]; rfl, cell_of hbk 6, lt_of_heap hbk, rdRings_of hrings⟩
    have HEO : Hid (∀ v w1, RdRings w1 v (Pl.rings s.data.toList) → Calls Tryz.prog 36 #[v] w1 fun e w' => ∃ v, e = .returned v ∧ RdB w' v (Ge.allEdges (Pl.rings s.data.toList)) ∧ Below w1.heap.size w1 w') := fun v w1 hv => edgesOf_any _ v w1 hv hro hrl
    have HNO : Hid (∀ v w1, RdB w1 v (Ge.allEdges (Pl.rings s.data.toList)) → Calls Tryz.prog 72 #[v] w1 fun e w' => ∃ v' l, e = .returned v' ∧ RdN w' v' l ∧ Below w1.heap.size w1 w' ∧ l.map Ge.ndQ = Ge.nodesL (Ge.allEdges (Pl.rings s.data.toList)) ∧ (∀ n ∈ l, NodeIn n.1 n.2.1 n.2.2) ∧ l.length ≤ 200000) := fun v w1 hv => nodesOf_any _ v w1 hv hfew hse
    rw [hnt, h0, hp2]
    clear hnt hp2 h0 hro hrl hse hel hfew
    generalize Pl.rings s.data.toList = RG at *
    generalize Ge.allEdges RG = ES at *
    generalize Ge.nodesL ES = NS0 at *
    go_enter Tryz.func41, Tryz.ntmps41
    go_wp2_with fail
    refine (HR.out _ hGl).mono ?_
    rintro e w1 ⟨hb1, rb, rv, rfl, c6, hlt, hrr⟩
    have hG1 := hGl.below hb1 hGl.sz
    go_wp2_with fail
    refine (HEO.out _ _ hrr).mono ?_
    rintro e w3 ⟨ev, rfl, hrb, hb3⟩
    have hbel3 := hb1.trans (hb3.mono hb1.size)
    have hG3 := hG1.below hb3 hG1.sz
    go_wp2_with fail
    refine (HNO.out _ _ hrb).mono ?_
    rintro e w4 ⟨nv, l, rfl, hrn, hb4, hml, hnn, hll⟩
    have hbel4 := hbel3.trans (hb4.mono hbel3.size)
    have hG4 := hG3.below hb4 hG3.sz
    subst hml
    have HWN : Hid (Calls Tryz.prog 71 #[nv] w4 fun e w' => e = .returned (.string ⟨(Pl.joinT Pl.qtxt (l.map Ge.ndQ)).toArray⟩) ∧ Below w4.heap.size w4 w') := writeNodes_any l nv w4 hrn hG4 hnn hll
    generalize hTX : Pl.joinT Pl.qtxt (l.map Ge.ndQ) = TX at HWN
    have HTX : Hid (Pl.joinT Pl.qtxt (l.map Ge.ndQ) = TX) := hTX
    clear hrn hnn hll hTX
    go_wp2_with fail
    refine HWN.out.mono ?_
    rintro e w5 ⟨rfl, hb5⟩
    have hbel5 := hbel4.trans (hb5.mono hbel4.size)
    go_wp2_with fail
    refine bodyPost_ret (v := .tuple #[.string ⟨TX.toArray⟩, .int .i64 0, .int .i64 0]) (by simp [results, Tryz.results41, go_sem]) rfl ⟨by rw [HTX.out]; rfl, hbel5⟩
  · have hnt : Pl.ntext s.data.toList = [] := if_neg h0
    rw [hnt]
    have hne : (((Pl.err s.data.toList).1 : Int) != 0) = true := by rw [bne_iff_ne]; omega
    have HR : Hid (∀ w1, Gl w1 → Calls Tryz.prog 33 #[.string s] w1 fun e w' => Below w1.heap.size w1 w' ∧ ∃ pv, e = .returned (.tuple #[.pointer pv, .int .i64 (Pl.err s.data.toList).1, .int .i64 (Pl.err s.data.toList).2])) := fun w1 g1 => by
      refine (readText_any s w1 hm g1).mono ?_
      rintro e w' ⟨hb, pv, rfl, _⟩
      exact ⟨hb, pv, rfl⟩
    generalize (Pl.err s.data.toList).1 = E at *
    generalize (Pl.err s.data.toList).2 = Pp at *
    clear hnt h0
    go_enter Tryz.func41, Tryz.ntmps41
    go_wp2_with fail
    refine (HR.out _ hGl).mono ?_
    rintro e w1 ⟨hb1, pv, rfl⟩
    go_wp2_with fail
    refine bodyPost_ret (v := .tuple #[.string ⟨#[]⟩, .int .i64 E, .int .i64 Pp]) (by simp [results, Tryz.results41, go_sem]) rfl ⟨rfl, hb1⟩

end Go.Proofs.YtkjhhooecopolaaGreatDoor
