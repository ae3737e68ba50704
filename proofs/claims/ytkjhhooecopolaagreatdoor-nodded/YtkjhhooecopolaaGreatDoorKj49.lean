import Derived.Test.YtkjhhooecopolaaGreatDoorShelfq
import Derived.Test.YtkjhhooecopolaaGreatDoorKj48
namespace Go.Proofs.YtkjhhooecopolaaGreatDoor
open Go.RowKit

def ndCells (n : Ge.Nd) : List Value := [.complex .f64 (floatOfInt .f64 n.1) (floatOfInt .f64 n.2.1), .int .i64 n.2.2]
def ndRow (l : List Ge.Nd) : List Value := l.flatMap ndCells
/-- A slice of nodes. -/
def RdN (w : World) (v : Value) (l : List Ge.Nd) : Prop := w.ownsRow 0 83 2 v l.length (ndRow l)

theorem ndRow_get : ∀ (l : List Ge.Nd) (k : Nat) (e : Ge.Nd), l[k]? = some e → ∀ j, j < 2 → (ndRow l)[k * 2 + j]? = (ndCells e)[j]?
  | [], _, _, h, _, _ => by simp at h
  | q :: r, 0, e, h, j, hj => by
    simp at h
    subst h
    have e1 : ndRow (q :: r) = ndCells q ++ ndRow r := by simp [ndRow]
    rw [e1, List.getElem?_append_left (by simp [ndCells]; omega)]
    simp
  | q :: r, k + 1, e, h, j, hj => by
    have ih := ndRow_get r k e (by simpa using h) j hj
    have e1 : ndRow (q :: r) = ndCells q ++ ndRow r := by simp [ndRow]
    rw [e1, List.getElem?_append_right (by simp [ndCells]; omega)]
    have e2 : (k + 1) * 2 + j - (ndCells q).length = k * 2 + j := by simp [ndCells]; omega
    rw [e2, ih]
theorem ndRow_snoc (l : List Ge.Nd) (e : Ge.Nd) : ndRow (l ++ [e]) = ndRow l ++ ndCells e := by simp [ndRow]
theorem rdN_slice {w : World} {v : Value} {l : List Ge.Nd} (h : RdN w v l) : ∃ so cap, v = .slice so l.length cap := by
  rcases h.2 with ⟨hv, h0⟩ | ⟨b, cap, cur, hv, _⟩
  · exact ⟨none, 0, by rw [hv, h0]⟩
  · exact ⟨_, cap, hv⟩
theorem rdN_get {w : World} {so : Option Addr} {n cap : Nat} {l : List Ge.Nd} (h : RdN w (.slice so n cap) l) {k : Nat} {e : Ge.Nd} (he : l[k]? = some e) :
    ∃ b, so = some ⟨b, 0, none⟩ ∧ b < w.heap.size ∧ w.cell? ⟨b, k * 2, none⟩ = some (.complex .f64 (floatOfInt .f64 e.1) (floatOfInt .f64 e.2.1)) ∧ w.cell? ⟨b, k * 2 + 1, none⟩ = some (.int .i64 e.2.2) := by
  have g := ndRow_get l k e he
  obtain ⟨b, c, hv, hb, hc⟩ := own_get' h (g 0 (by omega))
  injection hv with hv
  exact ⟨b, hv, hb, hc _ _ (g 0 (by omega)), hc _ _ (g 1 (by omega))⟩

theorem lib_join (f : Ge.Qt → List UInt8) : ∀ l : List Ge.Qt, Lib.join (l.map f) [44, 32] = Pl.joinT f l
  | [] => rfl
  | [x] => by simp [Lib.join_one, Pl.joinT]
  | x :: y :: r => by
    have ih := lib_join f (y :: r)
    simp only [Pl.joinT, ← ih]
    simp [Lib.join, List.intercalate]

theorem strInfo : (Tryz.prog.info? 9).map (fun i => (i.zero, i.size, i.bytes)) = some (some (.string ⟨#[]⟩), 1, 16) := by kernel_rfl

def txts (l : List Ge.Nd) : List ByteArray := l.map fun n => ⟨(Pl.qtxt (Ge.ndQ n)).toArray⟩
theorem txts_data (l : List Ge.Nd) : (txts l).map (·.data.toList) = (l.map Ge.ndQ).map Pl.qtxt := by simp [txts]

def SI (w : World) (lv : Value) (xs : List ByteArray) (wr : World) : Prop := wr.ownsRow w.heap.size 9 1 lv xs.length (xs.map Value.string) ∧ Below w.heap.size w wr

theorem join_si {w wr : World} {lv : Value} {xs : List ByteArray} (sep : ByteArray) (h : SI w lv xs wr) (hl : xs.length ≤ 1000000) (hlen : (Lib.join (xs.map (·.data.toList)) sep.data.toList).length ≤ 140737488355328) :
    Calls Tryz.prog 103 #[lv, .string sep] wr fun e w' => e = .returned (.string ⟨(Lib.join (xs.map (·.data.toList)) sep.data.toList).toArray⟩) ∧ Below wr.heap.size wr w' := by
  rcases h.1.2 with ⟨hv, h0⟩ | ⟨g, cap, cur, hv, _, hb, hc, _, _, ht⟩
  · have hx : xs = [] := List.length_eq_zero_iff.1 h0
    subst hx
    rw [hv]
    exact (Tryz.strings_Join_none none 0 sep wr).mono fun e w' ⟨he, hw⟩ => ⟨he, hw ▸ Below.refl _ _⟩
  · rw [hv]
    have hlt : g < wr.heap.size := by
      rcases Nat.lt_or_ge g wr.heap.size with h1 | h1
      · exact h1
      · rw [Array.getElem?_eq_none h1] at hb; cases hb
    refine Tryz.strings_Join g 0 cap xs sep wr (fun j x hj => ?_) hlt (by omega) hc hlen
    have hm : (xs.map Value.string)[j]? = some (.string x) := by simp [hj]
    rw [Nat.zero_add, cell_of' hb j, ← Array.getElem?_toList]
    rw [← ht, List.getElem?_take] at hm
    split at hm
    · exact hm
    · cases hm

theorem qtxt_len2 {n : Ge.Nd} (h : NodeIn n.1 n.2.1 n.2.2) : (Pl.qtxt (Ge.ndQ n)).length ≤ 101 := by
  have hx := h.x
  have hy := h.y
  have h1 := ftxt_len2 (x := n.1) (d := n.2.2) (by omega) h.d
  have h2 := ftxt_len2 (x := n.2.1) (d := n.2.2) (by omega) h.d
  show (Pl.ftxt (Ge.fr2 n.1 n.2.2) ++ ([32] ++ Pl.ftxt (Ge.fr2 n.2.1 n.2.2))).length ≤ 101
  simp
  omega

set_option maxRecDepth 100000 in
set_option maxHeartbeats 2000000 in
theorem writeNodes_any (l : List Ge.Nd) (v : Value) (w : World) (hR : RdN w v l) (hG : Gl w) (hn : ∀ n ∈ l, NodeIn n.1 n.2.1 n.2.2) (hl : l.length ≤ 200000) :
    Calls Tryz.prog 71 #[v] w fun e w' => e = .returned (.string ⟨(Pl.joinT Pl.qtxt (l.map Ge.ndQ)).toArray⟩) ∧ Below w.heap.size w w' := by
  obtain ⟨so, cap, rfl⟩ := rdN_slice hR
  obtain ⟨i0, hi, hz0, hz1, hz2⟩ := info_parts strInfo
  have HR : Hid (RdN w (.slice so l.length cap) l) := hR
  have HN : Hid (∀ n ∈ l, ∀ w1, Gl w1 → Calls Tryz.prog 122 #[.agg #[.complex .f64 (floatOfInt .f64 n.1) (floatOfInt .f64 n.2.1), .int .i64 n.2.2]] w1 fun e w' => e = .returned (.string ⟨(Pl.qtxt (Ge.ndQ n)).toArray⟩) ∧ Below w1.heap.size w1 w') := fun n h w1 g1 => nwritten_any n (hn n h) w1 g1
  have HJ : Hid (∀ lv wr, SI w lv (txts l) wr → Calls Tryz.prog 103 #[lv, .string ⟨#[44, 32]⟩] wr fun e w' => e = .returned (.string ⟨(Pl.joinT Pl.qtxt (l.map Ge.ndQ)).toArray⟩) ∧ Below wr.heap.size wr w') := fun lv wr h => by
    have e : Lib.join ((txts l).map (·.data.toList)) (⟨#[44, 32]⟩ : ByteArray).data.toList = Pl.joinT Pl.qtxt (l.map Ge.ndQ) := by
      rw [txts_data]; exact lib_join Pl.qtxt _
    have hlen := Pl.joinT_len Pl.qtxt 101 (l.map Ge.ndQ) (fun q hq => by
      obtain ⟨n, hm, rfl⟩ := List.mem_map.1 hq
      exact qtxt_len2 (hn n hm))
    rw [List.length_map] at hlen
    have := join_si ⟨#[44, 32]⟩ h (by simp [txts]; omega) (by rw [e]; omega)
    rw [e] at this
    exact this
  clear hR
  generalize Pl.joinT Pl.qtxt (l.map Ge.ndQ) = RT at *
  go_enter Tryz.func71, Tryz.ntmps71
  go_wp2_with fail
  have HIN : Hid (SI w (.slice none 0 0) [] w) := ⟨World.ownsRow_nil _ _ _ _, Below.refl _ _⟩
  go_loopg [3, 8] l.length (fun m lv iv wr => ∃ i : Nat, i + m = l.length ∧ iv = .int .i64 i ∧ Hid (SI w lv (txts (l.take i)) wr))
  case atStart => exact ⟨0, by omega, rfl, HIN⟩
  case round =>
    obtain ⟨i, him, rfl, HE⟩ := hrel
    have hbel := HE.out.2
    clear HIN
    by_cases hlt : i < l.length
    · obtain ⟨n, hg⟩ : ∃ g, l[i]? = some g := ⟨_, List.getElem?_eq_getElem hlt⟩
      obtain ⟨b, rfl, hb, c0, c1⟩ := rdN_get HR.out hg
      have r0 := (hbel.cell (p := ⟨b, i * 2, none⟩) hb).trans c0
      have r1 := (hbel.cell (p := ⟨b, i * 2 + 1, none⟩) hb).trans c1
      have HT : Hid (txts (l.take (i + 1)) = txts (l.take i) ++ [⟨(Pl.qtxt (Ge.ndQ n)).toArray⟩]) := by
        have e := List.take_append_getElem hlt
        have hn' : l[i] = n := by
          have := List.getElem?_eq_getElem hlt
          rw [hg] at this
          injection this with this
          exact this.symm
        rw [← e, hn']
        show txts (l.take i ++ [n]) = _
        simp [txts]
      have HW := HN.out n (List.mem_of_getElem? hg)
      have hxl : (txts (l.take i)).length ≤ 200000 := by simp [txts]; omega
      have hki : (i : Int) < (l.length : Int) := by omega
      have hbr : b < wr.heap.size := Nat.lt_of_lt_of_le hb hbel.size
      have hGr : Gl wr := hG.below hbel hG.sz
      have HW2 : Hid (∀ w1, Gl w1 → Calls Tryz.prog 122 #[.agg #[.complex .f64 (floatOfInt .f64 n.1) (floatOfInt .f64 n.2.1), .int .i64 n.2.2]] w1 fun e w' => e = .returned (.string ⟨(Pl.qtxt (Ge.ndQ n)).toArray⟩) ∧ Below w1.heap.size w1 w') := HW
      generalize Pl.qtxt (Ge.ndQ n) = X at *
      generalize floatOfInt .f64 n.1 = N1 at *
      generalize floatOfInt .f64 n.2.1 = N2 at *
      generalize txts (l.take i) = A1 at *
      clear hg c0 c1 HN HR HW
      go_wp2_with (simp only [st_complex]; go_simp)
      refine (HW2.out _ (hGr.alloc _)).mono ?_
      rintro e w5 ⟨rfl, hb5⟩
      obtain ⟨hx2, _⟩ := HE.out
      have hbel4 := hbel.alloc hbel.size (.cells #[.complex .f64 N1 N2, .int .i64 n.2.2] 83)
      have hbel5 := hbel4.trans (hb5.mono hbel4.size)
      have ho5 : w5.ownsRow w.heap.size 9 1 u3 A1.length (A1.map Value.string) := own_kept hx2 fun k hk => (hb5.block k (by have := (own_lt hx2 k hk).2; simp; omega)).trans (Below.heap_alloc _ _ _ (own_lt hx2 k hk).2)
      have hs5 := hbel5.size
      clear hx2 HE
      go_wp2_with (at_builtin; refine wpList_append_lies _ rfl (.tmp 12) (.tmp 15) 164 rfl w.heap.size 9 i0 _ 1 16 Tryz.underlying164 hi hz0 hz1 hz2 rfl (by decide) u3 A1.length (A1.map Value.string) rfl (own_kept ho5 (fun k hk => Below.heap_alloc _ _ _ (own_lt ho5 k hk).2)) ⟨w5.heap.size, 0, none⟩ 1 1 [.string ⟨X.toArray⟩] rfl rfl (World.news_of_block (cs := #[.string ⟨X.toArray⟩]) (t := 9) (fr := (0, 0)) (heap_alloc_new w5 _)) (by simp [Value.oneCell']) (by decide) (by unfold maxLen; omega) (by omega) (by simp; omega) (w5.heap.size + 1) (by simp) ?_; intro g' cap' w6 ho6 hgrow6 hat6 hlt6)
      have HN : Hid (SI w (.slice (some ⟨g', 0, none⟩) (A1.length + 1) cap') (txts (l.take (i + 1))) w6) := by
        rw [HT.out]
        refine ⟨?_, (hbel5.alloc hbel5.size _).grown hgrow6 (by simp; omega) (fun k hk => (own_lt ho5 k hk).1)⟩
        rw [List.length_append, List.map_append]
        exact ho6
      clear ho6 hgrow6 ho5 HW2 HT
      go_roundg (gk - 1)
      case measure => omega
      case rel => exact ⟨i + 1, by omega, by go_num, HN⟩
    · have hk : i = l.length := by omega
      subst hk
      have HF := HE.out
      rw [List.take_length] at HF
      clear HE HR HN
      go_wp2_with fail
      refine (HJ.out _ _ HF).mono ?_
      rintro e w5 ⟨rfl, hb5⟩
      go_wp2_with fail
      go_ret
      exact ⟨rfl, HF.2.trans (hb5.mono HF.2.size)⟩

end Go.Proofs.YtkjhhooecopolaaGreatDoor
