import Derived.Test.YtkjhhooecopolaaGreatDoorVj15
import Derived.Lib.ItoaLen
import Derived.Lib.AppendIntMem
import Derived.Deep.RegionHeld3
namespace Go.Proofs.YtkjhhooecopolaaGreatDoor
open Go.RowKit

namespace Pl
/-- A token as it is written. -/
def wr (t : Tk) : List UInt8 := if t.k = 110 then Lib.itoa t.n else praw t
/-- Does a blank stand between two tokens (behind the first word)? -/
def bb (a b : Tk) : Bool := decide (praw a = [44]) || (decide (a.k = 110) && decide (b.k = 110))
def wtail : Tk → List Tk → List UInt8
  | _, [] => []
  | p, t :: r => (if bb p t = true then [32] else []) ++ (wr t ++ wtail t r)
def wt : List Tk → List UInt8
  | [] => []
  | [t] => wr t
  | a :: b :: r => wr a ++ ([32] ++ (wr b ++ wtail b r))

theorem wtail_snoc (p : Tk) (l : List Tk) (x : Tk) : wtail p (l ++ [x]) = wtail p l ++ ((if bb ((p :: l).getLast (by simp)) x = true then [32] else []) ++ wr x) := by
  induction l generalizing p with
  | nil =>
    simp only [List.nil_append, wtail, List.append_nil, List.getLast_singleton]
    rfl
  | cons a r ih =>
    rw [List.cons_append, wtail, ih a, wtail]
    rw [List.getLast_cons (by simp : a :: r ≠ [])]
    simp [List.append_assoc]

theorem wt_zero (x : Tk) : wt ([] ++ [x]) = wt [] ++ wr x := rfl
theorem wt_one (a x : Tk) : wt ([a] ++ [x]) = wt [a] ++ [32] ++ wr x := by simp [wt, wtail]
theorem wt_more (a b : Tk) (r : List Tk) (x : Tk) : wt (a :: b :: r ++ [x]) = wt (a :: b :: r) ++ ((if bb ((b :: r).getLast (by simp)) x = true then [32] else []) ++ wr x) := by
  show wr a ++ ([32] ++ (wr b ++ wtail b (r ++ [x]))) = _
  rw [wtail_snoc]
  simp [wt, List.append_assoc]

theorem wt_take (c : List Tk) (k : Nat) (x y : Tk) (hx : c[k]? = some x) (hy : 2 ≤ k → c[k - 1]? = some y) :
    wt (c.take (k + 1)) = wt (c.take k) ++ ((if k = 0 then [] else if k = 1 then [32] else if bb y x = true then [32] else []) ++ wr x) := by
  have hk := (List.getElem?_eq_some_iff.1 hx).1
  have ex : c[k] = x := (List.getElem?_eq_some_iff.1 hx).2
  have e : c.take (k + 1) = c.take k ++ [x] := by rw [List.take_succ_eq_append_getElem hk, ex]
  rw [e]
  by_cases h0 : k = 0
  · subst h0
    simp [wt]
  · by_cases h1 : k = 1
    · subst h1
      obtain ⟨a, r, hc⟩ : ∃ a r, c = a :: r := by
        cases c with
        | nil => simp at hk
        | cons a r => exact ⟨a, r, rfl⟩
      subst hc
      simp [wt, wtail]
    · rw [if_neg h0, if_neg h1]
      have hy' := hy (by omega)
      match c, hk, hx, hy' with
      | [], hk, _, _ => simp at hk
      | [_], hk, _, _ => simp at hk; omega
      | a :: b :: r, hk, hx, hy' =>
        obtain ⟨m, rfl⟩ : ∃ m, k = m + 2 := ⟨k - 2, by omega⟩
        simp only [List.take_succ_cons]
        rw [wt_more]
        have hl : (b :: r.take m).getLast (by simp) = y := by
          have h2 : (b :: r)[m]? = some y := by simpa using hy'
          rw [List.getLast_eq_getElem]
          have hm : m ≤ r.length := by simp at hk; omega
          have h3 : (b :: List.take m r)[m]? = some y := by
            rw [← List.take_succ_cons, List.getElem?_take, if_pos (by omega)]
            exact h2
          have h4 := (List.getElem?_eq_some_iff.1 h3)
          have h5 : (b :: List.take m r).length - 1 = m := by simp; omega
          simp only [h5]
          exact h4.2
        rw [hl]
end Pl

set_option maxRecDepth 100000 in
set_option maxHeartbeats 400000 in
theorem written_any (t : Pl.Tk) (w : World) (hG : Gl w) (hn : t.k = 110 → -9223372036854775808 ≤ t.n ∧ t.n ≤ 9223372036854775807) :
    Calls Tryz.prog 120 #[.agg #[.int .i64 (Pl.pk t), .string ⟨(Pl.praw t).toArray⟩, .int .i64 t.n, .int .i64 t.pl]] w fun e w' => e = .returned (.string ⟨(Pl.wr t).toArray⟩) ∧ Below w.heap.size w w' := by
  by_cases hk : t.k = 110
  · have e : Pl.wr t = Lib.itoa t.n := by unfold Pl.wr; rw [if_pos hk]
    rw [e, Pl.pk_num.2 hk]
    obtain ⟨hn1, hn2⟩ := hn hk
    clear hn
    have HI : Hid (∀ w1, Gl w1 → Calls Tryz.prog 146 #[.int .i64 t.n] w1 fun e w' => e = .returned (.string ⟨(Lib.itoa t.n).toArray⟩) ∧ Below w1.heap.size w1 w') := fun w1 g1 => by
      refine (Tryz.strconv_Itoa t.n hn1 hn2 w1 g1.tab).mono ?_
      rintro e w' ⟨rfl, k, os, rfl⟩
      exact ⟨rfl, Lib.below_grow _ _ (Nat.le_refl _) _ _⟩
    clear hn1 hn2
    go_enter Tryz.func120, Tryz.ntmps120
    go_wp2_with fail
    refine (HI.out _ (hG.alloc _)).mono ?_
    rintro e w1 ⟨rfl, hb⟩
    go_wp2_with fail
    go_ret
    exact ⟨rfl, ((Below.refl _ _).alloc (Nat.le_refl _) _).trans (hb.mono (by simp))⟩
  · have e : Pl.wr t = Pl.praw t := by unfold Pl.wr; rw [if_neg hk]
    rw [e]
    have hp3 : (Pl.pk t == 3) = false := by
      rw [beq_eq_false_iff_ne]; intro h; exact hk (Pl.pk_num.1 h)
    generalize Pl.pk t = pku at *
    go_enter Tryz.func120, Tryz.ntmps120
    go_wp2
    go_ret
    exact ⟨rfl, (Below.refl _ _).alloc (Nat.le_refl _) _⟩

set_option maxRecDepth 100000 in
set_option maxHeartbeats 400000 in
theorem blankBetween_any (a b : Pl.Tk) (w : World) :
    Calls Tryz.prog 117 #[.agg #[.int .i64 (Pl.pk a), .string ⟨(Pl.praw a).toArray⟩, .int .i64 a.n, .int .i64 a.pl], .agg #[.int .i64 (Pl.pk b), .string ⟨(Pl.praw b).toArray⟩, .int .i64 b.n, .int .i64 b.pl]] w fun e w' => e = .returned (.bool (Pl.bb a b)) ∧ Below w.heap.size w w' := by
  have hbel : ∀ o1 o2, Below w.heap.size w ((w.alloc o1).alloc o2) := fun o1 o2 => ((Below.refl _ _).alloc (Nat.le_refl _) _).alloc (by simp) _
  have hc : ((⟨(Pl.praw a).toArray⟩ : ByteArray).toList == [44]) = decide (Pl.praw a = [44]) := by
    rw [ByteArray.toList_eq, Bool.eq_iff_iff]
    simp
  cases h1 : decide (Pl.praw a = [44])
  · rw [h1] at hc
    have e1 : Pl.bb a b = (decide (a.k = 110) && decide (b.k = 110)) := by unfold Pl.bb; rw [h1]; rfl
    rw [e1]
    have hpa : (Pl.pk a == 3) = decide (a.k = 110) := by
      rw [Bool.eq_iff_iff]; simp [Pl.pk_num]
    have hpb : (Pl.pk b == 3) = decide (b.k = 110) := by
      rw [Bool.eq_iff_iff]; simp [Pl.pk_num]
    generalize (⟨(Pl.praw a).toArray⟩ : ByteArray) = ra at *
    generalize (⟨(Pl.praw b).toArray⟩ : ByteArray) = rb at *
    generalize decide (a.k = 110) = da at *
    generalize decide (b.k = 110) = db at *
    generalize Pl.pk a = pa at *
    generalize Pl.pk b = pb at *
    clear h1 e1
    cases da
    · go_enter Tryz.func117, Tryz.ntmps117
      go_wp2
      go_ret
      exact ⟨rfl, hbel _ _⟩
    · go_enter Tryz.func117, Tryz.ntmps117
      go_wp2
      go_ret
      exact ⟨ret_bool (by simp), hbel _ _⟩
  · rw [h1] at hc
    have e1 : Pl.bb a b = true := by unfold Pl.bb; rw [h1]; rfl
    rw [e1]
    generalize (⟨(Pl.praw a).toArray⟩ : ByteArray) = ra at *
    clear h1 e1
    go_enter Tryz.func117, Tryz.ntmps117
    go_wp2
    go_ret
    exact ⟨rfl, hbel _ _⟩

end Go.Proofs.YtkjhhooecopolaaGreatDoor

namespace Go.Proofs.YtkjhhooecopolaaGreatDoor
open Go.RowKit

theorem bld_below {B b : Nat} {bs : List Value} {w w' : World} (h : Lib.IsBuilder 196 5 B b bs w) (hb : Below w.heap.size w w') : Lib.IsBuilder 196 5 B b bs w' := by
  rcases h with ⟨hB, v, hbk, hown, hne⟩ | ⟨hB, v, hbk, hown, hne⟩
  · exact Or.inl ⟨hB, v, (hb.block b (lt_of_heap hbk)).trans hbk, own_kept hown fun k hk => hb.block k (own_lt hown k hk).2, hne⟩
  · exact Or.inr ⟨hB, v, (hb.block b (lt_of_heap hbk)).trans hbk, own_kept hown fun k hk => hb.block k (own_lt hown k hk).2, hne⟩

theorem bytes_snoc (l : List UInt8) : Lib.byteCells l ++ [.int .u8 32] = Lib.byteCells (l ++ [32]) := by simp [Lib.byteCells]
theorem bytes_str (l r : List UInt8) : Lib.byteCells l ++ Lib.strCells ⟨r.toArray⟩ = Lib.byteCells (l ++ r) := by simp [Lib.byteCells, Lib.strCells]

/-- What the loop of writeTokens has: k tokens are written. -/
def Wrote (w : World) (c : List Pl.Tk) (k : Nat) (wr : World) : Prop :=
  Lib.IsBuilder 196 5 w.heap.size w.heap.size (Lib.byteCells (Pl.wt (c.take k))) wr ∧ Below w.heap.size w wr ∧ Gl wr ∧ w.heap.size < wr.heap.size

theorem Gl.drewN {w : World} (h : Gl w) (n : Nat) : Gl (w.drewN n) := ⟨h.sz, h.es, h.er, h.tab⟩
theorem below_dn {B : Nat} {w w' : World} (h : Below B w w') (n : Nat) : Below B w (w'.drewN n) := ⟨h.os, h.tape, h.output, h.size, h.block⟩
theorem bld_dn {B b n : Nat} {bs : List Value} {w : World} (h : Lib.IsBuilder 196 5 B b bs w) : Lib.IsBuilder 196 5 B b bs (w.drewN n) := h

theorem past_cell {w w1 : World} {o : Obj} (hb : Below (w.alloc o).drew.heap.size (w.alloc o).drew w1) {p : Addr} {v : Value} (hp : w.cell? p = some v) : w1.cell? p = some v := by
  have h := World.block_lt_of_cell? w p hp
  rw [hb.cell (p := p) (by show p.block < (w.alloc o).heap.size; rw [World.size_alloc]; omega)]
  exact (World.cell?_alloc_lt _ _ _ h).trans hp
theorem past_box {w w1 : World} {o : Obj} (hb : Below (w.alloc o).drew.heap.size (w.alloc o).drew w1) : w1.heap[w.heap.size]? = some o :=
  (hb.block w.heap.size (by show w.heap.size < (w.alloc o).heap.size; rw [World.size_alloc]; omega)).trans (heap_alloc_new w o)

def sep (k : Nat) (y x : Pl.Tk) : List UInt8 := if k = 0 then [] else if k = 1 then [32] else if Pl.bb y x = true then [32] else []

theorem wt_bound (c : List Pl.Tk) (hw : ∀ t ∈ c, (Pl.wr t).length ≤ 400) : ∀ k, (Pl.wt (c.take k)).length ≤ k * 401
  | 0 => by simp [Pl.wt]
  | k + 1 => by
    have ih := wt_bound c hw k
    by_cases hk : k < c.length
    · have hx : c[k]? = some c[k] := List.getElem?_eq_getElem hk
      have hl := hw c[k] (List.getElem_mem hk)
      have hy : 2 ≤ k → c[k - 1]? = some (c[k - 1]'(by omega)) := fun _ => List.getElem?_eq_getElem (by omega)
      rw [Pl.wt_take c k c[k] (c[k - 1]'(by omega)) hx hy]
      simp only [List.length_append]
      have : (if k = 0 then ([] : List UInt8) else if k = 1 then [32] else if Pl.bb (c[k - 1]'(by omega)) c[k] = true then [32] else []).length ≤ 1 := by
        repeat' split
        all_goals simp
      omega
    · have e : c.take (k + 1) = c.take k := by rw [List.take_of_length_le (by omega), List.take_of_length_le (by omega)]
      rw [e]
      exact Nat.le_trans ih (Nat.mul_le_mul_right _ (Nat.le_succ _))

set_option maxRecDepth 100000 in
set_option maxHeartbeats 2000000 in
theorem writeTokens_any (c : List Pl.Tk) (g cap : Nat) (w : World) (hG : Gl w) (hg : g < w.heap.size) (hrow : ∀ j u, (tokRow c)[j]? = some u → w.cell? ⟨g, j, none⟩ = some u)
    (hc : c.length ≤ 402) (hw : ∀ t ∈ c, (Pl.wr t).length ≤ 400) (hn : ∀ t ∈ c, t.k = 110 → -9223372036854775808 ≤ t.n ∧ t.n ≤ 9223372036854775807) :
    Calls Tryz.prog 70 #[.slice (some ⟨g, 0, none⟩) c.length cap] w fun e w' => e = .returned (.string ⟨(Pl.wt c).toArray⟩) ∧ Below w.heap.size w w' := by
  have HROW : Hid (∀ j u, (tokRow c)[j]? = some u → w.cell? ⟨g, j, none⟩ = some u) := hrow
  have HW : Hid (∀ t ∈ c, (Pl.wr t).length ≤ 400) := hw
  have HN : Hid (∀ t ∈ c, t.k = 110 → -9223372036854775808 ≤ t.n ∧ t.n ≤ 9223372036854775807) := hn
  have HS : Hid (Wrote w c 0 (w.alloc (.cells #[.pointer none, .slice none 0 0] 196))) := ⟨Lib.fresh_isBuilder 196 5 w, (Below.refl _ _).alloc (Nat.le_refl _) _, hG.alloc _, by simp⟩
  clear hrow hw hn
  go_enter Tryz.func70, Tryz.ntmps70
  go_wp2_with fail
  go_loopg [8] c.length (fun n i wr => ∃ k : Nat, k + n = c.length ∧ i = .int .i64 k ∧ Hid (Wrote w c k wr))
  case atStart => exact ⟨0, by omega, rfl, HS⟩
  case round =>
    obtain ⟨k, hkn, rfl, hwr⟩ := hrel
    obtain ⟨hB, hbel, hGr, hsz⟩ := hwr.out
    by_cases hlt : k < c.length
    · obtain ⟨u, hu⟩ : ∃ u, c[k]? = some u := ⟨_, List.getElem?_eq_getElem hlt⟩
      have hmem : u ∈ c := List.mem_of_getElem? hu
      have hbd := wt_bound c HW.out k
      have hul := HW.out u hmem
      have HU : Hid (u.k = 110 → -9223372036854775808 ≤ u.n ∧ u.n ≤ 9223372036854775807) := HN.out u hmem
      have e0 : wr.cell? ⟨g, k * 4, none⟩ = some (.int .i64 (Pl.pk u)) := by
        rw [hbel.cell (p := ⟨g, k * 4, none⟩) hg]
        exact HROW.out (k * 4) (.int .i64 (Pl.pk u)) (by have := tokRow_get c k u hu 0 (by omega); rw [Nat.add_zero] at this; rw [this]; rfl)
      have e1 : wr.cell? ⟨g, k * 4 + 1, none⟩ = some (.string ⟨(Pl.praw u).toArray⟩) := by
        rw [hbel.cell (p := ⟨g, k * 4 + 1, none⟩) hg]
        exact HROW.out (k * 4 + 1) (.string ⟨(Pl.praw u).toArray⟩) (by rw [tokRow_get c k u hu 1 (by omega)]; rfl)
      have e2 : wr.cell? ⟨g, k * 4 + 2, none⟩ = some (.int .i64 u.n) := by
        rw [hbel.cell (p := ⟨g, k * 4 + 2, none⟩) hg]
        exact HROW.out (k * 4 + 2) (.int .i64 u.n) (by rw [tokRow_get c k u hu 2 (by omega)]; rfl)
      have e3 : wr.cell? ⟨g, k * 4 + 3, none⟩ = some (.int .i64 u.pl) := by
        rw [hbel.cell (p := ⟨g, k * 4 + 3, none⟩) hg]
        exact HROW.out (k * 4 + 3) (.int .i64 u.pl) (by rw [tokRow_get c k u hu 3 (by omega)]; rfl)
      have hbox : (wr.alloc (.cells #[.int .i64 (Pl.pk u), .string ⟨(Pl.praw u).toArray⟩, .int .i64 u.n, .int .i64 u.pl] 76)).heap[wr.heap.size]? = some (.cells #[.int .i64 (Pl.pk u), .string ⟨(Pl.praw u).toArray⟩, .int .i64 u.n, .int .i64 u.pl] 76 (0, 0)) := heap_alloc_new wr _
      have hBa := bld_below hB ((Below.refl _ _).alloc (Nat.le_refl _) (.cells #[.int .i64 (Pl.pk u), .string ⟨(Pl.praw u).toArray⟩, .int .i64 u.n, .int .i64 u.pl] 76))
      have hGa := hGr.alloc (.cells #[.int .i64 (Pl.pk u), .string ⟨(Pl.praw u).toArray⟩, .int .i64 u.n, .int .i64 u.pl] 76)
      have hbela := hbel.alloc hbel.size (.cells #[.int .i64 (Pl.pk u), .string ⟨(Pl.praw u).toArray⟩, .int .i64 u.n, .int .i64 u.pl] 76)
      have HUU : Hid (c[k]? = some u) := hu
      clear hu
      by_cases hk0 : k = 0
      · have HT : Hid (Pl.wt (c.take (k + 1)) = Pl.wt (c.take k) ++ Pl.wr u) := by
          have := Pl.wt_take c k u u HUU.out (fun h => by omega)
          rw [if_pos hk0, List.nil_append] at this
          exact this
        have hq1 : ((k : Int) == 1) = false := by simp; omega
        have hq2 : decide (1 < (k : Int)) = false := by simp; omega
        clear hk0
        go_wp2_with fail
        go_quiet (fail)
        have hB1 : Lib.IsBuilder 196 5 w.heap.size w.heap.size _ ((wr.alloc (.cells #[.int .i64 (Pl.pk u), .string ⟨(Pl.praw u).toArray⟩, .int .i64 u.n, .int .i64 u.pl] 76)).drewN nq) := bld_dn hBa
        have hx1 : ((wr.alloc (.cells #[.int .i64 (Pl.pk u), .string ⟨(Pl.praw u).toArray⟩, .int .i64 u.n, .int .i64 u.pl] 76)).drewN nq).heap[wr.heap.size]? = _ := hbox
        have hG1 : Gl ((wr.alloc (.cells #[.int .i64 (Pl.pk u), .string ⟨(Pl.praw u).toArray⟩, .int .i64 u.n, .int .i64 u.pl] 76)).drewN nq) := hGa.drewN nq
        have hbel1 : Below w.heap.size w ((wr.alloc (.cells #[.int .i64 (Pl.pk u), .string ⟨(Pl.praw u).toArray⟩, .int .i64 u.n, .int .i64 u.pl] 76)).drewN nq) := below_dn hbela nq
        have y0 : ((wr.alloc (.cells #[.int .i64 (Pl.pk u), .string ⟨(Pl.praw u).toArray⟩, .int .i64 u.n, .int .i64 u.pl] 76)).drewN nq).cell? ⟨wr.heap.size, 0, none⟩ = some (.int .i64 (Pl.pk u)) := cell_of hx1 0
        have y1 : ((wr.alloc (.cells #[.int .i64 (Pl.pk u), .string ⟨(Pl.praw u).toArray⟩, .int .i64 u.n, .int .i64 u.pl] 76)).drewN nq).cell? ⟨wr.heap.size, 1, none⟩ = some (.string ⟨(Pl.praw u).toArray⟩) := cell_of hx1 1
        have y2 : ((wr.alloc (.cells #[.int .i64 (Pl.pk u), .string ⟨(Pl.praw u).toArray⟩, .int .i64 u.n, .int .i64 u.pl] 76)).drewN nq).cell? ⟨wr.heap.size, 2, none⟩ = some (.int .i64 u.n) := cell_of hx1 2
        have y3 : ((wr.alloc (.cells #[.int .i64 (Pl.pk u), .string ⟨(Pl.praw u).toArray⟩, .int .i64 u.n, .int .i64 u.pl] 76)).drewN nq).cell? ⟨wr.heap.size, 3, none⟩ = some (.int .i64 u.pl) := cell_of hx1 3
        go_wp2_with fail
        refine (written_any u _ hG1 HU.out).mono ?_
        rintro e w3 ⟨rfl, hb3⟩
        have hB3 := bld_below hB1 hb3
        have hbel3 := hbel1.trans (hb3.mono hbel1.size)
        have hG3 := hG1.below hb3 hG1.sz
        go_wp2_with fail
        refine (writeString_any w.heap.size w.heap.size _ ⟨(Pl.wr u).toArray⟩ w3 hB3 (Nat.le_trans hbel1.size hb3.size) (by simp [Lib.byteCells]; omega) (by show (Pl.wr u).toArray.size ≤ _; simp; omega)).mono ?_
        rintro e w4 ⟨rfl, hB4, hb4, _⟩
        rw [bytes_str] at hB4
        go_wp2_with fail
        go_roundg (gk - 1)
        case measure => omega
        case rel => exact ⟨k + 1, by omega, by go_num, ⟨by rw [HT.out]; exact hB4, hbel3.trans hb4, hG3.below hb4 hG.sz, by have h1 := hb3.size; have h2 := hb4.size; simp at h1; omega⟩⟩
      · obtain ⟨m, rfl⟩ : ∃ m, k = m + 1 := ⟨k - 1, by omega⟩
        clear hk0
        by_cases hk1 : m = 0
        · have HT : Hid (Pl.wt (c.take (m + 1 + 1)) = Pl.wt (c.take (m + 1)) ++ [32] ++ Pl.wr u) := by
            have := Pl.wt_take c (m + 1) u u HUU.out (fun h => by omega)
            rw [if_neg (by omega), if_pos (by omega), ← List.append_assoc] at this
            exact this
          have hq1 : ((m : Int) + 1 == 1) = true := by simp; omega
          clear hk1
          go_wp2_with fail
          go_quiet (fail)
          have hBq : Lib.IsBuilder 196 5 w.heap.size w.heap.size _ ((wr.alloc (.cells #[.int .i64 (Pl.pk u), .string ⟨(Pl.praw u).toArray⟩, .int .i64 u.n, .int .i64 u.pl] 76)).drewN nq) := bld_dn hBa
          have hxq : ((wr.alloc (.cells #[.int .i64 (Pl.pk u), .string ⟨(Pl.praw u).toArray⟩, .int .i64 u.n, .int .i64 u.pl] 76)).drewN nq).heap[wr.heap.size]? = _ := hbox
          have hGq : Gl ((wr.alloc (.cells #[.int .i64 (Pl.pk u), .string ⟨(Pl.praw u).toArray⟩, .int .i64 u.n, .int .i64 u.pl] 76)).drewN nq) := hGa.drewN nq
          have hbelq : Below w.heap.size w ((wr.alloc (.cells #[.int .i64 (Pl.pk u), .string ⟨(Pl.praw u).toArray⟩, .int .i64 u.n, .int .i64 u.pl] 76)).drewN nq) := below_dn hbela nq
          have hzq : w.heap.size < ((wr.alloc (.cells #[.int .i64 (Pl.pk u), .string ⟨(Pl.praw u).toArray⟩, .int .i64 u.n, .int .i64 u.pl] 76)).drewN nq).heap.size := by show _ < (wr.alloc _).heap.size; simp; omega
          go_wp2_with fail
          refine (writeByte_any w.heap.size w.heap.size _ 32 _ hBq hbelq.size (by simp [Lib.byteCells]; omega)).mono ?_
          rintro e w2 ⟨rfl, hB1, hb2, hk2⟩
          rw [bytes_snoc] at hB1
          have hx1 := hk2 wr.heap.size _ hxq (by simp; omega) (by intro c fz h; cases h)
          have hG1 : Gl w2 := hGq.below hb2 hG.sz
          have hbel1 : Below w.heap.size w w2 := hbelq.trans hb2
          have hz1 : w.heap.size < w2.heap.size := by have := hb2.size; omega
          have y0 : w2.cell? ⟨wr.heap.size, 0, none⟩ = some (.int .i64 (Pl.pk u)) := cell_of hx1 0
          have y1 : w2.cell? ⟨wr.heap.size, 1, none⟩ = some (.string ⟨(Pl.praw u).toArray⟩) := cell_of hx1 1
          have y2 : w2.cell? ⟨wr.heap.size, 2, none⟩ = some (.int .i64 u.n) := cell_of hx1 2
          have y3 : w2.cell? ⟨wr.heap.size, 3, none⟩ = some (.int .i64 u.pl) := cell_of hx1 3
          go_wp2_with fail
          refine (written_any u _ hG1 HU.out).mono ?_
          rintro e w3 ⟨rfl, hb3⟩
          have hB3 := bld_below hB1 hb3
          have hbel3 := hbel1.trans (hb3.mono hbel1.size)
          have hG3 := hG1.below hb3 hG1.sz
          go_wp2_with fail
          refine (writeString_any w.heap.size w.heap.size _ ⟨(Pl.wr u).toArray⟩ w3 hB3 (Nat.le_trans hbel1.size hb3.size) (by simp [Lib.byteCells]; omega) (by show (Pl.wr u).toArray.size ≤ _; simp; omega)).mono ?_
          rintro e w4 ⟨rfl, hB4, hb4, _⟩
          rw [bytes_str] at hB4
          go_wp2_with fail
          go_roundg (gk - 1)
          case measure => omega
          case rel => exact ⟨(m + 1) + 1, by omega, by go_num, ⟨by rw [HT.out]; exact hB4, hbel3.trans hb4, hG3.below hb4 hG.sz, by have h0 := hz1; have h1 := hb3.size; have h2 := hb4.size; omega⟩⟩
        · obtain ⟨y, hy⟩ : ∃ y, c[m]? = some y := ⟨_, List.getElem?_eq_getElem (by omega)⟩
          have z0 : wr.cell? ⟨g, m * 4, none⟩ = some (.int .i64 (Pl.pk y)) := by
            rw [hbel.cell (p := ⟨g, m * 4, none⟩) hg]
            exact HROW.out (m * 4) (.int .i64 (Pl.pk y)) (by have := tokRow_get c m y hy 0 (by omega); rw [Nat.add_zero] at this; rw [this]; rfl)
          have z1 : wr.cell? ⟨g, m * 4 + 1, none⟩ = some (.string ⟨(Pl.praw y).toArray⟩) := by
            rw [hbel.cell (p := ⟨g, m * 4 + 1, none⟩) hg]
            exact HROW.out (m * 4 + 1) (.string ⟨(Pl.praw y).toArray⟩) (by rw [tokRow_get c m y hy 1 (by omega)]; rfl)
          have z2 : wr.cell? ⟨g, m * 4 + 2, none⟩ = some (.int .i64 y.n) := by
            rw [hbel.cell (p := ⟨g, m * 4 + 2, none⟩) hg]
            exact HROW.out (m * 4 + 2) (.int .i64 y.n) (by rw [tokRow_get c m y hy 2 (by omega)]; rfl)
          have z3 : wr.cell? ⟨g, m * 4 + 3, none⟩ = some (.int .i64 y.pl) := by
            rw [hbel.cell (p := ⟨g, m * 4 + 3, none⟩) hg]
            exact HROW.out (m * 4 + 3) (.int .i64 y.pl) (by rw [tokRow_get c m y hy 3 (by omega)]; rfl)
          have hTT := Pl.wt_take c (m + 1) u y HUU.out (fun h => hy)
          rw [if_neg (by omega), if_neg (by omega)] at hTT
          have HTT : Hid (Pl.wt (c.take (m + 1 + 1)) = Pl.wt (c.take (m + 1)) ++ ((if Pl.bb y u = true then [32] else []) ++ Pl.wr u)) := hTT
          have hq1 : ((m : Int) + 1 == 1) = false := by simp; omega
          have hq2 : (1 : Int) < (m : Int) + 1 := by omega
          have hgr : g < wr.heap.size := by omega
          have hbm : (m : Int) < (c.length : Int) := by omega
          have hbm0 : (0 : Int) ≤ (m : Int) := by omega
          have hbn : m < c.length := by omega
          have hwr1 : IntKind.i64.wrap (m : Int) = (m : Int) := by rw [IntKind.wrap_i64]; omega
          have hwr2 : IntKind.i64.wrap ((m : Int) + 1 - 1) = (m : Int) := by rw [IntKind.wrap_i64]; omega
          clear hTT hy hk1
          go_wp2_with fail
          go_region_held3 (fun w' => w'.cell? ⟨g, m * 4, none⟩ = some (.int .i64 (Pl.pk y)) ∧ w'.cell? ⟨g, m * 4 + 1, none⟩ = some (.string ⟨(Pl.praw y).toArray⟩) ∧ w'.cell? ⟨g, m * 4 + 2, none⟩ = some (.int .i64 y.n) ∧ w'.cell? ⟨g, m * 4 + 3, none⟩ = some (.int .i64 y.pl) ∧ w'.cell? ⟨wr.heap.size, 0, none⟩ = some (.int .i64 (Pl.pk u)) ∧ w'.cell? ⟨wr.heap.size, 1, none⟩ = some (.string ⟨(Pl.praw u).toArray⟩) ∧ w'.cell? ⟨wr.heap.size, 2, none⟩ = some (.int .i64 u.n) ∧ w'.cell? ⟨wr.heap.size, 3, none⟩ = some (.int .i64 u.pl)) (go_keep) (first | (go_at_call 117; refine (blankBetween_any y u _).mono ?_; rintro e w1 ⟨rfl, hb1⟩; have hz0 : wr.heap.size < w1.heap.size := (by have h := hb1.size; simp at h; omega); have q0 := past_cell hb1 z0; have q1 := past_cell hb1 z1; have q2 := past_cell hb1 z2; have q3 := past_cell hb1 z3; have hbx1 := past_box hb1; have p0 : w1.cell? ⟨wr.heap.size, 0, none⟩ = some (.int .i64 (Pl.pk u)) := cell_of hbx1 0; have p1 : w1.cell? ⟨wr.heap.size, 1, none⟩ = some (.string ⟨(Pl.praw u).toArray⟩) := cell_of hbx1 1; have p2 : w1.cell? ⟨wr.heap.size, 2, none⟩ = some (.int .i64 u.n) := cell_of hbx1 2; have p3 : w1.cell? ⟨wr.heap.size, 3, none⟩ = some (.int .i64 u.pl) := cell_of hbx1 3))
          have hbw : Below (wr.alloc (.cells #[.int .i64 (Pl.pk u), .string ⟨(Pl.praw u).toArray⟩, .int .i64 u.n, .int .i64 u.pl] 76)).heap.size (wr.alloc (.cells #[.int .i64 (Pl.pk u), .string ⟨(Pl.praw u).toArray⟩, .int .i64 u.n, .int .i64 u.pl] 76)) w1 := ⟨hb1.os, hb1.tape, hb1.output, hb1.size, hb1.block⟩
          have hBq : Lib.IsBuilder 196 5 w.heap.size w.heap.size _ w1 := bld_below hBa hbw
          have hxq := hbx1
          have hGq : Gl w1 := hGa.below hbw hGa.sz
          have hbelq : Below w.heap.size w w1 := hbela.trans (hbw.mono hbela.size)
          have hzq : w.heap.size < w1.heap.size := by omega
          clear z0 z1 z2 z3 q0 q1 q2 q3 hwr1 hwr2
          cases hbb : Pl.bb y u
          · have hB1 := hBq
            have hG1 := hGq
            have hbel1 := hbelq
            have hz1 := hzq
            go_wp2_with fail
            refine (written_any u _ hG1 HU.out).mono ?_
            rintro e w3 ⟨rfl, hb3⟩
            have hB3 := bld_below hB1 hb3
            have hbel3 := hbel1.trans (hb3.mono hbel1.size)
            have hG3 := hG1.below hb3 hG1.sz
            go_wp2_with fail
            refine (writeString_any w.heap.size w.heap.size _ ⟨(Pl.wr u).toArray⟩ w3 hB3 (Nat.le_trans hbel1.size hb3.size) (by simp [Lib.byteCells]; omega) (by show (Pl.wr u).toArray.size ≤ _; simp; omega)).mono ?_
            rintro e w4 ⟨rfl, hB4, hb4, _⟩
            rw [bytes_str] at hB4
            go_wp2_with fail
            go_roundg (gk - 1)
            case measure => omega
            case rel => exact ⟨m + 1 + 1, by omega, by go_num, ⟨by rw [HTT.out, hbb, if_neg (by simp), List.nil_append]; exact hB4, hbel3.trans hb4, hG3.below hb4 hG.sz, by have h0 := hz1; have h1 := hb3.size; have h2 := hb4.size; omega⟩⟩
          · clear p0 p1 p2 p3
            go_wp2_with fail
            refine (writeByte_any w.heap.size w.heap.size _ 32 _ hBq hbelq.size (by simp [Lib.byteCells]; omega)).mono ?_
            rintro e w2 ⟨rfl, hB1, hb2, hk2⟩
            rw [bytes_snoc] at hB1
            have hx1 := hk2 wr.heap.size _ hxq (by simp; omega) (by intro c fz h; cases h)
            have hG1 : Gl w2 := hGq.below hb2 hG.sz
            have hbel1 : Below w.heap.size w w2 := hbelq.trans hb2
            have hz1 : w.heap.size < w2.heap.size := by have := hb2.size; omega
            have y0 : w2.cell? ⟨wr.heap.size, 0, none⟩ = some (.int .i64 (Pl.pk u)) := cell_of hx1 0
            have y1 : w2.cell? ⟨wr.heap.size, 1, none⟩ = some (.string ⟨(Pl.praw u).toArray⟩) := cell_of hx1 1
            have y2 : w2.cell? ⟨wr.heap.size, 2, none⟩ = some (.int .i64 u.n) := cell_of hx1 2
            have y3 : w2.cell? ⟨wr.heap.size, 3, none⟩ = some (.int .i64 u.pl) := cell_of hx1 3
            go_wp2_with fail
            refine (written_any u _ hG1 HU.out).mono ?_
            rintro e w3 ⟨rfl, hb3⟩
            have hB3 := bld_below hB1 hb3
            have hbel3 := hbel1.trans (hb3.mono hbel1.size)
            have hG3 := hG1.below hb3 hG1.sz
            go_wp2_with fail
            refine (writeString_any w.heap.size w.heap.size _ ⟨(Pl.wr u).toArray⟩ w3 hB3 (Nat.le_trans hbel1.size hb3.size) (by simp [Lib.byteCells]; omega) (by show (Pl.wr u).toArray.size ≤ _; simp; omega)).mono ?_
            rintro e w4 ⟨rfl, hB4, hb4, _⟩
            rw [bytes_str] at hB4
            go_wp2_with fail
            go_roundg (gk - 1)
            case measure => omega
            case rel => exact ⟨m + 1 + 1, by omega, by go_num, ⟨by rw [HTT.out, hbb, if_pos rfl, ← List.append_assoc]; exact hB4, hbel3.trans hb4, hG3.below hb4 hG.sz, by have h0 := hz1; have h1 := hb3.size; have h2 := hb4.size; omega⟩⟩
    · have hke : k = c.length := by omega
      subst hke
      rw [List.take_length] at hB
      go_wp2_with fail
      refine (Tryz.Builder_String_any w.heap.size w.heap.size (Pl.wt c) _ hB hbel.size).mono ?_
      rintro e w3 ⟨rfl, hb3⟩
      go_wp2_with fail
      go_ret
      exact ⟨rfl, hbel.trans hb3⟩

end Go.Proofs.YtkjhhooecopolaaGreatDoor
