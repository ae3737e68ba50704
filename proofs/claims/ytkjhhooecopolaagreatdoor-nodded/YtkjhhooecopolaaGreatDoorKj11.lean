import Derived.Test.YtkjhhooecopolaaGreatDoorKj10
import Derived.Lib.ItoaLen
import Derived.Lib.AppendIntMem
import Derived.Deep.RegionHeld3
namespace Go.Proofs.YtkjhhooecopolaaGreatDoor
open Go.RowKit

namespace Pl
/-- A token as it is written. -/
def wr (t : Tk) : List UInt8 := if t.k = 110 then Lib.itoa t.n else praw t
/-- Does a blank stand between two tokens (behind the first word)? -/
def bb (a b : Tk) : Bool := decide (praw a = [44]) || (decide (a.k = 110) && decide (b.k = 110))
def wtail : Tk → List Tk → List UInt8
  | _, [] => []
  | p, t :: r => (if bb p t = true then [32] else []) ++ (wr t ++ wtail t r)
def wt : List Tk → List UInt8
  | [] => []
  | [t] => wr t
  | a :: b :: r => wr a ++ ([32] ++ (wr b ++ wtail b r))

theorem wtail_snoc (p : Tk) (l : List Tk) (x : Tk) : wtail p (l ++ [x]) = wtail p l ++ ((if bb ((p :: l).getLast (by simp)) x = true then [32] else []) ++ wr x) := by
  induction l generalizing p with
  | nil =>
    simp only [List.nil_append, wtail, List.append_nil, List.getLast_singleton]
    rfl
  | cons a r ih =>
    rw [List.cons_append, wtail, ih a, wtail]
    rw [List.getLast_cons (by simp : a :: r ≠ [])]
    simp [List.append_assoc]

theorem wt_zero (x : Tk) : wt ([] ++ [x]) = wt [] ++ wr x := rfl
theorem wt_one (a x : Tk) : wt ([a] ++ [x]) = wt [a] ++ [32] ++ wr x := by simp [wt, wtail]
theorem wt_more (a b : Tk) (r : List Tk) (x : Tk) : wt (a :: b :: r ++ [x]) = wt (a :: b :: r) ++ ((if bb ((b :: r).getLast (by simp)) x = true then [32] else []) ++ wr x) := by
  show wr a ++ ([32] ++ (wr b ++ wtail b (r ++ [x]))) = _
  rw [wtail_snoc]
  simp [wt, List.append_assoc]

theorem wt_take (c : List Tk) (k : Nat) (x y : Tk) (hx : c[k]? = some x) (hy : 2 ≤ k → c[k - 1]? = some y) :
    wt (c.take (k + 1)) = wt (c.take k) ++ ((if k = 0 then [] else if k = 1 then [32] else if bb y x = true then [32] else []) ++ wr x) := by
  have hk := (List.getElem?_eq_some_iff.1 hx).1
  have ex : c[k] = x := (List.getElem?_eq_some_iff.1 hx).2
  have e : c.take (k + 1) = c.take k ++ [x] := by rw [List.take_succ_eq_append_getElem hk, ex]
  rw [e]
  by_cases h0 : k = 0
  · subst h0
    simp [wt]
  · by_cases h1 : k = 1
    · subst h1
      obtain ⟨a, r, hc⟩ : ∃ a r, c = a :: r := by
        cases c with
        | nil => simp at hk
        | cons a r => exact ⟨a, r, rfl⟩
      subst hc
      simp [wt, wtail]
    · rw [if_neg h0, if_neg h1]
      have hy' := hy (by omega)
      match c, hk, hx, hy' with
      | [], hk, _, _ => simp at hk
      | [_], hk, _, _ => simp at hk; omega
      | a :: b :: r, hk, hx, hy' =>
        obtain ⟨m, rfl⟩ : ∃ m, k = m + 2 := ⟨k - 2, by omega⟩
        simp only [List.take_succ_cons]
        rw [wt_more]
        have hl : (b :: r.take m).getLast (by simp) = y := by
          have h2 : (b :: r)[m]? = some y := by simpa using hy'
          rw [List.getLast_eq_getElem]
          have hm : m ≤ r.length := by simp at hk; omega
          have h3 : (b :: List.take m r)[m]? = some y := by
            rw [← List.take_succ_cons, List.getElem?_take, if_pos (by omega)]
            exact h2
          have h4 := (List.getElem?_eq_some_iff.1 h3)
          have h5 : (b :: List.take m r).length - 1 = m := by simp; omega
          simp only [h5]
          exact h4.2
        rw [hl]
end Pl

set_option maxRecDepth 100000 in
set_option maxHeartbeats 400000 in
theorem written_any (t : Pl.Tk) (w : World) (hG : Gl w) (hn : t.k = 110 → -9223372036854775808 ≤ t.n ∧ t.n ≤ 9223372036854775807) :
    Calls Tryz.prog 120 #[.agg #[.int .i64 (Pl.pk t), .string ⟨(Pl.praw t).toArray⟩, .int .i64 t.n, .int .i64 t.pl]] w fun e w' => e = .returned (.string ⟨(Pl.wr t).toArray⟩) ∧ Below w.heap.size w w' := by
  by_cases hk : t.k = 110
  · have e : Pl.wr t = Lib.itoa t.n := by unfold Pl.wr; rw [if_pos hk]
    rw [e, Pl.pk_num.2 hk]
    obtain ⟨hn1, hn2⟩ := hn hk
    clear hn
    have HI : Hid (∀ w1, Gl w1 → Calls Tryz.prog 146 #[.int .i64 t.n] w1 fun e w' => e = .returned (.string ⟨(Lib.itoa t.n).toArray⟩) ∧ Below w1.heap.size w1 w') := fun w1 g1 => by
      refine (Tryz.strconv_Itoa t.n hn1 hn2 w1 g1.tab).mono ?_
      rintro e w' ⟨rfl, k, os, rfl⟩
      exact ⟨rfl, Lib.below_grow _ _ (Nat.le_refl _) _ _⟩
    clear hn1 hn2
    go_enter Tryz.func120, Tryz.ntmps120
    go_wp2_with fail
    refine (HI.out _ (hG.alloc _)).mono ?_
    rintro e w1 ⟨rfl, hb⟩
    go_wp2_with fail
    go_ret
    exact ⟨rfl, ((Below.refl _ _).alloc (Nat.le_refl _) _).trans (hb.mono (by simp))⟩
  · have e : Pl.wr t = Pl.praw t := by unfold Pl.wr; rw [if_neg hk]
    rw [e]
    have hp3 : (Pl.pk t == 3) = false := by
      rw [beq_eq_false_iff_ne]; intro h; exact hk (Pl.pk_num.1 h)
    generalize Pl.pk t = pku at *
    go_enter Tryz.func120, Tryz.ntmps120
    go_wp2
    go_ret
    exact ⟨rfl, (Below.refl _ _).alloc (Nat.le_refl _) _⟩

set_option maxRecDepth 100000 in
set_option maxHeartbeats 400000 in
theorem blankBetween_any (a b : Pl.Tk) (w : World) :
    Calls Tryz.prog 117 #[.agg #[.int .i64 (Pl.pk a), .string ⟨(Pl.praw a).toArray⟩, .int .i64 a.n, .int .i64 a.pl], .agg #[.int .i64 (Pl.pk b), .string ⟨(Pl.praw b).toArray⟩, .int .i64 b.n, .int .i64 b.pl]] w fun e w' => e = .returned (.bool (Pl.bb a b)) ∧ Below w.heap.size w w' := by
  have hbel : ∀ o1 o2, Below w.heap.size w ((w.alloc o1).alloc o2) := fun o1 o2 => ((Below.refl _ _).alloc (Nat.le_refl _) _).alloc (by simp) _
  have hc : ((⟨(Pl.praw a).toArray⟩ : ByteArray).toList == [44]) = decide (Pl.praw a = [44]) := by
    rw [ByteArray.toList_eq, Bool.eq_iff_iff]
    simp
  cases h1 : decide (Pl.praw a = [44])
  · rw [h1] at hc
    have e1 : Pl.bb a b = (decide (a.k = 110) && decide (b.k = 110)) := by unfold Pl.bb; rw [h1]; rfl
    rw [e1]
    have hpa : (Pl.pk a == 3) = decide (a.k = 110) := by
      rw [Bool.eq_iff_iff]; simp [Pl.pk_num]
    have hpb : (Pl.pk b == 3) = decide (b.k = 110) := by
      rw [Bool.eq_iff_iff]; simp [Pl.pk_num]
    generalize (⟨(Pl.praw a).toArray⟩ : ByteArray) = ra at *
    generalize (⟨(Pl.praw b).toArray⟩ : ByteArray) = rb at *
    generalize decide (a.k = 110) = da at *
    generalize decide (b.k = 110) = db at *
    generalize Pl.pk a = pa at *
    generalize Pl.pk b = pb at *
    clear h1 e1
    cases da
    · go_enter Tryz.func117, Tryz.ntmps117
      go_wp2
      go_ret
      exact ⟨rfl, hbel _ _⟩
    · go_enter Tryz.func117, Tryz.ntmps117
      go_wp2
      go_ret
      exact ⟨ret_bool (by simp), hbel _ _⟩
  · rw [h1] at hc
    have e1 : Pl.bb a b = true := by unfold Pl.bb; rw [h1]; rfl
    rw [e1]
    generalize (⟨(Pl.praw a).toArray⟩ : ByteArray) = ra at *
    clear h1 e1
    go_enter Tryz.func117, Tryz.ntmps117
    go_wp2
    go_ret
    exact ⟨rfl, hbel _ _⟩

end Go.Proofs.YtkjhhooecopolaaGreatDoor

namespace Go.Proofs.YtkjhhooecopolaaGreatDoor
open Go.RowKit

theorem bld_below {B b : Nat} {bs : List Value} {w w' : World} (h : Lib.IsBuilder 196 5 B b bs w) (hb : Below w.heap.size w w') : Lib.IsBuilder 196 5 B b bs w' := by
  rcases h with ⟨hB, v, hbk, hown, hne⟩ | ⟨hB, v, hbk, hown, hne⟩
  · exact Or.inl ⟨hB, v, (hb.block b (lt_of_heap hbk)).trans hbk, own_kept hown fun k hk => hb.block k (own_lt hown k hk).2, hne⟩
  · exact Or.inr ⟨hB, v, (hb.block b (lt_of_heap hbk)).trans hbk, own_kept hown fun k hk => hb.block k (own_lt hown k hk).2, hne⟩

theorem bytes_snoc (l : List UInt8) : Lib.byteCells l ++ [.int .u8 32] = Lib.byteCells (l ++ [32]) := by simp [Lib.byteCells]
theorem bytes_str (l r : List UInt8) : Lib.byteCells l ++ Lib.strCells ⟨r.toArray⟩ = Lib.byteCells (l ++ r) := by simp [Lib.byteCells, Lib.strCells]

/-- What the loop of writeTokens has: k tokens are written. -/
def Wrote (w : World) (c : List Pl.Tk) (k : Nat) (wr : World) : Prop :=
  Lib.IsBuilder 196 5 w.heap.size w.heap.size (Lib.byteCells (Pl.wt (c.take k))) wr ∧ Below w.heap.size w wr ∧ Gl wr ∧ w.heap.size < wr.heap.size

theorem Gl.drewN {w : World} (h : Gl w) (n : Nat) : Gl (w.drewN n) := ⟨h.sz, h.es, h.er, h.tab⟩
theorem below_dn {B : Nat} {w w' : World} (h : Below B w w') (n : Nat) : Below B w (w'.drewN n) := ⟨h.os, h.tape, h.output, h.size, h.block⟩
theorem bld_dn {B b n : Nat} {bs : List Value} {w : World} (h : Lib.IsBuilder 196 5 B b bs w) : Lib.IsBuilder 196 5 B b bs (w.drewN n) := h

theorem past_cell {w w1 : World} {o : Obj} (hb : Below (w.alloc o).drew.heap.size (w.alloc o).drew w1) {p : Addr} {v : Value} (hp : w.cell? p = some v) : w1.cell? p = some v := by
  have h := World.block_lt_of_cell? w p hp
  rw [hb.cell (p := p) (by show p.block < (w.alloc o).heap.size; rw [World.size_alloc]; omega)]
  exact (World.cell?_alloc_lt _ _ _ h).trans hp
theorem past_box {w w1 : World} {o : Obj} (hb : Below (w.alloc o).drew.heap.size (w.alloc o).drew w1) : w1.heap[w.heap.size]? = some o :=
  (hb.block w.heap.size (by show w.heap.size < (w.alloc o).heap.size; rw [World.size_alloc]; omega)).trans (heap_alloc_new w o)

def sep (k : Nat) (y x : Pl.Tk) : List UInt8 := if k = 0 then [] else if k = 1 then [32] else if Pl.bb y x = true then [32] else []

theorem wt_bound (c : List Pl.Tk) (hw : ∀ t ∈ c, (Pl.wr t).length ≤ 400) : ∀ k, (Pl.wt (c.take k)).length ≤ k * 401
  | 0 => by simp [Pl.wt]
  | k + 1 => by
    have ih := wt_bound c hw k
    by_cases hk : k < c.length
    · have hx : c[k]? = some c[k] := List.getElem?_eq_getElem hk
      have hl := hw c[k] (List.getElem_mem hk)
      have hy : 2 ≤ k → c[k - 1]? = some (c[k - 1]'(by omega)) := fun _ => List.getElem?_eq_getElem (by omega)
      rw [Pl.wt_take c k c[k] (c[k - 1]'(by omega)) hx hy]
      simp only [List.length_append]
      have : (if k = 0 then ([] : List UInt8) else if k = 1 then [32] else if Pl.bb (c[k - 1]'(by omega)) c[k] = true then [32] else []).length ≤ 1 := by
        repeat' split
        all_goals simp
      omega
    · have e : c.take (k + 1) = c.take k := by rw [List.take_of_length_le (by omega), List.take_of_length_le (by omega)]
      rw [e]
      exact Nat.le_trans ih (Nat.mul_le_mul_right _ (Nat.le_succ _))

set_option maxRecDepth 100000 in
set_option maxHeartbeats 2000000 in
theorem writeTokens_any (c : List Pl.Tk) (g cap : Nat) (w : World) (hG : Gl w) (hg : g < w.heap.size) (hrow : ∀ j u, (tokRow c)[j]? = some u → w.cell? ⟨g, j, none⟩ = some u)
    (hc : c.length ≤ 402) (hw : ∀ t ∈ c, (Pl.wr t).length ≤ 400) (hn : ∀ t ∈ c, t.k = 110 → -9223372036854775808 ≤ t.n ∧ t.n ≤ 9223372036854775807) :
    Calls Tryz.prog 70 #[.slice (some ⟨g, 0, none⟩) c.length cap] w fun e w' => e = .returned (.string ⟨(Pl.wt c).toArray⟩) ∧ Below w.heap.size w w' := by
  have HROW : Hid (∀ j u, (tokRow c)[j]? = some u → w.cell? ⟨g, j, none⟩ = some u) := hrow
  have HW : Hid (∀ t ∈ c, (Pl.wr t).length ≤ 400) := hw
  have HN : Hid (∀ t ∈ c, t.k = 110 → -9223372036854775808 ≤ t.n ∧ t.n ≤ 9223372036854775807) := hn
  have HS : Hid (Wrote w c 0 (w.alloc (.cells #[.pointer none, .slice none 0 0] 196))) := ⟨Lib.fresh_isBuilder 196 5 w, (Below.refl _ _).alloc (Nat.le_refl _) _, hG.alloc _, by simp⟩
  clear hrow hw hn
  go_enter Tryz.func70, Tryz.ntmps70
  go_wp2_with fail
  go_loopg [8] c.length (fun n i wr => ∃ k : Nat, k + n = c.length ∧ i = .int .i64 k ∧ Hid (Wrote w c k wr))
  case atStart => exact ⟨0, by omega, rfl, HS⟩
  case round =>
    obtain ⟨k, hkn, rfl, hwr⟩ := hrel
    obtain ⟨hB, hbel, hGr, hsz⟩ := hwr.out
    by_cases hlt : k < c.length
    · obtain ⟨u, hu⟩ : ∃ u, c[k]? = some u := ⟨_, List.getElem?_eq_getElem hlt⟩
      have hmem : u ∈ c := List.mem_of_getElem? hu
      have hbd := wt_bound c HW.out k
      have hul := HW.out u hmem
      have HU : Hid (u.k = 110 → -9223372036854775808 ≤ u.n ∧ u.n ≤ 9223372036854775807) := HN.out u hmem
      have e0 : wr.cell? ⟨g, k * 4, none⟩ = some (.int .i64 (Pl.pk u)) := by
        rw [hbel.cell (p := ⟨g, k * 4, none⟩) hg]
        exact HROW.out (k * 4) (.int .i64 (Pl.pk u)) (by have := tokRow_get c k u hu 0 (by omega); rw [Nat.add_zero] at this; rw [this]; rfl)
      have e1 : wr.cell? ⟨g, k * 4 + 1, none⟩ = some (.string ⟨(Pl.praw u).toArray⟩) := by
        rw [hbel.cell (p := ⟨g, k * 4 + 1, none⟩) hg]
        exact HROW.out (k * 4 + 1) (.string ⟨(Pl.praw u).toArray⟩) (by rw [tokRow_get c k u hu 1 (by omega)]; rfl)
      have e2 : wr.cell? ⟨g, k * 4 + 2, none⟩ = some (.int .i64 u.n) := by
        rw [hbel.cell (p := ⟨g, k * 4 + 2, none⟩) hg]
        exact HROW.out (k * 4 + 2) (.int .i64 u.n) (by rw [tokRow_get c k u hu 2 (by omega)]; rfl)
      have e3 : wr.cell? ⟨g, k * 4 + 3, none⟩ = some (.int .i64 u.pl) := by
        rw [hbel.cell (p := ⟨g, k * 4 + 3, none⟩) hg]
        exact HROW.out (k * 4 + 3) (.int .i64 u.pl) (by rw [tokRow_get c k u hu 3 (by omega)]; rfl)
      have hbox : (wr.alloc (.cells #[.int .i64 (Pl.pk u), .string ⟨(Pl.praw u).toArray⟩, .int .i64 u.n, .int .i64 u.pl] 76)).heap[wr.heap.size]? = some (.cells #[.int .i64 (Pl.pk u), .string ⟨(Pl.praw u).toArray⟩, .int .i64 u.n, .int .i64 u.pl] 76 (0, 0)) := heap_alloc_new wr _
      have hBa := bld_below hB ((Below.refl _ _).alloc (Nat.le_refl _) (.cells #[.int .i64 (Pl.pk u), .string ⟨(Pl.praw u).toArray⟩, .int .i64 u.n, .int .i64 u.pl] 76))
      have hGa := hGr.alloc (.cells #[.int .i64 (Pl.pk u), .string ⟨(Pl.praw u).toArray⟩, .int .i64 u.n, .int .i64 u.pl] 76)
      have hbela := hbel.alloc hbel.size (.cells #[.int .i64 (Pl.pk u), .string ⟨(Pl.praw u).toArray⟩, .int .i64 u.n, .int .i64 u.pl] 76)
      have HUU : Hid (c[k]? = some u) := hu
      clear hu
      by_cases hk0 : k = 0
      · have HT : Hid (Pl.wt (c.take (k + 1)) = Pl.wt (c.take k) ++ Pl.wr u) := by
          have := Pl.wt_take c k u u HUU.out (fun h => by omega)
          rw [if_pos hk0, List.nil_append] at this
          exact this
        have hq1 : ((k : Int) == 1) = false := by simp; omega
        have hq2 : decide (1 < (k : Int)) = false := by simp; omega
        clear hk0
        go_wp2_with fail
        go_quiet (fail)
        have hB1 : Lib.IsBuilder 196 5 w.heap.size w.heap.size _ ((wr.alloc (.cells #[.int .i64 (Pl.pk u), .string ⟨(Pl.praw u).toArray⟩, .int .i64 u.n, .int .i64 u.pl] 76)).drewN nq) := bld_dn hBa
        have hx1 : ((wr.alloc (.cells #[.int .i64 (Pl.pk u), .string ⟨(Pl.praw u).toArray⟩, .int .i64 u.n, .int .i64 u.pl] 76)).drewN nq).heap[wr.heap.size]? = _ := hbox
        have hG1 : Gl ((wr.alloc (.cells #[.int .i64 (Pl.pk u), .string ⟨(Pl.praw u).toArray⟩, .int .i64 u.n, .int .i64 u.pl] 76)).drewN nq) := hGa.drewN nq
        have hbel1 : Below w.heap.size w ((wr.alloc (.cells #[.int .i64 (Pl.pk u), .string ⟨(Pl.praw u).toArray⟩, .int .i64 u.n, .int .i64 u.pl] 76)).drewN nq) := below_dn hbela nq
        have y0 : ((wr.alloc (.cells #[.int .i64 (Pl.pk u), .string ⟨(Pl.praw u).toArray⟩, .int .i64 u.n, .int .i64 u.pl] 76)).drewN nq).cell? ⟨wr.heap.size, 0, none⟩ = some (.int .i64 (Pl.pk u)) := cell_of hx1 0
        have y1 : ((wr.alloc (.cells #[.int .i64 (Pl.pk u), .string ⟨(Pl.praw u).toArray⟩, .int .i64 u.n, .int .i64 u.pl] 76)).drewN nq).cell? ⟨wr.heap.size, 1, none⟩ = some (.string ⟨(Pl.praw u).toArray⟩) := cell_of hx1 1
        have y2 : ((wr.alloc (.cells #[.int .i64 (Pl.pk u), .string ⟨(Pl.praw u).toArray⟩, .int .i64 u.n, .int .i64 u.pl] 76)).drewN nq).cell? ⟨wr.heap.size, 2, none⟩ = some (.int .i64 u.n) := cell_of hx1 2
        have y3 : ((wr.alloc (.cells #[.int .i64 (Pl.pk u), .string ⟨(Pl.praw u).toArray⟩, .int .i64 u.n, .int .i64 u.pl] 76)).drewN nq).cell? ⟨wr.heap.size, 3, none⟩ = some (.int .i64 u.pl) := cell_of hx1 3
        go_wp2_with fail
        refine (written_any u _ hG1 HU.out).mono ?_
        rintro e w3 ⟨rfl, hb3⟩
        have hB3 := bld_below hB1 hb3
        have hbel3 := hbel1.trans (hb3.mono hbel1.size)
        have hG3 := hG1.below hb3 hG1.sz
        go_wp2_with fail
        refine (writeString_any w.heap.size w.heap.size _ ⟨(Pl.wr u).toArray⟩ w3 hB3 (Nat.le_trans hbel1.size hb3.size) (by simp [Lib.byteCells]; omega) (by show (Pl.wr u).toArray.size ≤ _; simp; omega)).mono ?_
        rintro e w4 ⟨rfl, hB4, hb4, _⟩
        rw [bytes_str] at hB4
        go_wp2_with fail
        go_roundg (gk - 1)
        case measure => omega
        case rel => exact ⟨k + 1, by omega, by go_num, ⟨by rw [HT.out]; exact hB4, hbel3.trans hb4, hG3.below hb4 hG.sz, by have h1 := hb3.size; have h2 := hb4.size; simp at h1; omega⟩⟩
      · obtain ⟨m, rfl⟩ : ∃ m, k = m + 1 := ⟨k - 1, by omega⟩
        clear hk0
        by_cases hk1 : m = 0
        · have HT : Hid (Pl.wt (c.take (m + 1 + 1)) = Pl.wt (c.take (m + 1)) ++ [32] ++ Pl.wr u) := by
            have := Pl.wt_take c (m + 1) u u HUU.out (fun h => by omega)
            rw [if_neg (by omega), if_pos (by omega), ← List.append_assoc] at this
            exact this
          have hq1 : ((m : Int) + 1 == 1) = true := by simp; omega
          clear hk1
          go_wp2_with fail
          go_quiet (fail)
          have hBq : Lib.IsBuilder 196 5 w.heap.size w.heap.size _ ((wr.alloc (.cells #[.int .i64 (Pl.pk u), .string ⟨(Pl.praw u).toArray⟩, .int .i64 u.n, .int .i64 u.pl] 76)).drewN nq) := bld_dn hBa
          have hxq : ((wr.alloc (.cells #[.int .i64 (Pl.pk u), .string ⟨(Pl.praw u).toArray⟩, .int .i64 u.n, .int .i64 u.pl] 76)).drewN nq).heap[wr.heap.size]? = _ := hbox
          have hGq : Gl ((wr.alloc (.cells #[.int .i64 (Pl.pk u), .string ⟨(Pl.praw u).toArray⟩, .int .i64 u.n, .int .i64 u.pl] 76)).drewN nq) := hGa.drewN nq
          have hbelq : Below w.heap.size w ((wr.alloc (.cells #[.int .i64 (Pl.pk u), .string ⟨(Pl.praw u).toArray⟩, .int .i64 u.n, .int .i64 u.pl] 76)).drewN nq) := below_dn hbela nq
          have hzq : w.heap.size < ((wr.alloc (.cells #[.int .i64 (Pl.pk u), .string ⟨(Pl.praw u).toArray⟩, .int .i64 u.n, .int .i64 u.pl] 76)).drewN nq).heap.size := by show _ < (wr.alloc _).heap.size; simp; omega
          go_wp2_with fail
          refine (writeByte_any w.heap.size w.heap.size _ 32 _ hBq hbelq.size (by simp [Lib.byteCells]; omega)).mono ?_
          rintro e w2 ⟨rfl, hB1, hb2, hk2⟩
          rw [bytes_snoc] at hB1
          have hx1 := hk2 wr.heap.size _ hxq (by simp; omega) (by intro c fz h; cases h)
          have hG1 : Gl w2 := hGq.below hb2 hG.sz
          have hbel1 : Below w.heap.size w w2 := hbelq.trans hb2
          have hz1 : w.heap.size < w2.heap.size := by have := hb2.size; omega
          have y0 : w2.cell? ⟨wr.heap.size, 0, none⟩ = some (.int .i64 (Pl.pk u)) := cell_of hx1 0
          have y1 : w2.cell? ⟨wr.heap.size, 1, none⟩ = some (.string ⟨(Pl.praw u).toArray⟩) := cell_of hx1 1
          have y2 : w2.cell? ⟨wr.heap.size, 2, none⟩ = some (.int .i64 u.n) := cell_of hx1 2
          have y3 : w2.cell? ⟨wr.heap.size, 3, none⟩ = some (.int .i64 u.pl) := cell_of hx1 3
          go_wp2_with fail
          refine (written_any u _ hG1 HU.out).mono ?_
          rintro e w3 ⟨rfl, hb3⟩
          have hB3 := bld_below hB1 hb3
          have hbel3 := hbel1.trans (hb3.mono hbel1.size)
          have hG3 := hG1.below hb3 hG1.sz
          go_wp2_with fail
          refine (writeString_any w.heap.size w.heap.size _ ⟨(Pl.wr u).toArray⟩ w3 hB3 (Nat.le_trans hbel1.size hb3.size) (by simp [Lib.byteCells]; omega) (by show (Pl.wr u).toArray.size ≤ _; simp; omega)).mono ?_
          rintro e w4 ⟨rfl, hB4, hb4, _⟩
          rw [bytes_str] at hB4
          go_wp2_with fail
          go_roundg (gk - 1)
          case measure => omega
          case rel => exact ⟨(m + 1) + 1, by omega, by go_num, ⟨by rw [HT.out]; exact hB4, hbel3.trans hb4, hG3.below hb4 hG.sz, by have h0 := hz1; have h1 := hb3.size; have h2 := hb4.size; omega⟩⟩
        · obtain ⟨y, hy⟩ : ∃ y, c[m]? = some y := ⟨_, List.getElem?_eq_getElem (by omega)⟩
          have z0 : wr.cell? ⟨g, m * 4, none⟩ = some (.int .i64 (Pl.pk y)) := by
            rw [hbel.cell (p := ⟨g, m * 4, none⟩) hg]
            exact HROW.out (m * 4) (.int .i64 (Pl.pk y)) (by have := tokRow_get c m y hy 0 (by omega); rw [Nat.add_zero] at this; rw [this]; rfl)
          have z1 : wr.cell? ⟨g, m * 4 + 1, none⟩ = some (.string ⟨(Pl.praw y).toArray⟩) := by
            rw [hbel.cell (p := ⟨g, m * 4 + 1, none⟩) hg]
            exact HROW.out (m * 4 + 1) (.string ⟨(Pl.praw y).toArray⟩) (by rw [tokRow_get c m y hy 1 (by omega)]; rfl)
          have z2 : wr.cell? ⟨g, m * 4 + 2, none⟩ = some (.int .i64 y.n) := by
            rw [hbel.cell (p := ⟨g, m * 4 + 2, none⟩) hg]
            exact HROW.out (m * 4 + 2) (.int .i64 y.n) (by rw [tokRow_get c m y hy 2 (by omega)]; rfl)
          have z3 : wr.cell? ⟨g, m * 4 + 3, none⟩ = some (.int .i64 y.pl) := by
            rw [hbel.cell (p := ⟨g, m * 4 + 3, none⟩) hg]
            exact HROW.out (m * 4 + 3) (.int .i64 y.pl) (by rw [tokRow_get c m y hy 3 (by omega)]; rfl)
          have hTT := Pl.wt_take c (m + 1) u y HUU.out (fun h => hy)
          rw [if_neg (by omega), if_neg (by omega)] at hTT
          have HTT : Hid (Pl.wt (c.take (m + 1 + 1)) = Pl.wt (c.take (m + 1)) ++ ((if Pl.bb y u = true then [32] else []) ++ Pl.wr u)) := hTT
          have hq1 : ((m : Int) + 1 == 1) = false := by simp; omega
          have hq2 : (1 : Int) < (m : Int) + 1 := by omega
          have hgr : g < wr.heap.size := by omega
          have hbm : (m : Int) < (c.length : Int) := by omega
          have hbm0 : (0 : Int) ≤ (m : Int) := by omega
          have hbn : m < c.length := by omega
          have hwr1 : IntKind.i64.wrap (m : Int) = (m : Int) := by rw [IntKind.wrap_i64]; omega
          have hwr2 : IntKind.i64.wrap ((m : Int) + 1 - 1) = (m : Int) := by rw [IntKind.wrap_i64]; omega
          clear hTT hy hk1
          go_wp2_with fail
          go_region_held3 (fun w' => w'.cell? ⟨g, m * 4, none⟩ = some (.int .i64 (Pl.pk y)) ∧ w'.cell? ⟨g, m * 4 + 1, none⟩ = some (.string ⟨(Pl.praw y).toArray⟩) ∧ w'.cell? ⟨g, m * 4 + 2, none⟩ = some (.int .i64 y.n) ∧ w'.cell? ⟨g, m * 4 + 3, none⟩ = some (.int .i64 y.pl) ∧ w'.cell? ⟨wr.heap.size, 0, none⟩ = some (.int .i64 (Pl.pk u)) ∧ w'.cell? ⟨wr.heap.size, 1, none⟩ = some (.string ⟨(Pl.praw u).toArray⟩) ∧ w'.cell? ⟨wr.heap.size, 2, none⟩ = some (.int .i64 u.n) ∧ w'.cell? ⟨wr.heap.size, 3, none⟩ = some (.int .i64 u.pl)) (go_keep) (first | (go_at_call 117; refine (blankBetween_any y u _).mono ?_; rintro e w1 ⟨rfl, hb1⟩; have hz0 : wr.heap.size < w1.heap.size := (by have h := hb1.size; simp at h; omega); have q0 := past_cell hb1 z0; have q1 := past_cell hb1 z1; have q2 := past_cell hb1 z2; have q3 := past_cell hb1 z3; have hbx1 := past_box hb1; have p0 : w1.cell? ⟨wr.heap.size, 0, none⟩ = some (.int .i64 (Pl.pk u)) := cell_of hbx1 0; have p1 : w1.cell? ⟨wr.heap.size, 1, none⟩ = some (.string ⟨(Pl.praw u).toArray⟩) := cell_of hbx1 1; have p2 : w1.cell? ⟨wr.heap.size, 2, none⟩ = some (.int .i64 u.n) := cell_of hbx1 2; have p3 : w1.cell? ⟨wr.heap.size, 3, none⟩ = some (.int .i64 u.pl) := cell_of hbx1 3))
          have hbw : Below (wr.alloc (.cells #[.int .i64 (Pl.pk u), .string ⟨(Pl.praw u).toArray⟩, .int .i64 u.n, .int .i64 u.pl] 76)).heap.size (wr.alloc (.cells #[.int .i64 (Pl.pk u), .string ⟨(Pl.praw u).toArray⟩, .int .i64 u.n, .int .i64 u.pl] 76)) w1 := ⟨hb1.os, hb1.tape, hb1.output, hb1.size, hb1.block⟩
          have hBq : Lib.IsBuilder 196 5 w.heap.size w.heap.size _ w1 := bld_below hBa hbw
          have hxq := hbx1
          have hGq : Gl w1 := hGa.below hbw hGa.sz
          have hbelq : Below w.heap.size w w1 := hbela.trans (hbw.mono hbela.size)
          have hzq : w.heap.size < w1.heap.size := by omega
          clear z0 z1 z2 z3 q0 q1 q2 q3 hwr1 hwr2
          cases hbb : Pl.bb y u
          · have hB1 := hBq
            have hG1 := hGq
            have hbel1 := hbelq
            have hz1 := hzq
            go_wp2_with fail
            refine (written_any u _ hG1 HU.out).mono ?_
            rintro e w3 ⟨rfl, hb3⟩
            have hB3 := bld_below hB1 hb3
            have hbel3 := hbel1.trans (hb3.mono hbel1.size)
            have hG3 := hG1.below hb3 hG1.sz
            go_wp2_with fail
            refine (writeString_any w.heap.size w.heap.size _ ⟨(Pl.wr u).toArray⟩ w3 hB3 (Nat.le_trans hbel1.size hb3.size) (by simp [Lib.byteCells]; omega) (by show (Pl.wr u).toArray.size ≤ _; simp; omega)).mono ?_
            rintro e w4 ⟨rfl, hB4, hb4, _⟩
            rw [bytes_str] at hB4
            go_wp2_with fail
            go_roundg (gk - 1)
            case measure => omega
            case rel => exact ⟨m + 1 + 1, by omega, by go_num, ⟨by rw [HTT.out, hbb, if_neg (by simp), List.nil_append]; exact hB4, hbel3.trans hb4, hG3.below hb4 hG.sz, by have h0 := hz1; have h1 := hb3.size; have h2 := hb4.size; omega⟩⟩
          · clear p0 p1 p2 p3
            go_wp2_with fail
            refine (writeByte_any w.heap.size w.heap.size _ 32 _ hBq hbelq.size (by simp [Lib.byteCells]; omega)).mono ?_
            rintro e w2 ⟨rfl, hB1, hb2, hk2⟩
            rw [bytes_snoc] at hB1
            have hx1 := hk2 wr.heap.size _ hxq (by simp; omega) (by intro c fz h; cases h)
            have hG1 : Gl w2 := hGq.below hb2 hG.sz
            have hbel1 : Below w.heap.size w w2 := hbelq.trans hb2
            have hz1 : w.heap.size < w2.heap.size := by have := hb2.size; omega
            have y0 : w2.cell? ⟨wr.heap.size, 0, none⟩ = some (.int .i64 (Pl.pk u)) := cell_of hx1 0
            have y1 : w2.cell? ⟨wr.heap.size, 1, none⟩ = some (.string ⟨(Pl.praw u).toArray⟩) := cell_of hx1 1
            have y2 : w2.cell? ⟨wr.heap.size, 2, none⟩ = some (.int .i64 u.n) := cell_of hx1 2
            have y3 : w2.cell? ⟨wr.heap.size, 3, none⟩ = some (.int .i64 u.pl) := cell_of hx1 3
            go_wp2_with fail
            refine (written_any u _ hG1 HU.out).mono ?_
            rintro e w3 ⟨rfl, hb3⟩
            have hB3 := bld_below hB1 hb3
            have hbel3 := hbel1.trans (hb3.mono hbel1.size)
            have hG3 := hG1.below hb3 hG1.sz
            go_wp2_with fail
            refine (writeString_any w.heap.size w.heap.size _ ⟨(Pl.wr u).toArray⟩ w3 hB3 (Nat.le_trans hbel1.size hb3.size) (by simp [Lib.byteCells]; omega) (by show (Pl.wr u).toArray.size ≤ _; simp; omega)).mono ?_
            rintro e w4 ⟨rfl, hB4, hb4, _⟩
            rw [bytes_str] at hB4
            go_wp2_with fail
            go_roundg (gk - 1)
            case measure => omega
            case rel => exact ⟨m + 1 + 1, by omega, by go_num, ⟨by rw [HTT.out, hbb, if_pos rfl, ← List.append_assoc]; exact hB4, hbel3.trans hb4, hG3.below hb4 hG.sz, by have h0 := hz1; have h1 := hb3.size; have h2 := hb4.size; omega⟩⟩
    · have hke : k = c.length := by omega
      subst hke
      rw [List.take_length] at hB
      go_wp2_with fail
      refine (Tryz.Builder_String_any w.heap.size w.heap.size (Pl.wt c) _ hB hbel.size).mono ?_
      rintro e w3 ⟨rfl, hb3⟩
      go_wp2_with fail
      go_ret
      exact ⟨rfl, hbel.trans hb3⟩

end Go.Proofs.YtkjhhooecopolaaGreatDoor

namespace Go.Proofs.YtkjhhooecopolaaGreatDoor
open Go.RowKit

namespace Pl
/-- A step of the grammar: it leaves a row of tokens that is behind the first. -/
def Goes (s : List UInt8) (l l' : List Tk) : Prop := (∃ c, c ++ l' = l) ∧ Chain s l'

theorem Goes.refl {s : List UInt8} {l : List Tk} (h : Chain s l) : Goes s l l := ⟨⟨[], rfl⟩, h⟩
theorem Goes.trans {s : List UInt8} {a b c : List Tk} (h : Goes s a b) (k : Goes s b c) : Goes s a c := by
  obtain ⟨⟨x, hx⟩, _⟩ := h
  obtain ⟨⟨y, hy⟩, hc⟩ := k
  exact ⟨⟨x ++ y, by rw [List.append_assoc, hy, hx]⟩, hc⟩
theorem Goes.tail {s : List UInt8} {t : Tk} {r : List Tk} (h : Chain s (t :: r)) (hk : ¬ (t.k = 101 ∨ t.k = 120)) : Goes s (t :: r) r := by
  obtain ⟨u, r', _, _, hc⟩ := chain_next s t r h hk
  exact ⟨⟨[t], rfl⟩, hc⟩

theorem mk_goes {s : List UInt8} {c : Nat} {l : List Tk} (h : Chain s l) (hc : c ≠ 101 ∧ c ≠ 120) : Goes s l (mk c l).2 := by
  cases l with
  | nil => exact h.elim
  | cons t r =>
    by_cases hk : t.k = c
    · have e : mk c (t :: r) = (true, r) := by simp [mk, hk]
      rw [e]; exact Goes.tail h (by omega)
    · have e : mk c (t :: r) = (false, t :: r) := by simp [mk, hk]
      rw [e]; exact Goes.refl h

theorem wd_goes {s : List UInt8} {q : List UInt8} {l : List Tk} (h : Chain s l) : Goes s l (wd q l).2 := by
  cases l with
  | nil => exact h.elim
  | cons t r =>
    by_cases hk : t.k = 119 ∧ t.raw = q
    · have e : wd q (t :: r) = (true, r) := by simp only [wd]; rw [if_pos hk]
      rw [e]; exact Goes.tail h (by omega)
    · have e : wd q (t :: r) = (false, t :: r) := by simp only [wd]; rw [if_neg hk]
      rw [e]; exact Goes.refl h

theorem pPt_goes {s : List UInt8} (l : List Tk) (h : Chain s l) : Goes s l (pPt l).2.1 := by
  match l, h with
  | [], h => exact h.elim
  | [x], h => exact Goes.refl h
  | x :: y :: r, h =>
    by_cases hx : x.k = 110
    · have g1 := Goes.tail h (by omega)
      by_cases hy : y.k = 110
      · have e : pPt (x :: y :: r) = (true, r, (x.n, y.n)) := by simp [pPt, hx, hy]
        rw [e]; exact g1.trans (Goes.tail g1.2 (by omega))
      · have e : pPt (x :: y :: r) = (false, y :: r, (0, 0)) := by simp [pPt, hx, hy]
        rw [e]; exact g1
    · have e : pPt (x :: y :: r) = (false, x :: y :: r, (0, 0)) := by simp [pPt, hx]
      rw [e]; exact Goes.refl h

theorem pRow_goes {s : List UInt8} {α : Type} (item : List Tk → Bool × List Tk × α) (hi : ∀ l, Chain s l → Goes s l (item l).2.1) :
    ∀ (f : Nat) (l : List Tk) (acc : List α), Chain s l → Goes s l (pRow item f l acc).2.1
  | 0, l, acc, h => Goes.refl h
  | f + 1, l, acc, h => by
    have g1 := hi l h
    cases h1 : (item l).1
    · rw [row_stop h1]; exact g1
    · cases h2 : (mk 44 (item l).2.1).1
      · rw [row_end h1 h2]; exact g1.trans (mk_goes g1.2 (by omega))
      · rw [row_more h1 h2]
        have g2 := mk_goes (c := 44) g1.2 (by omega)
        exact (g1.trans g2).trans (pRow_goes item hi f _ _ g2.2)

theorem pRing_goes {s : List UInt8} (l : List Tk) (h : Chain s l) : Goes s l (pRing l).2.1 := by
  unfold pRing
  have g1 := mk_goes (c := 40) h (by omega)
  split
  · split
    · exact g1.trans (mk_goes g1.2 (by omega))
    · exact g1.trans (pRow_goes pPt pPt_goes _ _ _ g1.2)
  · exact Goes.refl h

theorem pPoly_goes {s : List UInt8} (l : List Tk) (h : Chain s l) : Goes s l (pPoly l).2.1 := by
  unfold pPoly
  split
  · exact wd_goes h
  · have g1 := mk_goes (c := 40) h (by omega)
    split
    · exact g1.trans (pRow_goes pRing pRing_goes _ _ _ g1.2)
    · exact Goes.refl h

theorem pMulti_goes {s : List UInt8} (l : List Tk) (h : Chain s l) : Goes s l (pMulti l).2.1 := by
  unfold pMulti
  split
  · exact wd_goes h
  · have g1 := mk_goes (c := 40) h (by omega)
    split
    · exact g1.trans (pRow_goes pPoly pPoly_goes _ _ _ g1.2)
    · exact Goes.refl h

theorem pWhole_goes {s : List UInt8} (l : List Tk) (h : Chain s l) : Goes s l (pWhole l).2.1 := by
  unfold pWhole
  split
  · have g1 := wd_goes (q := POLYGON) h
    exact g1.trans (pPoly_goes _ g1.2)
  · split
    · have g1 := wd_goes (q := MULTI) h
      exact g1.trans (pMulti_goes _ g1.2)
    · exact Goes.refl h

theorem pWhole_lt (l : List Tk) (h : (pWhole l).1 = true) : (pWhole l).2.1.length < l.length := by
  unfold pWhole at h ⊢
  by_cases h1 : (wd POLYGON l).1 = true
  · rw [if_pos h1] at h ⊢
    have := wd_lt h1
    have := (pPoly_lt _ h).1
    simp only; omega
  · rw [if_neg h1] at h ⊢
    by_cases h2 : (wd MULTI l).1 = true
    · rw [if_pos h2] at h ⊢
      have := wd_lt h2
      have := pMulti_lt _ h
      omega
    · rw [if_neg h2] at h; cases h

def hk (l : List Tk) : Nat := match l with | [] => 0 | t :: _ => t.k
def hpl (l : List Tk) : Nat := match l with | [] => 0 | t :: _ => t.pl
/-- The tokens that were taken. -/
def took (s : List UInt8) : List Tk := (all s).take ((all s).length - (pWhole (all s)).2.1.length)

/-- What Read answers: the error and its place. -/
def err (s : List UInt8) : Nat × Nat :=
  if 400 < s.length then (1, 0)
  else if (pWhole (all s)).1 = true ∧ hk (pWhole (all s)).2.1 = 101 then
    (match (took s).find? outT with
     | some u => (3, u.pl)
     | none => (0, 0))
  else (2, hpl (pWhole (all s)).2.1)

theorem took_append (s : List UInt8) : took s ++ (pWhole (all s)).2.1 = all s := by
  obtain ⟨⟨c, hc⟩, _⟩ := pWhole_goes (all s) (all_chain s)
  unfold took
  have : (all s).length = c.length + (pWhole (all s)).2.1.length := by
    conv => lhs; rw [← hc]
    simp
  rw [this, Nat.add_sub_cancel]
  conv => lhs; lhs; rw [← hc]
  rw [List.take_left]
  exact hc
end Pl

/-- readText, whole. -/
def ReadPost (s : ByteArray) (w : World) (e : Ending) (w' : World) : Prop :=
  Below w.heap.size w w' ∧ ∃ pv, e = .returned (.tuple #[.pointer pv, .int .i64 (Pl.err s.data.toList).1, .int .i64 (Pl.err s.data.toList).2]) ∧
    ((Pl.err s.data.toList).1 = 0 → ∃ rb, pv = some ⟨rb, 0, none⟩ ∧ w.heap.size ≤ rb ∧ RD rb s (Pl.all s.data.toList) (Pl.pWhole (Pl.all s.data.toList)).2.1 (Pl.pWhole (Pl.all s.data.toList)).2.2.flatten w')

theorem readText_any (s : ByteArray) (w : World) (hm : s.size ≤ maxLen) (hG : Gl w) :
    Calls Tryz.prog 33 #[.string s] w (ReadPost s w) := by
  have hsz : s.data.toList.length = s.size := by simp
  by_cases hs : 400 < s.size
  · refine (readText_long s w hs hm).mono ?_
    rintro e w' ⟨rfl, rfl⟩
    have he : Pl.err s.data.toList = (1, 0) := by unfold Pl.err; rw [if_pos (by omega)]
    refine ⟨Below.refl _ _, none, ?_, ?_⟩
    · rw [he]; rfl
    · rw [he]; intro h; cases h
  · have hs' : s.size ≤ 400 := by omega
    have hg := Pl.pWhole_goes (Pl.all s.data.toList) (Pl.all_chain s.data.toList)
    have happ := Pl.took_append s.data.toList
    have herr : Pl.err s.data.toList = if (Pl.pWhole (Pl.all s.data.toList)).1 = true ∧ Pl.hk (Pl.pWhole (Pl.all s.data.toList)).2.1 = 101 then
        (match (Pl.took s.data.toList).find? outT with | some u => (3, u.pl) | none => (0, 0)) else (2, Pl.hpl (Pl.pWhole (Pl.all s.data.toList)).2.1) := by
      unfold Pl.err; rw [if_neg (by omega)]
    have hlt := Pl.pWhole_lt (Pl.all s.data.toList)
    unfold ReadPost
    rcases hp : Pl.pWhole (Pl.all s.data.toList) with ⟨b, l', v⟩
    rw [hp] at hg happ herr hlt
    simp only at hg happ herr hlt ⊢
    obtain ⟨t, r, rfl⟩ : ∃ t r, l' = t :: r := by
      cases l' with
      | nil => exact hg.2.elim
      | cons t r => exact ⟨t, r, rfl⟩
    by_cases hok : b = true ∧ t.k = 101
    · obtain ⟨rfl, ht⟩ := hok
      have hc0 : 0 < (Pl.took s.data.toList).length := by
        have h1 := hlt rfl
        have h2 := congrArg List.length happ
        simp only [List.length_append] at h2
        omega
      refine (readText_ok s w hs' hG t r (Pl.took s.data.toList) v hp ht happ hc0).mono ?_
      rintro e w' ⟨hbel, hr⟩
      rw [if_pos ⟨rfl, ht⟩] at herr
      refine ⟨hbel, ?_⟩
      rcases hr with ⟨u, hu, rfl⟩ | ⟨hu, rb, rfl, h1, h2⟩
      · rw [hu] at herr
        simp only at herr
        refine ⟨none, by rw [herr]; rfl, ?_⟩
        rw [herr]; intro h; cases h
      · rw [hu] at herr
        simp only at herr
        exact ⟨_, by rw [herr]; rfl, fun _ => ⟨rb, rfl, h1, h2⟩⟩
    · rw [if_neg (by exact hok)] at herr
      refine (readText_form s w hs' hG (t :: r) t r b v hp rfl (by
        by_cases hb : b = true
        · exact Or.inr (fun h => hok ⟨hb, h⟩)
        · exact Or.inl (by simpa using hb))).mono ?_
      rintro e w' ⟨rfl, hbel⟩
      refine ⟨hbel, none, by rw [herr]; rfl, ?_⟩
      rw [herr]; intro h; cases h

end Go.Proofs.YtkjhhooecopolaaGreatDoor
