import Derived.Test.YtmfnlpmlmgjleaaGreatDoorBa
import Derived.Test.YtmfnlpmlmgjleaaGreatDoorWp
import Derived.Lib.ItoaLen
import Derived.Lib.AppendIntMem
namespace Go.Proofs.YtmfnlpmlmgjleaaGreatDoor
open Go.RowKit

namespace Pl
/-- A token as it is written. -/
def wr (t : Tk) : List UInt8 := if t.k = 110 then Lib.itoa t.n else praw t
/-- Does a blank stand between two tokens (behind the first word)? -/
def bb (a b : Tk) : Bool := decide (praw a = [44]) || (decide (a.k = 110) && decide (b.k = 110))
def wtail : Tk → List Tk → List UInt8
  | _, [] => []
  | p, t :: r => (if bb p t = true then [32] else []) ++ (wr t ++ wtail t r)
def wt : List Tk → List UInt8
  | [] => []
  | [t] => wr t
  | a :: b :: r => wr a ++ ([32] ++ (wr b ++ wtail b r))

theorem wtail_snoc (p : Tk) (l : List Tk) (x : Tk) : wtail p (l ++ [x]) = wtail p l ++ ((if bb ((p :: l).getLast (by simp)) x = true then [32] else []) ++ wr x) := by
  induction l generalizing p with
  | nil =>
    simp only [List.nil_append, wtail, List.append_nil, List.getLast_singleton]
    rfl
  | cons a r ih =>
    rw [List.cons_append, wtail, ih a, wtail]
    rw [List.getLast_cons (by simp : a :: r ≠ [])]
    simp [List.append_assoc]

theorem wt_zero (x : Tk) : wt ([] ++ [x]) = wt [] ++ wr x := rfl
theorem wt_one (a x : Tk) : wt ([a] ++ [x]) = wt [a] ++ [32] ++ wr x := by simp [wt, wtail]
theorem wt_more (a b : Tk) (r : List Tk) (x : Tk) : wt (a :: b :: r ++ [x]) = wt (a :: b :: r) ++ ((if bb ((b :: r).getLast (by simp)) x = true then [32] else []) ++ wr x) := by
  show wr a ++ ([32] ++ (wr b ++ wtail b (r ++ [x]))) = _
  rw [wtail_snoc]
  simp [wt, List.append_assoc]

theorem wt_take (c : List Tk) (k : Nat) (x y : Tk) (hx : c[k]? = some x) (hy : 2 ≤ k → c[k - 1]? = some y) :
    wt (c.take (k + 1)) = wt (c.take k) ++ ((if k = 0 then [] else if k = 1 then [32] else if bb y x = true then [32] else []) ++ wr x) := by
  have hk := (List.getElem?_eq_some_iff.1 hx).1
  have ex : c[k] = x := (List.getElem?_eq_some_iff.1 hx).2
  have e : c.take (k + 1) = c.take k ++ [x] := by rw [List.take_succ_eq_append_getElem hk, ex]
  rw [e]
  by_cases h0 : k = 0
  · subst h0
    simp [wt]
  · by_cases h1 : k = 1
    · subst h1
      obtain ⟨a, r, hc⟩ : ∃ a r, c = a :: r := by
        cases c with
        | nil => simp at hk
        | cons a r => exact ⟨a, r, rfl⟩
      subst hc
      simp [wt, wtail]
    · rw [if_neg h0, if_neg h1]
      have hy' := hy (by omega)
      match c, hk, hx, hy' with
      | [], hk, _, _ => simp at hk
      | [_], hk, _, _ => simp at hk; omega
      | a :: b :: r, hk, hx, hy' =>
        obtain ⟨m, rfl⟩ : ∃ m, k = m + 2 := ⟨k - 2, by omega⟩
        simp only [List.take_succ_cons]
        rw [wt_more]
        have hl : (b :: r.take m).getLast (by simp) = y := by
          have h2 : (b :: r)[m]? = some y := by simpa using hy'
          rw [List.getLast_eq_getElem]
          have hm : m ≤ r.length := by simp at hk; omega
          have h3 : (b :: List.take m r)[m]? = some y := by
            rw [← List.take_succ_cons, List.getElem?_take, if_pos (by omega)]
            exact h2
          have h4 := (List.getElem?_eq_some_iff.1 h3)
          have h5 : (b :: List.take m r).length - 1 = m := by simp; omega
          simp only [h5]
          exact h4.2
        rw [hl]
end Pl

set_option maxRecDepth 100000 in
set_option maxHeartbeats 400000 in
theorem written_any (t : Pl.Tk) (w : World) (hG : Gl w) (hn : t.k = 110 → -9223372036854775808 ≤ t.n ∧ t.n ≤ 9223372036854775807) :
    Calls Tryz.prog 76 #[.agg #[.int .i64 (Pl.pk t), .string ⟨(Pl.praw t).toArray⟩, .int .i64 t.n, .int .i64 t.pl]] w fun e w' => e = .returned (.string ⟨(Pl.wr t).toArray⟩) ∧ Below w.heap.size w w' := by
  by_cases hk : t.k = 110
  · have e : Pl.wr t = Lib.itoa t.n := by unfold Pl.wr; rw [if_pos hk]
    rw [e, Pl.pk_num.2 hk]
    obtain ⟨hn1, hn2⟩ := hn hk
    clear hn
    have HI : Hid (∀ w1, Gl w1 → Calls Tryz.prog 109 #[.int .i64 t.n] w1 fun e w' => e = .returned (.string ⟨(Lib.itoa t.n).toArray⟩) ∧ Below w1.heap.size w1 w') := fun w1 g1 => by
      refine (Tryz.strconv_Itoa t.n hn1 hn2 w1 g1.tab).mono ?_
      rintro e w' ⟨rfl, k, os, rfl⟩
      exact ⟨rfl, Lib.below_grow _ _ (Nat.le_refl _) _ _⟩
    clear hn1 hn2
    go_enter Tryz.func76, Tryz.ntmps76
    go_wp2_with fail
    refine (HI.out _ (hG.alloc _)).mono ?_
    rintro e w1 ⟨rfl, hb⟩
    go_wp2_with fail
    go_ret
    exact ⟨rfl, ((Below.refl _ _).alloc (Nat.le_refl _) _).trans (hb.mono (by simp))⟩
  · have e : Pl.wr t = Pl.praw t := by unfold Pl.wr; rw [if_neg hk]
    rw [e]
    have hp3 : (Pl.pk t == 3) = false := by
      rw [beq_eq_false_iff_ne]; intro h; exact hk (Pl.pk_num.1 h)
    generalize Pl.pk t = pku at *
    go_enter Tryz.func76, Tryz.ntmps76
    go_wp2
    go_ret
    exact ⟨rfl, (Below.refl _ _).alloc (Nat.le_refl _) _⟩

set_option maxRecDepth 100000 in
set_option maxHeartbeats 400000 in
theorem blankBetween_any (a b : Pl.Tk) (w : World) :
    Calls Tryz.prog 73 #[.agg #[.int .i64 (Pl.pk a), .string ⟨(Pl.praw a).toArray⟩, .int .i64 a.n, .int .i64 a.pl], .agg #[.int .i64 (Pl.pk b), .string ⟨(Pl.praw b).toArray⟩, .int .i64 b.n, .int .i64 b.pl]] w fun e w' => e = .returned (.bool (Pl.bb a b)) ∧ Below w.heap.size w w' := by
  have hbel : ∀ o1 o2, Below w.heap.size w ((w.alloc o1).alloc o2) := fun o1 o2 => ((Below.refl _ _).alloc (Nat.le_refl _) _).alloc (by simp) _
  have hc : ((⟨(Pl.praw a).toArray⟩ : ByteArray).toList == [44]) = decide (Pl.praw a = [44]) := by
    rw [ByteArray.toList_eq, Bool.eq_iff_iff]
    simp
  cases h1 : decide (Pl.praw a = [44])
  · rw [h1] at hc
    have e1 : Pl.bb a b = (decide (a.k = 110) && decide (b.k = 110)) := by unfold Pl.bb; rw [h1]; rfl
    rw [e1]
    have hpa : (Pl.pk a == 3) = decide (a.k = 110) := by
      rw [Bool.eq_iff_iff]; simp [Pl.pk_num]
    have hpb : (Pl.pk b == 3) = decide (b.k = 110) := by
      rw [Bool.eq_iff_iff]; simp [Pl.pk_num]
    generalize (⟨(Pl.praw a).toArray⟩ : ByteArray) = ra at *
    generalize (⟨(Pl.praw b).toArray⟩ : ByteArray) = rb at *
    generalize decide (a.k = 110) = da at *
    generalize decide (b.k = 110) = db at *
    generalize Pl.pk a = pa at *
    generalize Pl.pk b = pb at *
    clear h1 e1
    cases da
    · go_enter Tryz.func73, Tryz.ntmps73
      go_wp2
      go_ret
      exact ⟨rfl, hbel _ _⟩
    · go_enter Tryz.func73, Tryz.ntmps73
      go_wp2
      go_ret
      exact ⟨ret_bool (by simp), hbel _ _⟩
  · rw [h1] at hc
    have e1 : Pl.bb a b = true := by unfold Pl.bb; rw [h1]; rfl
    rw [e1]
    generalize (⟨(Pl.praw a).toArray⟩ : ByteArray) = ra at *
    clear h1 e1
    go_enter Tryz.func73, Tryz.ntmps73
    go_wp2
    go_ret
    exact ⟨rfl, hbel _ _⟩

end Go.Proofs.YtmfnlpmlmgjleaaGreatDoor
