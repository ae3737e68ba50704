import Derived.Test.YtkjhhooecopolaaGreatDoorProg
import Derived.WalkKit
import Derived.WalkSpells
import Derived.WalkLawsBesides
/- Plain lists and numbers: tokens of a text, the grammar, what is written. No program in this text. -/
namespace Go.Proofs.YtkjhhooecopolaaGreatDoor
namespace Pl

structure Tk where
  k : Nat
  raw : List UInt8
  n : Int
  pl : Nat

def isLet (c : UInt8) : Bool := decide (65 ≤ c.toNat ∧ c.toNat ≤ 90)
def isDig (c : UInt8) : Bool := decide (48 ≤ c.toNat ∧ c.toNat ≤ 57)
def isBl (c : UInt8) : Bool := decide (c.toNat = 32)
def decv (l : List UInt8) : Nat := l.foldl (fun a c => 10 * a + (c.toNat - 48)) 0

/-- The token whose bytes stand at the head of l, which stands at place i. -/
def tkBody (l : List UInt8) (i : Nat) : Tk :=
  match l with
  | [] => ⟨101, [], 0, i⟩
  | c :: r =>
    if c.toNat = 40 ∨ c.toNat = 41 ∨ c.toNat = 44 ∨ c.toNat = 47 then ⟨c.toNat, [c], 0, i⟩
    else if isLet c = true then ⟨119, (c :: r).takeWhile isLet, 0, i⟩
    else if c.toNat = 45 then
      (if r.takeWhile isDig = [] ∨ 9 < (r.takeWhile isDig).length then ⟨120, [], 0, i⟩ else ⟨110, c :: r.takeWhile isDig, - (decv (r.takeWhile isDig) : Int), i⟩)
    else
      (if (c :: r).takeWhile isDig = [] ∨ 9 < ((c :: r).takeWhile isDig).length then ⟨120, [], 0, i⟩ else ⟨110, (c :: r).takeWhile isDig, (decv ((c :: r).takeWhile isDig) : Int), i⟩)

def bl (s : List UInt8) (i : Nat) : Nat := i + ((s.drop i).takeWhile isBl).length

def tk (s : List UInt8) (i : Nat) : Tk := tkBody (s.drop (bl s i)) (bl s i)

def toks (s : List UInt8) : Nat → Nat → List Tk
  | 0, i => [tk s i]
  | f + 1, i => if (tk s i).k = 101 ∨ (tk s i).k = 120 then [tk s i] else tk s i :: toks s f ((tk s i).pl + (tk s i).raw.length)

/-- A row of tokens, each the one behind the one before. -/
def Chain (s : List UInt8) : List Tk → Prop
  | [] => False
  | [t] => t.k = 101 ∨ t.k = 120
  | t :: u :: r => ¬ (t.k = 101 ∨ t.k = 120) ∧ u = tk s (t.pl + t.raw.length) ∧ Chain s (u :: r)

theorem bl_le (s : List UInt8) (i : Nat) (h : i ≤ s.length) : i ≤ bl s i ∧ bl s i ≤ s.length := by
  have := (List.takeWhile_prefix isBl (l := s.drop i)).length_le
  simp only [List.length_drop] at this
  unfold bl; omega

theorem tkBody_pl (l : List UInt8) (i : Nat) : (tkBody l i).pl = i := by
  unfold tkBody; repeat' split
  all_goals rfl

theorem tkBody_len (l : List UInt8) (i : Nat) : (tkBody l i).raw.length ≤ l.length ∧ ((tkBody l i).k = 101 ∨ (tkBody l i).k = 120 ∨ 1 ≤ (tkBody l i).raw.length) := by
  unfold tkBody
  split
  · exact ⟨Nat.le_refl _, Or.inl rfl⟩
  · rename_i c r
    have h1 := (List.takeWhile_prefix isLet (l := c :: r)).length_le
    have h2 := (List.takeWhile_prefix isDig (l := c :: r)).length_le
    have h3 := (List.takeWhile_prefix isDig (l := r)).length_le
    simp only [List.length_cons] at h1 h2 h3 ⊢
    split
    · exact ⟨by simp, by simp⟩
    · split
      · rename_i hl
        refine ⟨h1, Or.inr (Or.inr ?_)⟩
        simp [hl]
      · split
        · split
          · exact ⟨by simp, Or.inr (Or.inl rfl)⟩
          · exact ⟨by simp; omega, by simp⟩
        · split
          · exact ⟨by simp, Or.inr (Or.inl rfl)⟩
          · rename_i h
            refine ⟨h2, Or.inr (Or.inr ?_)⟩
            have : ¬ (c :: r).takeWhile isDig = [] := fun e => h (Or.inl e)
            exact List.length_pos_iff.2 this

theorem tk_pl (s : List UInt8) (i : Nat) : (tk s i).pl = bl s i := tkBody_pl _ _

theorem tk_next (s : List UInt8) (i : Nat) (h : i ≤ s.length) : (tk s i).pl + (tk s i).raw.length ≤ s.length ∧ ((tk s i).k = 101 ∨ (tk s i).k = 120 ∨ i + 1 ≤ (tk s i).pl + (tk s i).raw.length) := by
  have h1 := tkBody_len (s.drop (bl s i)) (bl s i)
  have h2 := bl_le s i h
  rw [tk_pl]
  simp only [List.length_drop] at h1
  unfold tk
  refine ⟨by omega, ?_⟩
  rcases h1.2 with h | h | h
  · exact Or.inl h
  · exact Or.inr (Or.inl h)
  · exact Or.inr (Or.inr (by omega))

theorem toks_head (s : List UInt8) (f i : Nat) : ∃ r, toks s f i = tk s i :: r := by
  cases f with
  | zero => exact ⟨[], rfl⟩
  | succ f =>
    by_cases h : (tk s i).k = 101 ∨ (tk s i).k = 120
    · exact ⟨[], by rw [toks, if_pos h]⟩
    · exact ⟨_, by rw [toks, if_neg h]⟩

theorem toks_chain (s : List UInt8) : ∀ (f i : Nat), i ≤ s.length → s.length < f + i → Chain s (toks s f i)
  | 0, i, h, h2 => by omega
  | f + 1, i, h, h2 => by
    by_cases hs : (tk s i).k = 101 ∨ (tk s i).k = 120
    · rw [toks, if_pos hs]; exact hs
    · rw [toks, if_neg hs]
      have hn := tk_next s i h
      have hn2 : i + 1 ≤ (tk s i).pl + (tk s i).raw.length := by
        rcases hn.2 with h | h | h
        · exact absurd (Or.inl h) hs
        · exact absurd (Or.inr h) hs
        · exact h
      obtain ⟨r, hr⟩ := toks_head s f ((tk s i).pl + (tk s i).raw.length)
      have ih := toks_chain s f ((tk s i).pl + (tk s i).raw.length) hn.1 (by omega)
      rw [hr] at ih ⊢
      exact ⟨hs, rfl, ih⟩

/-- All tokens of a text. -/
def all (s : List UInt8) : List Tk := toks s (s.length + 1) 0

theorem all_chain (s : List UInt8) : Chain s (all s) := toks_chain s _ 0 (Nat.zero_le _) (by omega)

/- The grammar. -/
def mk (c : Nat) : List Tk → Bool × List Tk
  | [] => (false, [])
  | t :: r => if t.k = c then (true, r) else (false, t :: r)

def wd (w : List UInt8) : List Tk → Bool × List Tk
  | [] => (false, [])
  | t :: r => if t.k = 119 ∧ t.raw = w then (true, r) else (false, t :: r)

def pPt : List Tk → Bool × List Tk × (Int × Int)
  | [] => (false, [], (0, 0))
  | [x] => (false, [x], (0, 0))
  | x :: y :: r => if x.k = 110 then (if y.k = 110 then (true, r, (x.n, y.n)) else (false, y :: r, (0, 0))) else (false, x :: y :: r, (0, 0))

def pRow {α : Type} (item : List Tk → Bool × List Tk × α) : Nat → List Tk → List α → Bool × List Tk × List α
  | 0, l, acc => (false, l, acc)
  | f + 1, l, acc =>
    if (item l).1 = true then
      (if (mk 44 (item l).2.1).1 = true then pRow item f (mk 44 (item l).2.1).2 (acc ++ [(item l).2.2])
       else ((mk 41 (item l).2.1).1, (mk 41 (item l).2.1).2, acc ++ [(item l).2.2]))
    else (false, (item l).2.1, acc)

def EMPTY : List UInt8 := [69, 77, 80, 84, 89]
def POLYGON : List UInt8 := [80, 79, 76, 89, 71, 79, 78]
def MULTI : List UInt8 := [77, 85, 76, 84, 73, 80, 79, 76, 89, 71, 79, 78]

def pRing (l : List Tk) : Bool × List Tk × List (Int × Int) :=
  if (mk 40 l).1 = true then
    (if (mk 41 (mk 40 l).2).1 = true then (true, (mk 41 (mk 40 l).2).2, []) else pRow pPt l.length (mk 40 l).2 [])
  else (false, l, [])

def pPoly (l : List Tk) : Bool × List Tk × List (List (Int × Int)) :=
  if (wd EMPTY l).1 = true then (true, (wd EMPTY l).2, [])
  else if (mk 40 l).1 = true then pRow pRing l.length (mk 40 l).2 []
  else (false, l, [])

def pMulti (l : List Tk) : Bool × List Tk × List (List (List (Int × Int))) :=
  if (wd EMPTY l).1 = true then (true, (wd EMPTY l).2, [])
  else if (mk 40 l).1 = true then pRow pPoly l.length (mk 40 l).2 []
  else (false, l, [])

/- How the program lays a token: its kind, its bytes, its value, its place. -/
def pk (t : Tk) : Int := if t.k = 101 then 1 else if t.k = 119 then 2 else if t.k = 110 then 3 else if t.k = 40 ∨ t.k = 41 ∨ t.k = 44 then 4 else 0
def praw (t : Tk) : List UInt8 := if t.k = 47 then [] else t.raw

theorem extract_eq (s : ByteArray) (a b : Nat) : s.extract a b = ⟨((s.data.toList.drop a).take (b - a)).toArray⟩ := by
  apply ByteArray.ext
  apply Array.toList_inj.1
  simp [ByteArray.data_extract]

theorem drop_cons (s : ByteArray) (j : Nat) (h : j < s.size) : s.data.toList.drop j = s[j] :: s.data.toList.drop (j + 1) :=
  List.drop_eq_getElem_cons (by simpa using h)

theorem take_takeWhile (p : UInt8 → Bool) (l : List UInt8) : l.take (l.takeWhile p).length = l.takeWhile p :=
  List.prefix_iff_eq_take.1 (List.takeWhile_prefix p) |>.symm

theorem chain_ne (s : List UInt8) : ¬ Chain s [] := fun h => h

theorem chain_next (s : List UInt8) (t : Tk) (r : List Tk) (h : Chain s (t :: r)) (hk : ¬ (t.k = 101 ∨ t.k = 120)) :
    ∃ u r', r = u :: r' ∧ u = tk s (t.pl + t.raw.length) ∧ Chain s r := by
  cases r with
  | nil => exact absurd h hk
  | cons u r' => exact ⟨u, r', rfl, h.2.1, h.2.2⟩

theorem chain_suffix (s : List UInt8) : ∀ (c l : List Tk), Chain s (c ++ l) → l ≠ [] → Chain s l
  | [], l, h, _ => h
  | t :: c, l, h, hl => by
    cases c with
    | nil =>
      cases l with
      | nil => exact absurd rfl hl
      | cons u r => exact h.2.2
    | cons u c' => exact chain_suffix s (u :: c') l h.2.2 hl

/-- Each token stands where it is said to. -/
def Place (s : List UInt8) (t : Tk) : Prop := t.pl + t.raw.length ≤ s.length ∧ (∃ i, i ≤ s.length ∧ t = tk s i)

theorem chain_place (s : List UInt8) : ∀ (l : List Tk), Chain s l → (∀ t r, l = t :: r → Place s t) → ∀ t ∈ l, Place s t
  | [], h, _, t, ht => by simp at ht
  | [a], h, h0, t, ht => by
    rw [List.mem_singleton] at ht; subst ht; exact h0 t [] rfl
  | a :: b :: r, h, h0, t, ht => by
    have ha := h0 a (b :: r) rfl
    rcases List.mem_cons.1 ht with rfl | ht
    · exact ha
    · refine chain_place s (b :: r) h.2.2 ?_ t ht
      intro t' r' e
      injection e with e1 e2
      subst e1
      exact ⟨by rw [h.2.1]; exact (tk_next s _ ha.1).1, _, ha.1, h.2.1⟩

theorem all_place (s : List UInt8) : ∀ t ∈ all s, Place s t := by
  refine chain_place s _ (all_chain s) ?_
  intro t r e
  obtain ⟨r', hr⟩ := toks_head s (s.length + 1) 0
  unfold all at e
  rw [hr] at e
  injection e with e1 e2
  subst e1
  exact ⟨(tk_next s 0 (Nat.zero_le _)).1, 0, Nat.zero_le _, rfl⟩

theorem toks_length (s : List UInt8) : ∀ (f i : Nat), (toks s f i).length ≤ f + 1
  | 0, i => by simp [toks]
  | f + 1, i => by
    rw [toks]
    split
    · simp
    · have := toks_length s f ((tk s i).pl + (tk s i).raw.length)
      simp; omega

theorem all_length (s : List UInt8) : (all s).length ≤ s.length + 2 := toks_length s _ 0

end Pl
end Go.Proofs.YtkjhhooecopolaaGreatDoor

namespace Go.Proofs.YtkjhhooecopolaaGreatDoor
open Go.RowKit

theorem ret_bool {a b : Bool} (h : a = b) : Ending.returned (.bool a) = .returned (.bool b) := by rw [h]
theorem ret_int {k : IntKind} {a b : Int} (h : a = b) : Ending.returned (.int k a) = .returned (.int k b) := by rw [h]

set_option maxHeartbeats 400000 in
theorem isBlank_any (c : UInt8) (w : World) :
    Calls Tryz.prog 90 #[.int .u8 c.toNat] w fun e w' => e = .returned (.bool (Pl.isBl c)) ∧ w' = w := by
  go_enter Tryz.func90, Tryz.ntmps90
  go_wp2
  go_ret
  refine ⟨ret_bool ?_, rfl⟩
  unfold Pl.isBl
  rw [Bool.eq_iff_iff]; simp; omega

set_option maxHeartbeats 400000 in
theorem isLetter_any (c : UInt8) (w : World) :
    Calls Tryz.prog 91 #[.int .u8 c.toNat] w fun e w' => e = .returned (.bool (Pl.isLet c)) ∧ w' = w := by
  go_enter Tryz.func91, Tryz.ntmps91
  go_wp2
  all_goals
    go_ret
    refine ⟨ret_bool ?_, rfl⟩
    unfold Pl.isLet
    rw [Bool.eq_iff_iff]; simp; omega

set_option maxHeartbeats 400000 in
theorem isDigit_any (c : UInt8) (w : World) :
    Calls Tryz.prog 92 #[.int .u8 c.toNat] w fun e w' => e = .returned (.bool (Pl.isDig c)) ∧ w' = w := by
  go_enter Tryz.func92, Tryz.ntmps92
  go_wp2
  all_goals
    go_ret
    refine ⟨ret_bool ?_, rfl⟩
    unfold Pl.isDig
    rw [Bool.eq_iff_iff]; simp; omega

end Go.Proofs.YtkjhhooecopolaaGreatDoor

namespace Go.Proofs.YtkjhhooecopolaaGreatDoor
open Go.RowKit

/-- What a run of bytes is: from i on, those that p takes. -/
theorem takeWhile_drop_yes (p : UInt8 → Bool) (s : List UInt8) (i : Nat) (h : i < s.length) (hp : p s[i] = true) :
    ((s.drop i).takeWhile p).length = ((s.drop (i + 1)).takeWhile p).length + 1 := by
  rw [List.drop_eq_getElem_cons h, List.takeWhile_cons, if_pos hp]; rfl

theorem takeWhile_drop_no (p : UInt8 → Bool) (s : List UInt8) (i : Nat) (h : i < s.length) (hp : p s[i] = false) :
    ((s.drop i).takeWhile p).length = 0 := by
  rw [List.drop_eq_getElem_cons h, List.takeWhile_cons, if_neg (by simp [hp])]; rfl

set_option maxRecDepth 100000 in
set_option maxHeartbeats 400000 in
theorem skip_isBlank (s : ByteArray) (i : Int) (w : World) (h0 : 0 ≤ i) (h1 : i ≤ s.size) (hs : s.size ≤ 400) :
    Calls Tryz.prog 89 #[.string s, .int .i64 i, .func (.func 90) #[] #[]] w fun e w' => e = .returned (.int .i64 (i + ((s.data.toList.drop i.toNat).takeWhile Pl.isBl).length)) ∧ w' = w := by
  obtain ⟨n, rfl⟩ := Int.eq_ofNat_of_zero_le h0
  rw [Int.toNat_natCast]
  have hn : n ≤ s.size := by omega
  clear h0 h1
  go_enter Tryz.func89, Tryz.ntmps89
  go_wp2_with fail
  go_loop [1] (fun t => ∃ j : Nat, j ≤ s.size ∧ t = .int .i64 j ∧ j + ((s.data.toList.drop j).takeWhile Pl.isBl).length = n + ((s.data.toList.drop n).takeWhile Pl.isBl).length) (fun t => s.size - (intOf t).toNat)
  case atStart => exact ⟨n, hn, rfl, rfl⟩
  case round =>
    obtain ⟨j, hj, rfl, he⟩ := hrel
    have HE : Hid (j + ((s.data.toList.drop j).takeWhile Pl.isBl).length = n + ((s.data.toList.drop n).takeWhile Pl.isBl).length) := he
    clear he
    by_cases hlt : j < s.size
    · by_cases hp : Pl.isBl s[j] = true
      · have HS : Hid (j + 1 + ((s.data.toList.drop (j + 1)).takeWhile Pl.isBl).length = n + ((s.data.toList.drop n).takeWhile Pl.isBl).length) := by
          have h1 := takeWhile_drop_yes Pl.isBl s.data.toList j (by simpa using hlt) hp
          have h2 := HE.out
          show _ = _
          omega
        clear HE
        go_wp2_with (go_at_call 90; refine (isBlank_any _ _).mono ?_; rintro e w' ⟨rfl, rfl⟩)
        go_round
        case rel => exact ⟨j + 1, by omega, by go_num, HS.out⟩
        case measure => simp [intOf]; omega
      · have hp' : Pl.isBl s[j] = false := by simpa using hp
        have HS : Hid (j = n + ((s.data.toList.drop n).takeWhile Pl.isBl).length) := by
          have h1 := takeWhile_drop_no Pl.isBl s.data.toList j (by simpa using hlt) hp'
          have h2 := HE.out
          show _ = _
          omega
        clear HE hp
        go_wp2_with (go_at_call 90; refine (isBlank_any _ _).mono ?_; rintro e w' ⟨rfl, rfl⟩)
        go_ret
        exact ⟨ret_int (by have := HS.out; omega), rfl⟩
    · have HS : Hid (j = n + ((s.data.toList.drop n).takeWhile Pl.isBl).length) := by
        have h2 := HE.out
        rw [List.drop_of_length_le (by simp; omega : s.data.toList.length ≤ j)] at h2
        simp at h2
        exact h2
      clear HE
      go_wp2_with (go_at_call 90; refine (isBlank_any _ _).mono ?_; rintro e w' ⟨rfl, rfl⟩)
      go_ret
      exact ⟨ret_int (by have := HS.out; omega), rfl⟩

theorem skip_isBlank_at (s : ByteArray) (i j : Nat) (w : World) (h1 : i ≤ s.size) (hs : s.size ≤ 400) (hj : j = i + ((s.data.toList.drop i).takeWhile Pl.isBl).length) :
    Calls Tryz.prog 89 #[.string s, .int .i64 i, .func (.func 90) #[] #[]] w fun e w' => e = .returned (.int .i64 j) ∧ w' = w := by
  refine (skip_isBlank s i w (by omega) (by omega) hs).mono ?_
  rintro e w' ⟨rfl, rfl⟩
  exact ⟨ret_int (by rw [hj]; simp), rfl⟩

set_option maxRecDepth 100000 in
set_option maxHeartbeats 400000 in
theorem skip_isLetter (s : ByteArray) (i : Int) (w : World) (h0 : 0 ≤ i) (h1 : i ≤ s.size) (hs : s.size ≤ 400) :
    Calls Tryz.prog 89 #[.string s, .int .i64 i, .func (.func 91) #[] #[]] w fun e w' => e = .returned (.int .i64 (i + ((s.data.toList.drop i.toNat).takeWhile Pl.isLet).length)) ∧ w' = w := by
  obtain ⟨n, rfl⟩ := Int.eq_ofNat_of_zero_le h0
  rw [Int.toNat_natCast]
  have hn : n ≤ s.size := by omega
  clear h0 h1
  go_enter Tryz.func89, Tryz.ntmps89
  go_wp2_with fail
  go_loop [1] (fun t => ∃ j : Nat, j ≤ s.size ∧ t = .int .i64 j ∧ j + ((s.data.toList.drop j).takeWhile Pl.isLet).length = n + ((s.data.toList.drop n).takeWhile Pl.isLet).length) (fun t => s.size - (intOf t).toNat)
  case atStart => exact ⟨n, hn, rfl, rfl⟩
  case round =>
    obtain ⟨j, hj, rfl, he⟩ := hrel
    have HE : Hid (j + ((s.data.toList.drop j).takeWhile Pl.isLet).length = n + ((s.data.toList.drop n).takeWhile Pl.isLet).length) := he
    clear he
    by_cases hlt : j < s.size
    · by_cases hp : Pl.isLet s[j] = true
      · have HS : Hid (j + 1 + ((s.data.toList.drop (j + 1)).takeWhile Pl.isLet).length = n + ((s.data.toList.drop n).takeWhile Pl.isLet).length) := by
          have h1 := takeWhile_drop_yes Pl.isLet s.data.toList j (by simpa using hlt) hp
          have h2 := HE.out
          show _ = _
          omega
        clear HE
        go_wp2_with (go_at_call 91; refine (isLetter_any _ _).mono ?_; rintro e w' ⟨rfl, rfl⟩)
        go_round
        case rel => exact ⟨j + 1, by omega, by go_num, HS.out⟩
        case measure => simp [intOf]; omega
      · have hp' : Pl.isLet s[j] = false := by simpa using hp
        have HS : Hid (j = n + ((s.data.toList.drop n).takeWhile Pl.isLet).length) := by
          have h1 := takeWhile_drop_no Pl.isLet s.data.toList j (by simpa using hlt) hp'
          have h2 := HE.out
          show _ = _
          omega
        clear HE hp
        go_wp2_with (go_at_call 91; refine (isLetter_any _ _).mono ?_; rintro e w' ⟨rfl, rfl⟩)
        go_ret
        exact ⟨ret_int (by have := HS.out; omega), rfl⟩
    · have HS : Hid (j = n + ((s.data.toList.drop n).takeWhile Pl.isLet).length) := by
        have h2 := HE.out
        rw [List.drop_of_length_le (by simp; omega : s.data.toList.length ≤ j)] at h2
        simp at h2
        exact h2
      clear HE
      go_wp2_with (go_at_call 91; refine (isLetter_any _ _).mono ?_; rintro e w' ⟨rfl, rfl⟩)
      go_ret
      exact ⟨ret_int (by have := HS.out; omega), rfl⟩

theorem skip_isLetter_at (s : ByteArray) (i j : Nat) (w : World) (h1 : i ≤ s.size) (hs : s.size ≤ 400) (hj : j = i + ((s.data.toList.drop i).takeWhile Pl.isLet).length) :
    Calls Tryz.prog 89 #[.string s, .int .i64 i, .func (.func 91) #[] #[]] w fun e w' => e = .returned (.int .i64 j) ∧ w' = w := by
  refine (skip_isLetter s i w (by omega) (by omega) hs).mono ?_
  rintro e w' ⟨rfl, rfl⟩
  exact ⟨ret_int (by rw [hj]; simp), rfl⟩

set_option maxRecDepth 100000 in
set_option maxHeartbeats 400000 in
theorem skip_isDigit (s : ByteArray) (i : Int) (w : World) (h0 : 0 ≤ i) (h1 : i ≤ s.size) (hs : s.size ≤ 400) :
    Calls Tryz.prog 89 #[.string s, .int .i64 i, .func (.func 92) #[] #[]] w fun e w' => e = .returned (.int .i64 (i + ((s.data.toList.drop i.toNat).takeWhile Pl.isDig).length)) ∧ w' = w := by
  obtain ⟨n, rfl⟩ := Int.eq_ofNat_of_zero_le h0
  rw [Int.toNat_natCast]
  have hn : n ≤ s.size := by omega
  clear h0 h1
  go_enter Tryz.func89, Tryz.ntmps89
  go_wp2_with fail
  go_loop [1] (fun t => ∃ j : Nat, j ≤ s.size ∧ t = .int .i64 j ∧ j + ((s.data.toList.drop j).takeWhile Pl.isDig).length = n + ((s.data.toList.drop n).takeWhile Pl.isDig).length) (fun t => s.size - (intOf t).toNat)
  case atStart => exact ⟨n, hn, rfl, rfl⟩
  case round =>
    obtain ⟨j, hj, rfl, he⟩ := hrel
    have HE : Hid (j + ((s.data.toList.drop j).takeWhile Pl.isDig).length = n + ((s.data.toList.drop n).takeWhile Pl.isDig).length) := he
    clear he
    by_cases hlt : j < s.size
    · by_cases hp : Pl.isDig s[j] = true
      · have HS : Hid (j + 1 + ((s.data.toList.drop (j + 1)).takeWhile Pl.isDig).length = n + ((s.data.toList.drop n).takeWhile Pl.isDig).length) := by
          have h1 := takeWhile_drop_yes Pl.isDig s.data.toList j (by simpa using hlt) hp
          have h2 := HE.out
          show _ = _
          omega
        clear HE
        go_wp2_with (go_at_call 92; refine (isDigit_any _ _).mono ?_; rintro e w' ⟨rfl, rfl⟩)
        go_round
        case rel => exact ⟨j + 1, by omega, by go_num, HS.out⟩
        case measure => simp [intOf]; omega
      · have hp' : Pl.isDig s[j] = false := by simpa using hp
        have HS : Hid (j = n + ((s.data.toList.drop n).takeWhile Pl.isDig).length) := by
          have h1 := takeWhile_drop_no Pl.isDig s.data.toList j (by simpa using hlt) hp'
          have h2 := HE.out
          show _ = _
          omega
        clear HE hp
        go_wp2_with (go_at_call 92; refine (isDigit_any _ _).mono ?_; rintro e w' ⟨rfl, rfl⟩)
        go_ret
        exact ⟨ret_int (by have := HS.out; omega), rfl⟩
    · have HS : Hid (j = n + ((s.data.toList.drop n).takeWhile Pl.isDig).length) := by
        have h2 := HE.out
        rw [List.drop_of_length_le (by simp; omega : s.data.toList.length ≤ j)] at h2
        simp at h2
        exact h2
      clear HE
      go_wp2_with (go_at_call 92; refine (isDigit_any _ _).mono ?_; rintro e w' ⟨rfl, rfl⟩)
      go_ret
      exact ⟨ret_int (by have := HS.out; omega), rfl⟩

theorem skip_isDigit_at (s : ByteArray) (i j : Nat) (w : World) (h1 : i ≤ s.size) (hs : s.size ≤ 400) (hj : j = i + ((s.data.toList.drop i).takeWhile Pl.isDig).length) :
    Calls Tryz.prog 89 #[.string s, .int .i64 i, .func (.func 92) #[] #[]] w fun e w' => e = .returned (.int .i64 j) ∧ w' = w := by
  refine (skip_isDigit s i w (by omega) (by omega) hs).mono ?_
  rintro e w' ⟨rfl, rfl⟩
  exact ⟨ret_int (by rw [hj]; simp), rfl⟩

end Go.Proofs.YtkjhhooecopolaaGreatDoor
