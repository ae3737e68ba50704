import Derived.Test.YtmfnlpmlmgjleaaGreatDoorRp
namespace Go.Proofs.YtmfnlpmlmgjleaaGreatDoor
open Go.RowKit

namespace Pl

theorem form_num {t : Tk} (h : Form t) (hk : t.k = 110) : praw t ≠ [44] := fun e => by
  have := (sign_iff h 44 (by decide)).1 e
  rw [hk] at this
  exact absurd this (by decide)
theorem bb_no {a b : Tk} (h1 : praw a ≠ [44]) (h2 : a.k ≠ 110 ∨ b.k ≠ 110) : bb a b = false := by
  unfold bb
  rcases h2 with h2 | h2 <;> simp [h1, h2]
theorem wr_sign {t : Tk} (h : Form t) (c : UInt8) (hc : c.toNat = 40 ∨ c.toNat = 41 ∨ c.toNat = 44) (hk : t.k = c.toNat) : wr t = [c] ∧ praw t = [c] ∧ t.k ≠ 110 := by
  have e := (sign_iff h c hc).2 hk
  have hne : t.k ≠ 110 := by omega
  exact ⟨by unfold wr; rw [if_neg hne, e], e, hne⟩
theorem wtail_no {p t : Tk} {d : List Tk} (h : bb p t = false) : wtail p (t :: d) = wr t ++ wtail t d := by
  show (if bb p t = true then [32] else []) ++ (wr t ++ wtail t d) = _
  rw [h, if_neg (by simp), List.nil_append]
theorem wtail_40 {p t : Tk} {d : List Tk} (h : Form p) (hk : p.k = 40) : wtail p (t :: d) = wr t ++ wtail t d := by
  obtain ⟨_, h2, h3⟩ := wr_sign h 40 (by decide) hk
  exact wtail_no (bb_no (by rw [h2]; decide) (Or.inl h3))
theorem wtail_41 {p t : Tk} {d : List Tk} (h : Form p) (hk : p.k = 41) : wtail p (t :: d) = wr t ++ wtail t d := by
  obtain ⟨_, h2, h3⟩ := wr_sign h 41 (by decide) hk
  exact wtail_no (bb_no (by rw [h2]; decide) (Or.inl h3))
theorem wtail_44 {p t : Tk} {d : List Tk} (h : Form p) (hk : p.k = 44) : wtail p (t :: d) = [32] ++ (wr t ++ wtail t d) := by
  obtain ⟨_, h2, _⟩ := wr_sign h 44 (by decide) hk
  show (if bb p t = true then [32] else []) ++ (wr t ++ wtail t d) = _
  rw [if_pos (by unfold bb; simp [h2])]

/-- A run of tokens that stands for a value: how it is written behind a bracket, behind a comma, and that it closes. -/
structure Tx {α : Type} (ok : α → Prop) (txt : α → List UInt8) (c : List Tk) (x : α) : Prop where
  ne : c ≠ []
  br : ∀ p, Form p → p.k = 40 → wtail p c = txt x
  co : ∀ p, Form p → p.k = 44 → wtail p c = [32] ++ txt x
  cl : ∀ p t d, Form t → t.k ≠ 110 → wtail p (c ++ t :: d) = wtail p c ++ (wr t ++ wtail t d)
  okc : (∀ t ∈ c, t.k = 110 → okInt t.n) → c.length ≤ 402 → ok x

def Says {α : Type} (ok : α → Prop) (txt : α → List UInt8) (item : List Tk → Bool × List Tk × α) : Prop :=
  ∀ l, (∀ t ∈ l, Form t) → (item l).1 = true → ∃ c, c ++ (item l).2.1 = l ∧ Tx ok txt c (item l).2.2

theorem says_pt : Says (fun p => okInt p.1 ∧ okInt p.2) ptT pPt := by
  intro l hf h
  match l, hf, h with
  | [], _, h => cases h
  | [x], _, h => cases h
  | x :: y :: r, hf, h =>
    have e : pPt (x :: y :: r) = if x.k = 110 then (if y.k = 110 then (true, r, (x.n, y.n)) else (false, y :: r, (0, 0))) else (false, x :: y :: r, (0, 0)) := rfl
    rw [e] at h ⊢
    by_cases hx : x.k = 110
    · rw [if_pos hx] at h ⊢
      by_cases hy : y.k = 110
      · rw [if_pos hy]
        have fx := hf x (by simp)
        have fy := hf y (by simp)
        have w1 : wr x = Lib.itoa x.n := if_pos hx
        have w2 : wr y = Lib.itoa y.n := if_pos hy
        have hb : ∀ d, wtail x (y :: d) = [32] ++ (wr y ++ wtail y d) := fun d => by
          show (if bb x y = true then [32] else []) ++ (wr y ++ wtail y d) = _
          rw [if_pos (by unfold bb; simp [hx, hy])]
        refine ⟨[x, y], rfl, by simp, fun p fp hp => ?_, fun p fp hp => ?_, fun p t d ft ht => ?_, fun hn _ => ⟨hn x (by simp) hx, hn y (by simp) hy⟩⟩
        · rw [wtail_40 fp hp, hb, w1, w2]
          simp [wtail, ptT]
        · rw [wtail_44 fp hp, hb, w1, w2]
          simp [wtail, ptT]
        · show (if bb p x = true then [32] else []) ++ (wr x ++ wtail x (y :: t :: d)) = ((if bb p x = true then [32] else []) ++ (wr x ++ wtail x [y])) ++ _
          rw [hb, hb, wtail_no (p := y) (t := t) (bb_no (form_num fy hy) (Or.inr ht))]
          simp [wtail, List.append_assoc]
      · rw [if_neg hy] at h; cases h
    · rw [if_neg hx] at h; cases h

theorem mk_true {c : Nat} {l : List Tk} (h : (mk c l).1 = true) : ∃ t, l = t :: (mk c l).2 ∧ t.k = c := by
  cases l with
  | nil => cases h
  | cons t r =>
    have e : mk c (t :: r) = if t.k = c then (true, r) else (false, t :: r) := rfl
    rw [e] at h ⊢
    by_cases hk : t.k = c
    · rw [if_pos hk]; exact ⟨t, rfl, hk⟩
    · rw [if_neg hk] at h; cases h
theorem wd_true {q : List UInt8} {l : List Tk} (h : (wd q l).1 = true) : ∃ t, l = t :: (wd q l).2 ∧ t.k = 119 ∧ t.raw = q := by
  cases l with
  | nil => cases h
  | cons t r =>
    have e : wd q (t :: r) = if t.k = 119 ∧ t.raw = q then (true, r) else (false, t :: r) := rfl
    rw [e] at h ⊢
    by_cases hk : t.k = 119 ∧ t.raw = q
    · rw [if_pos hk]; exact ⟨t, rfl, hk⟩
    · rw [if_neg hk] at h; cases h

/-- What a row of items stands for, its closing bracket with it. -/
theorem says_row {α : Type} {ok : α → Prop} {txt : α → List UInt8} {item : List Tk → Bool × List Tk × α} (hi : Says ok txt item) :
    ∀ (f : Nat) (l : List Tk) (acc : List α), (∀ t ∈ l, Form t) → (pRow item f l acc).1 = true →
      ∃ c xs, c ++ (pRow item f l acc).2.1 = l ∧ (pRow item f l acc).2.2 = acc ++ xs ∧ xs ≠ [] ∧
        Tx (fun xs => xs.length ≤ 402 ∧ ∀ x ∈ xs, ok x) (fun xs => joinT txt xs ++ [41]) c xs ∧ xs.length ≤ c.length
  | 0, l, acc, _, h => by cases h
  | f + 1, l, acc, hf, h => by
    unfold pRow at h ⊢
    by_cases h1 : (item l).1 = true
    · rw [if_pos h1] at h ⊢
      obtain ⟨c0, hc0, T0⟩ := hi l hf h1
      generalize (item l).2.1 = rest at *
      generalize (item l).2.2 = x at *
      have hfr : ∀ t ∈ rest, Form t := fun t ht => hf t (by rw [← hc0]; simp [ht])
      have hn0 : 1 ≤ c0.length := List.length_pos_iff.2 T0.ne
      by_cases h2 : (mk 44 rest).1 = true
      · rw [if_pos h2] at h ⊢
        obtain ⟨t, ht, hk⟩ := mk_true h2
        have ft : Form t := hfr t (by rw [ht]; simp)
        obtain ⟨c1, xs, hc1, hv, hne, T1, hlen⟩ := says_row hi f (mk 44 rest).2 (acc ++ [x]) (fun u hu => hfr u (by rw [ht]; simp [hu])) h
        obtain ⟨s1, s2, s3⟩ := wr_sign ft 44 (by decide) hk
        have hj : joinT txt (x :: xs) = txt x ++ ([44, 32] ++ joinT txt xs) := by
          cases xs with
          | nil => exact absurd rfl hne
          | cons a b => rfl
        refine ⟨c0 ++ t :: c1, x :: xs, by rw [List.append_assoc, List.cons_append, hc1, ← ht, hc0], by rw [hv]; simp, by simp, ⟨by simp, fun p fp hp => ?_, fun p fp hp => ?_, fun p u d fu hu => ?_, fun hn hl => ?_⟩, by simp; omega⟩
        · rw [T0.cl p t c1 ft s3, T0.br p fp hp, T1.co t ft hk, s1, hj]
          simp
        · rw [T0.cl p t c1 ft s3, T0.co p fp hp, T1.co t ft hk, s1, hj]
          simp
        · rw [List.append_assoc, List.cons_append, T0.cl p t _ ft s3, T0.cl p t c1 ft s3, T1.cl t u d fu hu]
          simp [List.append_assoc]
        · have hl' : c0.length + (c1.length + 1) ≤ 402 := by simpa using hl
          have k0 := T0.okc (fun t ht => hn t (by simp [ht])) (by omega)
          have k1 := T1.okc (fun t ht => hn t (by simp [ht])) (by omega)
          exact ⟨by simp; omega, fun y hy => by
            rcases List.mem_cons.1 hy with e | e
            · rw [e]; exact k0
            · exact k1.2 y e⟩
      · rw [if_neg h2] at h ⊢
        obtain ⟨t, ht, hk⟩ := mk_true (c := 41) h
        have ft : Form t := hfr t (by rw [ht]; simp)
        obtain ⟨s1, s2, s3⟩ := wr_sign ft 41 (by decide) hk
        have hw : wtail t [] = [] := rfl
        refine ⟨c0 ++ [t], [x], by rw [List.append_assoc, List.singleton_append, ← ht, hc0], rfl, by simp, ⟨by simp, fun p fp hp => ?_, fun p fp hp => ?_, fun p u d fu hu => ?_, fun hn hl => ?_⟩, by simp⟩
        · rw [T0.cl p t [] ft s3, T0.br p fp hp, s1, hw]
          simp [joinT]
        · rw [T0.cl p t [] ft s3, T0.co p fp hp, s1, hw]
          simp [joinT]
        · rw [List.append_assoc, List.singleton_append, T0.cl p t _ ft s3, T0.cl p t [] ft s3, wtail_41 ft hk, hw]
          simp [List.append_assoc]
        · have hl' : c0.length + 1 ≤ 402 := by simpa using hl
          have k0 := T0.okc (fun t ht => hn t (by simp [ht])) (by omega)
          exact ⟨by simp, fun y hy => by rw [List.mem_singleton.1 hy]; exact k0⟩
    · rw [if_neg h1] at h; cases h

end Pl
end Go.Proofs.YtmfnlpmlmgjleaaGreatDoor
