import Derived.Test.YtkjhhooecopolaaGreatDoorKj13
import Derived.Test.YtkjhhooecopolaaGreatDoorKj11
namespace Go.Proofs.YtkjhhooecopolaaGreatDoor
open Go.RowKit

namespace Pl

theorem form_num {t : Tk} (h : Form t) (hk : t.k = 110) : praw t ≠ [44] := fun e => by
  have := (sign_iff h 44 (by decide)).1 e
  rw [hk] at this
  exact absurd this (by decide)
theorem bb_no {a b : Tk} (h1 : praw a ≠ [44]) (h2 : a.k ≠ 110 ∨ b.k ≠ 110) : bb a b = false := by
  unfold bb
  rcases h2 with h2 | h2 <;> simp [h1, h2]
theorem wr_sign {t : Tk} (h : Form t) (c : UInt8) (hc : c.toNat = 40 ∨ c.toNat = 41 ∨ c.toNat = 44) (hk : t.k = c.toNat) : wr t = [c] ∧ praw t = [c] ∧ t.k ≠ 110 := by
  have e := (sign_iff h c hc).2 hk
  have hne : t.k ≠ 110 := by omega
  exact ⟨by unfold wr; rw [if_neg hne, e], e, hne⟩
theorem wtail_no {p t : Tk} {d : List Tk} (h : bb p t = false) : wtail p (t :: d) = wr t ++ wtail t d := by
  show (if bb p t = true then [32] else []) ++ (wr t ++ wtail t d) = _
  rw [h, if_neg (by simp), List.nil_append]
theorem wtail_40 {p t : Tk} {d : List Tk} (h : Form p) (hk : p.k = 40) : wtail p (t :: d) = wr t ++ wtail t d := by
  obtain ⟨_, h2, h3⟩ := wr_sign h 40 (by decide) hk
  exact wtail_no (bb_no (by rw [h2]; decide) (Or.inl h3))
theorem wtail_41 {p t : Tk} {d : List Tk} (h : Form p) (hk : p.k = 41) : wtail p (t :: d) = wr t ++ wtail t d := by
  obtain ⟨_, h2, h3⟩ := wr_sign h 41 (by decide) hk
  exact wtail_no (bb_no (by rw [h2]; decide) (Or.inl h3))
theorem wtail_44 {p t : Tk} {d : List Tk} (h : Form p) (hk : p.k = 44) : wtail p (t :: d) = [32] ++ (wr t ++ wtail t d) := by
  obtain ⟨_, h2, _⟩ := wr_sign h 44 (by decide) hk
  show (if bb p t = true then [32] else []) ++ (wr t ++ wtail t d) = _
  rw [if_pos (by unfold bb; simp [h2])]

/-- A run of tokens that stands for a value: how it is written behind a bracket, behind a comma, and that it closes. -/
structure Tx {α : Type} (ok : α → Prop) (txt : α → List UInt8) (c : List Tk) (x : α) : Prop where
  ne : c ≠ []
  br : ∀ p, Form p → p.k = 40 → wtail p c = txt x
  co : ∀ p, Form p → p.k = 44 → wtail p c = [32] ++ txt x
  cl : ∀ p t d, Form t → t.k ≠ 110 → wtail p (c ++ t :: d) = wtail p c ++ (wr t ++ wtail t d)
  okc : (∀ t ∈ c, t.k = 110 → okInt t.n) → c.length ≤ 402 → ok x

def Says {α : Type} (ok : α → Prop) (txt : α → List UInt8) (item : List Tk → Bool × List Tk × α) : Prop :=
  ∀ l, (∀ t ∈ l, Form t) → (item l).1 = true → ∃ c, c ++ (item l).2.1 = l ∧ Tx ok txt c (item l).2.2

theorem says_pt : Says (fun p => okInt p.1 ∧ okInt p.2) ptT pPt := by
  intro l hf h
  match l, hf, h with
  | [], _, h => cases h
  | [x], _, h => cases h
  | x :: y :: r, hf, h =>
    have e : pPt (x :: y :: r) = if x.k = 110 then (if y.k = 110 then (true, r, (x.n, y.n)) else (false, y :: r, (0, 0))) else (false, x :: y :: r, (0, 0)) := rfl
    rw [e] at h ⊢
    by_cases hx : x.k = 110
    · rw [if_pos hx] at h ⊢
      by_cases hy : y.k = 110
      · rw [if_pos hy]
        have fx := hf x (by simp)
        have fy := hf y (by simp)
        have w1 : wr x = Lib.itoa x.n := if_pos hx
        have w2 : wr y = Lib.itoa y.n := if_pos hy
        have hb : ∀ d, wtail x (y :: d) = [32] ++ (wr y ++ wtail y d) := fun d => by
          show (if bb x y = true then [32] else []) ++ (wr y ++ wtail y d) = _
          rw [if_pos (by unfold bb; simp [hx, hy])]
        refine ⟨[x, y], rfl, by simp, fun p fp hp => ?_, fun p fp hp => ?_, fun p t d ft ht => ?_, fun hn _ => ⟨hn x (by simp) hx, hn y (by simp) hy⟩⟩
        · rw [wtail_40 fp hp, hb, w1, w2]
          simp [wtail, ptT]
        · rw [wtail_44 fp hp, hb, w1, w2]
          simp [wtail, ptT]
        · show (if bb p x = true then [32] else []) ++ (wr x ++ wtail x (y :: t :: d)) = ((if bb p x = true then [32] else []) ++ (wr x ++ wtail x [y])) ++ _
          rw [hb, hb, wtail_no (p := y) (t := t) (bb_no (form_num fy hy) (Or.inr ht))]
          simp [wtail, List.append_assoc]
      · rw [if_neg hy] at h; cases h
    · rw [if_neg hx] at h; cases h

theorem mk_true {c : Nat} {l : List Tk} (h : (mk c l).1 = true) : ∃ t, l = t :: (mk c l).2 ∧ t.k = c := by
  cases l with
  | nil => cases h
  | cons t r =>
    have e : mk c (t :: r) = if t.k = c then (true, r) else (false, t :: r) := rfl
    rw [e] at h ⊢
    by_cases hk : t.k = c
    · rw [if_pos hk]; exact ⟨t, rfl, hk⟩
    · rw [if_neg hk] at h; cases h
theorem wd_true {q : List UInt8} {l : List Tk} (h : (wd q l).1 = true) : ∃ t, l = t :: (wd q l).2 ∧ t.k = 119 ∧ t.raw = q := by
  cases l with
  | nil => cases h
  | cons t r =>
    have e : wd q (t :: r) = if t.k = 119 ∧ t.raw = q then (true, r) else (false, t :: r) := rfl
    rw [e] at h ⊢
    by_cases hk : t.k = 119 ∧ t.raw = q
    · rw [if_pos hk]; exact ⟨t, rfl, hk⟩
    · rw [if_neg hk] at h; cases h

/-- What a row of items stands for, its closing bracket with it. -/
theorem says_row {α : Type} {ok : α → Prop} {txt : α → List UInt8} {item : List Tk → Bool × List Tk × α} (hi : Says ok txt item) :
    ∀ (f : Nat) (l : List Tk) (acc : List α), (∀ t ∈ l, Form t) → (pRow item f l acc).1 = true →
      ∃ c xs, c ++ (pRow item f l acc).2.1 = l ∧ (pRow item f l acc).2.2 = acc ++ xs ∧ xs ≠ [] ∧
        Tx (fun xs => xs.length ≤ 402 ∧ ∀ x ∈ xs, ok x) (fun xs => joinT txt xs ++ [41]) c xs ∧ xs.length ≤ c.length
  | 0, l, acc, _, h => by cases h
  | f + 1, l, acc, hf, h => by
    unfold pRow at h ⊢
    by_cases h1 : (item l).1 = true
    · rw [if_pos h1] at h ⊢
      obtain ⟨c0, hc0, T0⟩ := hi l hf h1
      generalize (item l).2.1 = rest at *
      generalize (item l).2.2 = x at *
      have hfr : ∀ t ∈ rest, Form t := fun t ht => hf t (by rw [← hc0]; simp [ht])
      have hn0 : 1 ≤ c0.length := List.length_pos_iff.2 T0.ne
      by_cases h2 : (mk 44 rest).1 = true
      · rw [if_pos h2] at h ⊢
        obtain ⟨t, ht, hk⟩ := mk_true h2
        have ft : Form t := hfr t (by rw [ht]; simp)
        obtain ⟨c1, xs, hc1, hv, hne, T1, hlen⟩ := says_row hi f (mk 44 rest).2 (acc ++ [x]) (fun u hu => hfr u (by rw [ht]; simp [hu])) h
        obtain ⟨s1, s2, s3⟩ := wr_sign ft 44 (by decide) hk
        have hj : joinT txt (x :: xs) = txt x ++ ([44, 32] ++ joinT txt xs) := by
          cases xs with
          | nil => exact absurd rfl hne
          | cons a b => rfl
        refine ⟨c0 ++ t :: c1, x :: xs, by rw [List.append_assoc, List.cons_append, hc1, ← ht, hc0], by rw [hv]; simp, by simp, ⟨by simp, fun p fp hp => ?_, fun p fp hp => ?_, fun p u d fu hu => ?_, fun hn hl => ?_⟩, by simp; omega⟩
        · rw [T0.cl p t c1 ft s3, T0.br p fp hp, T1.co t ft hk, s1, hj]
          simp
        · rw [T0.cl p t c1 ft s3, T0.co p fp hp, T1.co t ft hk, s1, hj]
          simp
        · rw [List.append_assoc, List.cons_append, T0.cl p t _ ft s3, T0.cl p t c1 ft s3, T1.cl t u d fu hu]
          simp [List.append_assoc]
        · have hl' : c0.length + (c1.length + 1) ≤ 402 := by simpa using hl
          have k0 := T0.okc (fun t ht => hn t (by simp [ht])) (by omega)
          have k1 := T1.okc (fun t ht => hn t (by simp [ht])) (by omega)
          exact ⟨by simp; omega, fun y hy => by
            rcases List.mem_cons.1 hy with e | e
            · rw [e]; exact k0
            · exact k1.2 y e⟩
      · rw [if_neg h2] at h ⊢
        obtain ⟨t, ht, hk⟩ := mk_true (c := 41) h
        have ft : Form t := hfr t (by rw [ht]; simp)
        obtain ⟨s1, s2, s3⟩ := wr_sign ft 41 (by decide) hk
        have hw : wtail t [] = [] := rfl
        refine ⟨c0 ++ [t], [x], by rw [List.append_assoc, List.singleton_append, ← ht, hc0], rfl, by simp, ⟨by simp, fun p fp hp => ?_, fun p fp hp => ?_, fun p u d fu hu => ?_, fun hn hl => ?_⟩, by simp⟩
        · rw [T0.cl p t [] ft s3, T0.br p fp hp, s1, hw]
          simp [joinT]
        · rw [T0.cl p t [] ft s3, T0.co p fp hp, s1, hw]
          simp [joinT]
        · rw [List.append_assoc, List.singleton_append, T0.cl p t _ ft s3, T0.cl p t [] ft s3, wtail_41 ft hk, hw]
          simp [List.append_assoc]
        · have hl' : c0.length + 1 ≤ 402 := by simpa using hl
          have k0 := T0.okc (fun t ht => hn t (by simp [ht])) (by omega)
          exact ⟨by simp, fun y hy => by rw [List.mem_singleton.1 hy]; exact k0⟩
    · rw [if_neg h1] at h; cases h

end Pl
end Go.Proofs.YtkjhhooecopolaaGreatDoor

namespace Go.Proofs.YtkjhhooecopolaaGreatDoor
open Go.RowKit

def Pl.ptext (s : List UInt8) : List UInt8 := if (Pl.err s).1 = 0 then Pl.wt (Pl.took s) else []

theorem err_zero {s : List UInt8} (h : (Pl.err s).1 = 0) : s.length ≤ 400 ∧ (Pl.err s).2 = 0 ∧ (Pl.pWhole (Pl.all s)).1 = true ∧ Pl.hk (Pl.pWhole (Pl.all s)).2.1 = 101 ∧ (Pl.took s).find? outT = none := by
  unfold Pl.err at h ⊢
  by_cases h1 : 400 < s.length
  · rw [if_pos h1] at h; cases h
  · rw [if_neg h1] at h ⊢
    by_cases h2 : (Pl.pWhole (Pl.all s)).1 = true ∧ Pl.hk (Pl.pWhole (Pl.all s)).2.1 = 101
    · rw [if_pos h2] at h ⊢
      cases h3 : (Pl.took s).find? outT with
      | some u => rw [h3] at h; cases h
      | none => exact ⟨by omega, rfl, h2.1, h2.2, rfl⟩
    · rw [if_neg h2] at h; cases h

theorem took_mem {s : List UInt8} {t : Pl.Tk} (h : t ∈ Pl.took s) : t ∈ Pl.all s := by
  unfold Pl.took at h
  exact List.mem_of_mem_take h

theorem took_bounds {s : List UInt8} (h : (Pl.err s).1 = 0) : (∀ t ∈ Pl.took s, (Pl.wr t).length ≤ 400) ∧ (∀ t ∈ Pl.took s, t.k = 110 → -50 ≤ t.n ∧ t.n ≤ 50) ∧ (Pl.took s).length ≤ 402 := by
  obtain ⟨h1, _, _, _, h5⟩ := err_zero h
  have hr : ∀ t ∈ Pl.took s, t.k = 110 → -50 ≤ t.n ∧ t.n ≤ 50 := fun t ht hk => by
    have := List.find?_eq_none.1 h5 t ht
    unfold outT inR at this
    simp [hk] at this
    omega
  refine ⟨fun t ht => ?_, hr, ?_⟩
  · unfold Pl.wr
    by_cases hk : t.k = 110
    · rw [if_pos hk]
      have := hr t ht hk
      have := Lib.itoa_length_le t.n (by omega) (by omega)
      omega
    · rw [if_neg hk]
      have hp := (Pl.all_place s t (took_mem ht)).1
      unfold Pl.praw
      split
      · simp
      · omega
  · have := Pl.all_length s
    unfold Pl.took
    rw [List.length_take]
    omega

set_option maxRecDepth 100000 in
set_option maxHeartbeats 1000000 in
theorem print_any (s : ByteArray) (w : World) (hm : s.size ≤ maxLen) (hG : Gl w) :
    Calls Tryz.prog 40 #[.string s] w fun e w' => e = .returned (.tuple #[.string ⟨(Pl.ptext s.data.toList).toArray⟩, .int .i64 (Pl.err s.data.toList).1, .int .i64 (Pl.err s.data.toList).2]) ∧ Below w.heap.size w w' := by
  by_cases h0 : (Pl.err s.data.toList).1 = 0
  · have hp2 := (err_zero h0).2.1
    have hpt : Pl.ptext s.data.toList = Pl.wt (Pl.took s.data.toList) := by unfold Pl.ptext; rw [if_pos h0]
    obtain ⟨hw, hn', hl⟩ := took_bounds h0
    have hn : ∀ t ∈ Pl.took s.data.toList, t.k = 110 → -9223372036854775808 ≤ t.n ∧ t.n ≤ 9223372036854775807 := fun t ht hk => by have := hn' t ht hk; omega
    have happ := Pl.took_append s.data.toList
    have hlt := Pl.pWhole_lt _ (err_zero h0).2.2.1
    have HR : Hid (∀ w1, Gl w1 → Calls Tryz.prog 33 #[.string s] w1 fun e w' => Below w1.heap.size w1 w' ∧ ∃ rb g cap, e = .returned (.tuple #[.pointer (some ⟨rb, 0, none⟩), .int .i64 0, .int .i64 0]) ∧
        w'.cell? ⟨rb, 5, none⟩ = some (.slice (some ⟨g, 0, none⟩) (Pl.took s.data.toList).length cap) ∧ g < w'.heap.size ∧ (∀ j u, (tokRow (Pl.took s.data.toList))[j]? = some u → w'.cell? ⟨g, j, none⟩ = some u)) := fun w1 g1 => by
      refine (readText_any s w1 hm g1).mono ?_
      rintro e w' ⟨hb, pv, rfl, hrd⟩
      obtain ⟨rb, rfl, _, hR⟩ := hrd h0
      obtain ⟨c, t, r, tv, rv, hc, hl', hbk, hown, _⟩ := hR
      have hcc : c = Pl.took s.data.toList := List.append_cancel_right (hc.trans happ.symm)
      subst hcc
      have h0' : 0 < (Pl.took s.data.toList).length := by
        have h2 := congrArg List.length happ
        simp only [List.length_append] at h2
        omega
      obtain ⟨g, cap, rfl, _, hg2⟩ := hown.form h0'
      refine ⟨hb, rb, g, cap, by rw [h0, hp2]; rfl, cell_of hbk 5, hg2, fun j u hu => ?_⟩
      have := hown.cells (g := g) rfl j u hu
      rwa [addr_add] at this
    rw [hpt, h0, hp2]
    clear hp2 hpt h0 happ hlt
    go_enter Tryz.func40, Tryz.ntmps40
    go_wp2_with fail
    refine (HR.out _ hG).mono ?_
    rintro e w1 ⟨hb1, rb, g, cap, rfl, c5, hg2, hrow⟩
    have HROW : Hid (∀ j u, (tokRow (Pl.took s.data.toList))[j]? = some u → w1.cell? ⟨g, j, none⟩ = some u) := hrow
    have hG1 : Gl w1 := hG.below hb1 hG.sz
    clear hrow HR
    go_wp2_with fail
    refine (writeTokens_any (Pl.took s.data.toList) g cap w1 hG1 hg2 HROW.out hl hw hn).mono ?_
    rintro e w2 ⟨rfl, hb2⟩
    go_wp2_with fail
    go_ret3
    exact ⟨rfl, hb1.trans (hb2.mono hb1.size)⟩
  · have hpt : Pl.ptext s.data.toList = [] := by unfold Pl.ptext; rw [if_neg h0]
    have HR : Hid (∀ w1, Gl w1 → Calls Tryz.prog 33 #[.string s] w1 fun e w' => Below w1.heap.size w1 w' ∧ ∃ pv, e = .returned (.tuple #[.pointer pv, .int .i64 (Pl.err s.data.toList).1, .int .i64 (Pl.err s.data.toList).2])) := fun w1 g1 => by
      refine (readText_any s w1 hm g1).mono ?_
      rintro e w' ⟨hb, pv, rfl, hrd⟩
      exact ⟨hb, pv, rfl⟩
    rw [hpt]
    have hne : (((Pl.err s.data.toList).1 : Int) != 0) = true := by rw [bne_iff_ne]; omega
    generalize (Pl.err s.data.toList).1 = E at *
    generalize (Pl.err s.data.toList).2 = Pp at *
    clear hpt h0
    go_enter Tryz.func40, Tryz.ntmps40
    go_wp2_with fail
    refine (HR.out _ hG).mono ?_
    rintro e w1 ⟨hb1, pv, rfl⟩
    go_wp2_with fail
    go_ret3
    exact ⟨rfl, hb1⟩

end Go.Proofs.YtkjhhooecopolaaGreatDoor

namespace Go.Proofs.YtkjhhooecopolaaGreatDoor
open Go.RowKit

namespace Pl

theorem Tx.bracket {α β : Type} {ok1 : α → Prop} {ok2 : β → Prop} {txt1 : α → List UInt8} {txt2 : β → List UInt8} {c : List Tk} {x : α} {y : β} {t : Tk} (T : Tx ok1 txt1 c x) (ft : Form t) (hk : t.k = 40)
    (ho : ok1 x → ok2 y) (ht : txt2 y = [40] ++ txt1 x) : Tx ok2 txt2 (t :: c) y := by
  obtain ⟨s1, _, s3⟩ := wr_sign ft 40 (by decide) hk
  refine ⟨by simp, fun p fp hp => ?_, fun p fp hp => ?_, fun p u d fu hu => ?_, fun hn hl => ?_⟩
  · rw [wtail_40 fp hp, T.br t ft hk, s1, ht]
  · rw [wtail_44 fp hp, T.br t ft hk, s1, ht]
  · show (if bb p t = true then [32] else []) ++ (wr t ++ wtail t (c ++ u :: d)) = ((if bb p t = true then [32] else []) ++ (wr t ++ wtail t c)) ++ _
    rw [T.cl t u d fu hu]
    simp [List.append_assoc]
  · have hl' : c.length + 1 ≤ 402 := by simpa using hl
    exact ho (T.okc (fun t ht => hn t (by simp [ht])) (by omega))

theorem tx_close {α : Type} {ok : List α → Prop} {txt : α → List UInt8} {t : Tk} (ft : Form t) (hk : t.k = 41) (ho : ok []) : Tx ok (fun xs => joinT txt xs ++ [41]) [t] [] := by
  obtain ⟨s1, _, s3⟩ := wr_sign ft 41 (by decide) hk
  refine ⟨by simp, fun p fp hp => ?_, fun p fp hp => ?_, fun p u d fu hu => ?_, fun _ _ => ho⟩
  · rw [wtail_40 fp hp, s1]; rfl
  · rw [wtail_44 fp hp, s1]; rfl
  · show (if bb p t = true then [32] else []) ++ (wr t ++ wtail t (u :: d)) = ((if bb p t = true then [32] else []) ++ (wr t ++ [])) ++ _
    rw [wtail_41 ft hk]
    simp [List.append_assoc]

theorem tx_word {α : Type} {ok : α → Prop} {txt : α → List UInt8} {t : Tk} {y : α} (hk : t.k = 119) (hr : t.raw = EMPTY) (ht : txt y = EMPTY) (ho : ok y) : Tx ok txt [t] y := by
  have hp : praw t = EMPTY := by unfold praw; rw [if_neg (by rw [hk]; decide), hr]
  have s1 : wr t = EMPTY := by unfold wr; rw [if_neg (by rw [hk]; decide), hp]
  refine ⟨by simp, fun p fp hp => ?_, fun p fp hp => ?_, fun p u d fu hu => ?_, fun _ _ => ho⟩
  · rw [wtail_40 fp hp, s1, ht]; rfl
  · rw [wtail_44 fp hp, s1, ht]; rfl
  · show (if bb p t = true then [32] else []) ++ (wr t ++ wtail t (u :: d)) = ((if bb p t = true then [32] else []) ++ (wr t ++ [])) ++ _
    rw [wtail_no (bb_no (by rw [hp]; decide) (Or.inl (by rw [hk]; decide)))]
    simp [List.append_assoc]

theorem says_ring : Says (fun g => okRing g ∧ g.length ≤ 402) ringT pRing := by
  intro l hf h
  unfold pRing at h ⊢
  by_cases h1 : (mk 40 l).1 = true
  · rw [if_pos h1] at h ⊢
    obtain ⟨t, ht, hk⟩ := mk_true h1
    have ft : Form t := hf t (by rw [ht]; simp)
    have hf1 : ∀ u ∈ (mk 40 l).2, Form u := fun u hu => hf u (by rw [ht]; simp [hu])
    by_cases h2 : (mk 41 (mk 40 l).2).1 = true
    · rw [if_pos h2]
      obtain ⟨t2, ht2, hk2⟩ := mk_true h2
      have ft2 : Form t2 := hf1 t2 (by rw [ht2]; simp)
      refine ⟨[t, t2], ?_, (tx_close (ok := fun g => okRing g ∧ g.length ≤ 402) (txt := ptT) ft2 hk2 ⟨fun p hp => by simp at hp, by simp⟩).bracket ft hk id rfl⟩
      show t :: t2 :: (mk 41 (mk 40 l).2).2 = l
      rw [← ht2, ← ht]
    · rw [if_neg h2] at h ⊢
      obtain ⟨c, xs, hc, hv, _, T, _⟩ := says_row says_pt l.length (mk 40 l).2 [] hf1 h
      rw [List.nil_append] at hv
      rw [hv]
      exact ⟨t :: c, by rw [List.cons_append, hc, ← ht], T.bracket ft hk (fun o => ⟨fun p hp => o.2 p hp, o.1⟩) rfl⟩
  · rw [if_neg h1] at h; cases h

def multiT (ps : List (List (List (Int × Int)))) : List UInt8 := if ps.length = 0 then EMPTY else [40] ++ (joinT polyT ps ++ [41])

theorem bodyT_eq (ps : List (List (List (Int × Int)))) : bodyT ps = MULTI ++ ([32] ++ multiT ps) := by
  unfold bodyT multiT
  by_cases h : ps.length = 0
  · rw [if_pos h, if_pos h]
  · rw [if_neg h, if_neg h]; simp

theorem says_poly : Says okPoly polyT pPoly := by
  intro l hf h
  unfold pPoly at h ⊢
  by_cases h0 : (wd EMPTY l).1 = true
  · rw [if_pos h0]
    obtain ⟨t, ht, hk, hr⟩ := wd_true h0
    exact ⟨[t], by rw [List.singleton_append, ← ht], tx_word hk hr rfl ⟨by simp, fun p hp => by simp at hp⟩⟩
  · rw [if_neg h0] at h ⊢
    by_cases h1 : (mk 40 l).1 = true
    · rw [if_pos h1] at h ⊢
      obtain ⟨t, ht, hk⟩ := mk_true h1
      have ft : Form t := hf t (by rw [ht]; simp)
      have hf1 : ∀ u ∈ (mk 40 l).2, Form u := fun u hu => hf u (by rw [ht]; simp [hu])
      obtain ⟨c, xs, hc, hv, hne, T, _⟩ := says_row says_ring l.length (mk 40 l).2 [] hf1 h
      rw [List.nil_append] at hv
      rw [hv]
      have hl : ¬ xs.length = 0 := fun e => hne (List.length_eq_zero_iff.1 e)
      exact ⟨t :: c, by rw [List.cons_append, hc, ← ht], T.bracket ft hk (fun o => ⟨o.1, fun p hp => o.2 p hp⟩) (if_neg hl)⟩
    · rw [if_neg h1] at h; cases h

theorem says_multi : Says okMulti multiT pMulti := by
  intro l hf h
  unfold pMulti at h ⊢
  by_cases h0 : (wd EMPTY l).1 = true
  · rw [if_pos h0]
    obtain ⟨t, ht, hk, hr⟩ := wd_true h0
    exact ⟨[t], by rw [List.singleton_append, ← ht], tx_word hk hr rfl ⟨by simp, fun p hp => by simp at hp⟩⟩
  · rw [if_neg h0] at h ⊢
    by_cases h1 : (mk 40 l).1 = true
    · rw [if_pos h1] at h ⊢
      obtain ⟨t, ht, hk⟩ := mk_true h1
      have ft : Form t := hf t (by rw [ht]; simp)
      have hf1 : ∀ u ∈ (mk 40 l).2, Form u := fun u hu => hf u (by rw [ht]; simp [hu])
      obtain ⟨c, xs, hc, hv, hne, T, _⟩ := says_row says_poly l.length (mk 40 l).2 [] hf1 h
      rw [List.nil_append] at hv
      rw [hv]
      have hl : ¬ xs.length = 0 := fun e => hne (List.length_eq_zero_iff.1 e)
      exact ⟨t :: c, by rw [List.cons_append, hc, ← ht], T.bracket ft hk (fun o => ⟨o.1, fun p hp => o.2 p hp⟩) (if_neg hl)⟩
    · rw [if_neg h1] at h; cases h


theorem wt_word {α : Type} {ok : α → Prop} {txt : α → List UInt8} {c : List Tk} {x : α} {a : Tk} {q : List UInt8} (T : Tx ok txt c x) (hk : a.k = 119) (hr : a.raw = q) : wt (a :: c) = q ++ ([32] ++ txt x) := by
  have h := T.br ⟨40, [40], 0, 0⟩ (Or.inr (Or.inl ⟨40, rfl, rfl, by decide⟩)) rfl
  have hne := T.ne
  cases c with
  | nil => exact absurd rfl hne
  | cons b r =>
    rw [wtail_40 (Or.inr (Or.inl ⟨40, rfl, rfl, by decide⟩)) rfl] at h
    have hp : praw a = q := by unfold praw; rw [if_neg (by rw [hk]; decide), hr]
    have s1 : wr a = q := by unfold wr; rw [if_neg (by rw [hk]; decide), hp]
    show wr a ++ ([32] ++ (wr b ++ wtail b r)) = _
    rw [h, s1]

/-- What a good text is written as, by its value. -/
theorem text_poly {s : List UInt8} (h : (err s).1 = 0) (hw : (wd POLYGON (all s)).1 = true) :
    ∃ gs, (pWhole (all s)).2.2 = [gs] ∧ okPoly gs ∧ wt (took s) = POLYGON ++ ([32] ++ polyT gs) := by
  obtain ⟨_, _, h1, _⟩ := err_zero h
  obtain ⟨_, hn, hl⟩ := took_bounds h
  have happ := took_append s
  have hpw : pWhole (all s) = ((pPoly (wd POLYGON (all s)).2).1, (pPoly (wd POLYGON (all s)).2).2.1, [(pPoly (wd POLYGON (all s)).2).2.2]) := by
    unfold pWhole; rw [if_pos hw]
  rw [hpw] at h1 happ
  obtain ⟨a, ha, hk, hr⟩ := wd_true hw
  have hf : ∀ t ∈ all s, Form t := fun t ht => place_form (all_place s t ht)
  obtain ⟨c, hc, T⟩ := says_poly (wd POLYGON (all s)).2 (fun t ht => hf t (by rw [ha]; simp [ht])) h1
  have ht : took s = a :: c := by
    refine List.append_cancel_right (happ.trans (ha.trans ?_))
    show a :: _ = a :: (c ++ _)
    rw [hc]
  rw [ht] at hn hl
  exact ⟨_, by rw [hpw], T.okc (fun t h => hn t (by simp [h])) (by simp at hl; omega), by rw [ht]; exact wt_word T hk hr⟩

theorem text_multi {s : List UInt8} (h : (err s).1 = 0) (hw0 : (wd POLYGON (all s)).1 = false) :
    (wd MULTI (all s)).1 = true ∧ okMulti (pWhole (all s)).2.2 ∧ wt (took s) = bodyT (pWhole (all s)).2.2 := by
  obtain ⟨_, _, h1, _⟩ := err_zero h
  obtain ⟨_, hn, hl⟩ := took_bounds h
  have happ := took_append s
  by_cases hw : (wd MULTI (all s)).1 = true
  · have hpw : pWhole (all s) = pMulti (wd MULTI (all s)).2 := by
      unfold pWhole; rw [if_neg (by rw [hw0]; simp), if_pos hw]
    rw [hpw] at h1 happ ⊢
    obtain ⟨a, ha, hk, hr⟩ := wd_true hw
    have hf : ∀ t ∈ all s, Form t := fun t ht => place_form (all_place s t ht)
    obtain ⟨c, hc, T⟩ := says_multi (wd MULTI (all s)).2 (fun t ht => hf t (by rw [ha]; simp [ht])) h1
    have ht : took s = a :: c := by
      refine List.append_cancel_right (happ.trans (ha.trans ?_))
      show a :: _ = a :: (c ++ _)
      rw [hc]
    rw [ht] at hn hl
    exact ⟨hw, T.okc (fun t h => hn t (by simp [h])) (by simp at hl; omega), by rw [ht, bodyT_eq]; exact wt_word T hk hr⟩
  · have hpw : pWhole (all s) = (false, all s, []) := by
      unfold pWhole; rw [if_neg (by rw [hw0]; simp), if_neg hw]
    rw [hpw] at h1
    cases h1

end Pl
end Go.Proofs.YtkjhhooecopolaaGreatDoor
