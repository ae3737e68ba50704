import Derived.Test.YtkjhhooecopolaaGreatDoorVj19
namespace Go.Proofs.YtkjhhooecopolaaGreatDoor
open Go.RowKit

def okMulti (ps : List (List (List (Int × Int)))) : Prop := ps.length ≤ 402 ∧ ∀ gs ∈ ps, okPoly gs

theorem joinPoly_len (ps : List (List (List (Int × Int)))) (hok : okMulti ps) (k : Nat) : (Pl.joinT Pl.polyT (ps.take k)).length ≤ k * 7300002 := by
  refine Nat.le_trans (Pl.joinT_len Pl.polyT 7300000 (ps.take k) fun p hp => polyT_len (hok.2 p (List.mem_of_mem_take hp))) ?_
  exact Nat.mul_le_mul_right _ (by simp; omega)

set_option maxRecDepth 100000 in
set_option maxHeartbeats 2000000 in
theorem written_poly (gs : List (List (Int × Int))) (pv : Value) (w : World) (hG : Gl w) (hR : RdMulti w pv [gs]) (hok : okPoly gs) :
    Calls Tryz.prog 15 #[.agg #[.string ⟨Pl.POLYGON.toArray⟩, pv, .int .i64 0]] w fun e w' => e = .returned (.string ⟨(Pl.POLYGON ++ ([32] ++ Pl.polyT gs)).toArray⟩) ∧ Below w.heap.size w w' := by
  obtain ⟨so, cap, rfl⟩ := rdRow_slice hR
  obtain ⟨b, u, rfl, hb, e0, hru⟩ := rdRow_get (k := 0) hR rfl
  obtain ⟨us, uc, rfl⟩ := rdRow_slice hru
  have HP : Hid (∀ w1, Below w.heap.size w w1 → Gl w1 → Calls Tryz.prog 32 #[.slice us gs.length uc] w1 fun e w' => e = .returned (.string ⟨(Pl.polyT gs).toArray⟩) ∧ Below w1.heap.size w1 w') := fun w1 hb1 g1 => polyText_any gs _ w1 g1 (keeps_below keeps_poly hru hb1) hok
  have hxl := polyT_len hok
  have HPO : Hid (Pl.POLYGON = [80, 79, 76, 89, 71, 79, 78]) := rfl
  clear hR hru hok
  generalize Pl.polyT gs = X at *
  generalize gs.length = GN at *
  simp only [List.length_cons, List.length_nil, Nat.zero_add, show Pl.POLYGON = [80, 79, 76, 89, 71, 79, 78] from rfl]
  go_enter Tryz.func15, Tryz.ntmps15
  have hs1 : ¬9223372036854775807 < 8 + X.length := by omega
  have hb0 : Below w.heap.size w (w.alloc (.cells #[.string ⟨#[80, 79, 76, 89, 71, 79, 78]⟩, .slice (some ⟨b, 0, none⟩) 1 cap, .int .i64 0] 29)) := (Below.refl _ _).alloc (Nat.le_refl _) _
  go_wp2_with fail
  refine (HP.out _ hb0 (hG.alloc _)).mono ?_
  rintro e w1 ⟨rfl, hb1⟩
  go_wp2_with fail
  go_ret
  exact ⟨by simp [ByteArray.mk_append_mk], hb0.trans (hb1.mono hb0.size)⟩

set_option maxRecDepth 100000 in
set_option maxHeartbeats 2000000 in
theorem written_multi (ps : List (List (List (Int × Int)))) (pv : Value) (w : World) (hG : Gl w) (hR : RdMulti w pv ps) (hok : okMulti ps) :
    Calls Tryz.prog 15 #[.agg #[.string ⟨Pl.MULTI.toArray⟩, pv, .int .i64 0]] w fun e w' => e = .returned (.string ⟨(Pl.bodyT ps).toArray⟩) ∧ Below w.heap.size w w' := by
  obtain ⟨so, cap, rfl⟩ := rdRow_slice hR
  have HR : Hid (RdMulti w (.slice so ps.length cap) ps) := hR
  have HOK : Hid (okMulti ps) := hok
  have HL : Hid (∀ k, (Pl.joinT Pl.polyT (ps.take k)).length ≤ k * 7300002) := joinPoly_len ps hok
  have hl : ps.length ≤ 402 := hok.1
  clear hR hok
  simp only [show Pl.MULTI = [77, 85, 76, 84, 73, 80, 79, 76, 89, 71, 79, 78] from rfl]
  have hb0 : Below w.heap.size w (w.alloc (.cells #[.string ⟨#[77, 85, 76, 84, 73, 80, 79, 76, 89, 71, 79, 78]⟩, .slice so ps.length cap, .int .i64 0] 29)) := (Below.refl _ _).alloc (Nat.le_refl _) _
  have HB0 : Hid (Below w.heap.size w (w.alloc (.cells #[.string ⟨#[77, 85, 76, 84, 73, 80, 79, 76, 89, 71, 79, 78]⟩, .slice so ps.length cap, .int .i64 0] 29))) := hb0
  clear hb0
  go_enter Tryz.func15, Tryz.ntmps15
  by_cases hz : ps.length = 0
  · have HZ : Hid (ps.length = 0) := hz
    have hq : ((ps.length : Int) == 0) = true := beq_iff_eq.2 (by omega)
    clear hz
    go_wp2_with fail
    go_ret
    exact ⟨by unfold Pl.bodyT; rw [if_pos HZ.out]; rfl, HB0.out⟩
  · have HZ : Hid (¬ ps.length = 0) := hz
    have hq : ((ps.length : Int) == 0) = false := beq_eq_false_iff_ne.2 (by omega)
    clear hz
    go_wp2_with fail
    go_loopg [4, 5] ps.length (fun n sv iv wr => ∃ k : Nat, k + n = ps.length ∧ iv = .int .i64 k ∧ sv = .string ⟨([77, 85, 76, 84, 73, 80, 79, 76, 89, 71, 79, 78, 32, 40] ++ Pl.joinT Pl.polyT (ps.take k)).toArray⟩ ∧ Hid (Below w.heap.size w wr ∧ Gl wr ∧ w.heap.size < wr.heap.size ∧ wr.heap[w.heap.size]? = some (.cells #[.string ⟨#[77, 85, 76, 84, 73, 80, 79, 76, 89, 71, 79, 78]⟩, .slice so ps.length cap, .int .i64 0] 29)))
    case atStart => exact ⟨0, by omega, rfl, rfl, HB0.out, hG.alloc _, by simp, heap_alloc_new _ _⟩
    case round =>
      obtain ⟨k, hkn, rfl, rfl, HB⟩ := hrel
      obtain ⟨hbel, hGr, hwz, hbx⟩ := HB.out
      have c1 : wr.cell? ⟨w.heap.size, 1, none⟩ = some (.slice so ps.length cap) := cell_of hbx 1
      by_cases hlt : k < ps.length
      · obtain ⟨p, hp⟩ : ∃ p, ps[k]? = some p := ⟨_, List.getElem?_eq_getElem hlt⟩
        obtain ⟨b, u, rfl, hb, e0, hru⟩ := rdRow_get HR.out hp
        obtain ⟨us, uc, rfl⟩ := rdRow_slice hru
        have o1 := HOK.out.2 p (List.mem_of_getElem? hp)
        have r0 : wr.cell? ⟨b, k, none⟩ = some (.slice us p.length uc) := (hbel.cell (p := ⟨b, k, none⟩) hb).trans e0
        have HRT : Hid (Calls Tryz.prog 32 #[.slice us p.length uc] wr fun e w' => e = .returned (.string ⟨(Pl.polyT p).toArray⟩) ∧ Below wr.heap.size wr w') := polyText_any p _ wr hGr (keeps_below keeps_poly hru hbel) o1
        have hxl := polyT_len o1
        have hbl := HL.out k
        have hbr : b < wr.heap.size := by have := hbel.size; omega
        have hki : (k : Int) < (ps.length : Int) := by omega
        have HT : Hid (Pl.joinT Pl.polyT (ps.take (k + 1)) = Pl.joinT Pl.polyT (ps.take k) ++ ((if k = 0 then [] else [44, 32]) ++ Pl.polyT p)) := joinT_take Pl.polyT hp
        generalize Pl.joinT Pl.polyT (ps.take k) = J at *
        generalize Pl.polyT p = X1 at *
        generalize p.length = PN at *
        clear hp e0 hru o1 HOK HL HR hbx
        have HBEL : Hid (Below w.heap.size w wr) := hbel
        clear hbel
        by_cases hk0 : k = 0
        · have hq0 : decide (0 < (k : Int)) = false := by simp; omega
          have HK0 : Hid (k = 0) := hk0
          have hq1 : decide (0 < k) = false := by simp; omega
          clear hk0
          have hs1 : ¬9223372036854775807 < J.length + 14 + X1.length := by omega
          go_wp2_with fail
          refine HRT.out.mono ?_
          rintro e w5 ⟨rfl, hb5⟩
          go_wp2_with fail
          go_roundg (gk - 1)
          case measure => omega
          case rel =>
            refine ⟨k + 1, by omega, by go_num, ?_, ?_⟩
            · rw [HT.out, if_pos HK0.out]
              simp [ByteArray.mk_append_mk]
            · exact ⟨HBEL.out.trans (hb5.mono HBEL.out.size), hGr.below hb5 hGr.sz, Nat.lt_of_lt_of_le hwz hb5.size, (hb5.block _ hwz).trans HB.out.2.2.2⟩
        · have hq0 : decide (0 < (k : Int)) = true := by simp; omega
          have HK0 : Hid (¬ k = 0) := hk0
          have hq1 : decide (0 < k) = true := by simp; omega
          clear hk0
          have hs0 : ¬9223372036854775807 < J.length + 14 + 2 := by omega
          have hs1 : ¬9223372036854775807 < J.length + 14 + 2 + X1.length := by omega
          go_wp2_with fail
          refine HRT.out.mono ?_
          rintro e w5 ⟨rfl, hb5⟩
          go_wp2_with fail
          go_roundg (gk - 1)
          case measure => omega
          case rel =>
            refine ⟨k + 1, by omega, by go_num, ?_, ?_⟩
            · rw [HT.out, if_neg HK0.out]
              simp [ByteArray.mk_append_mk]
            · exact ⟨HBEL.out.trans (hb5.mono HBEL.out.size), hGr.below hb5 hGr.sz, Nat.lt_of_lt_of_le hwz hb5.size, (hb5.block _ hwz).trans HB.out.2.2.2⟩
      · have hk : k = ps.length := by omega
        subst hk
        have hbl := HL.out ps.length
        rw [List.take_length] at hbl
        rw [List.take_length]
        have HRT : Hid (Pl.bodyT ps = Pl.MULTI ++ ([32, 40] ++ (Pl.joinT Pl.polyT ps ++ [41]))) := if_neg HZ.out
        generalize Pl.joinT Pl.polyT ps = J at *
        have hs1 : ¬9223372036854775807 < J.length + 14 + 1 := by omega
        clear HL HOK HR
        go_wp2_with fail
        go_ret
        exact ⟨by rw [HRT.out]; simp [ByteArray.mk_append_mk, Pl.MULTI], hbel⟩

end Go.Proofs.YtkjhhooecopolaaGreatDoor

namespace Go.Proofs.YtkjhhooecopolaaGreatDoor
open Go.RowKit

namespace Pl

theorem form_num {t : Tk} (h : Form t) (hk : t.k = 110) : praw t ≠ [44] := fun e => by
  have := (sign_iff h 44 (by decide)).1 e
  rw [hk] at this
  exact absurd this (by decide)
theorem bb_no {a b : Tk} (h1 : praw a ≠ [44]) (h2 : a.k ≠ 110 ∨ b.k ≠ 110) : bb a b = false := by
  unfold bb
  rcases h2 with h2 | h2 <;> simp [h1, h2]
theorem wr_sign {t : Tk} (h : Form t) (c : UInt8) (hc : c.toNat = 40 ∨ c.toNat = 41 ∨ c.toNat = 44) (hk : t.k = c.toNat) : wr t = [c] ∧ praw t = [c] ∧ t.k ≠ 110 := by
  have e := (sign_iff h c hc).2 hk
  have hne : t.k ≠ 110 := by omega
  exact ⟨by unfold wr; rw [if_neg hne, e], e, hne⟩
theorem wtail_no {p t : Tk} {d : List Tk} (h : bb p t = false) : wtail p (t :: d) = wr t ++ wtail t d := by
  show (if bb p t = true then [32] else []) ++ (wr t ++ wtail t d) = _
  rw [h, if_neg (by simp), List.nil_append]
theorem wtail_40 {p t : Tk} {d : List Tk} (h : Form p) (hk : p.k = 40) : wtail p (t :: d) = wr t ++ wtail t d := by
  obtain ⟨_, h2, h3⟩ := wr_sign h 40 (by decide) hk
  exact wtail_no (bb_no (by rw [h2]; decide) (Or.inl h3))
theorem wtail_41 {p t : Tk} {d : List Tk} (h : Form p) (hk : p.k = 41) : wtail p (t :: d) = wr t ++ wtail t d := by
  obtain ⟨_, h2, h3⟩ := wr_sign h 41 (by decide) hk
  exact wtail_no (bb_no (by rw [h2]; decide) (Or.inl h3))
theorem wtail_44 {p t : Tk} {d : List Tk} (h : Form p) (hk : p.k = 44) : wtail p (t :: d) = [32] ++ (wr t ++ wtail t d) := by
  obtain ⟨_, h2, _⟩ := wr_sign h 44 (by decide) hk
  show (if bb p t = true then [32] else []) ++ (wr t ++ wtail t d) = _
  rw [if_pos (by unfold bb; simp [h2])]

/-- A run of tokens that stands for a value: how it is written behind a bracket, behind a comma, and that it closes. -/
structure Tx {α : Type} (ok : α → Prop) (txt : α → List UInt8) (c : List Tk) (x : α) : Prop where
  ne : c ≠ []
  br : ∀ p, Form p → p.k = 40 → wtail p c = txt x
  co : ∀ p, Form p → p.k = 44 → wtail p c = [32] ++ txt x
  cl : ∀ p t d, Form t → t.k ≠ 110 → wtail p (c ++ t :: d) = wtail p c ++ (wr t ++ wtail t d)
  okc : (∀ t ∈ c, t.k = 110 → okInt t.n) → c.length ≤ 402 → ok x

def Says {α : Type} (ok : α → Prop) (txt : α → List UInt8) (item : List Tk → Bool × List Tk × α) : Prop :=
  ∀ l, (∀ t ∈ l, Form t) → (item l).1 = true → ∃ c, c ++ (item l).2.1 = l ∧ Tx ok txt c (item l).2.2

theorem says_pt : Says (fun p => okInt p.1 ∧ okInt p.2) ptT pPt := by
  intro l hf h
  match l, hf, h with
  | [], _, h => cases h
  | [x], _, h => cases h
  | x :: y :: r, hf, h =>
    have e : pPt (x :: y :: r) = if x.k = 110 then (if y.k = 110 then (true, r, (x.n, y.n)) else (false, y :: r, (0, 0))) else (false, x :: y :: r, (0, 0)) := rfl
    rw [e] at h ⊢
    by_cases hx : x.k = 110
    · rw [if_pos hx] at h ⊢
      by_cases hy : y.k = 110
      · rw [if_pos hy]
        have fx := hf x (by simp)
        have fy := hf y (by simp)
        have w1 : wr x = Lib.itoa x.n := if_pos hx
        have w2 : wr y = Lib.itoa y.n := if_pos hy
        have hb : ∀ d, wtail x (y :: d) = [32] ++ (wr y ++ wtail y d) := fun d => by
          show (if bb x y = true then [32] else []) ++ (wr y ++ wtail y d) = _
          rw [if_pos (by unfold bb; simp [hx, hy])]
        refine ⟨[x, y], rfl, by simp, fun p fp hp => ?_, fun p fp hp => ?_, fun p t d ft ht => ?_, fun hn _ => ⟨hn x (by simp) hx, hn y (by simp) hy⟩⟩
        · rw [wtail_40 fp hp, hb, w1, w2]
          simp [wtail, ptT]
        · rw [wtail_44 fp hp, hb, w1, w2]
          simp [wtail, ptT]
        · show (if bb p x = true then [32] else []) ++ (wr x ++ wtail x (y :: t :: d)) = ((if bb p x = true then [32] else []) ++ (wr x ++ wtail x [y])) ++ _
          rw [hb, hb, wtail_no (p := y) (t := t) (bb_no (form_num fy hy) (Or.inr ht))]
          simp [wtail, List.append_assoc]
      · rw [if_neg hy] at h; cases h
    · rw [if_neg hx] at h; cases h

theorem mk_true {c : Nat} {l : List Tk} (h : (mk c l).1 = true) : ∃ t, l = t :: (mk c l).2 ∧ t.k = c := by
  cases l with
  | nil => cases h
  | cons t r =>
    have e : mk c (t :: r) = if t.k = c then (true, r) else (false, t :: r) := rfl
    rw [e] at h ⊢
    by_cases hk : t.k = c
    · rw [if_pos hk]; exact ⟨t, rfl, hk⟩
    · rw [if_neg hk] at h; cases h
theorem wd_true {q : List UInt8} {l : List Tk} (h : (wd q l).1 = true) : ∃ t, l = t :: (wd q l).2 ∧ t.k = 119 ∧ t.raw = q := by
  cases l with
  | nil => cases h
  | cons t r =>
    have e : wd q (t :: r) = if t.k = 119 ∧ t.raw = q then (true, r) else (false, t :: r) := rfl
    rw [e] at h ⊢
    by_cases hk : t.k = 119 ∧ t.raw = q
    · rw [if_pos hk]; exact ⟨t, rfl, hk⟩
    · rw [if_neg hk] at h; cases h

/-- What a row of items stands for, its closing bracket with it. -/
theorem says_row {α : Type} {ok : α → Prop} {txt : α → List UInt8} {item : List Tk → Bool × List Tk × α} (hi : Says ok txt item) :
    ∀ (f : Nat) (l : List Tk) (acc : List α), (∀ t ∈ l, Form t) → (pRow item f l acc).1 = true →
      ∃ c xs, c ++ (pRow item f l acc).2.1 = l ∧ (pRow item f l acc).2.2 = acc ++ xs ∧ xs ≠ [] ∧
        Tx (fun xs => xs.length ≤ 402 ∧ ∀ x ∈ xs, ok x) (fun xs => joinT txt xs ++ [41]) c xs ∧ xs.length ≤ c.length
  | 0, l, acc, _, h => by cases h
  | f + 1, l, acc, hf, h => by
    unfold pRow at h ⊢
    by_cases h1 : (item l).1 = true
    · rw [if_pos h1] at h ⊢
      obtain ⟨c0, hc0, T0⟩ := hi l hf h1
      generalize (item l).2.1 = rest at *
      generalize (item l).2.2 = x at *
      have hfr : ∀ t ∈ rest, Form t := fun t ht => hf t (by rw [← hc0]; simp [ht])
      have hn0 : 1 ≤ c0.length := List.length_pos_iff.2 T0.ne
      by_cases h2 : (mk 44 rest).1 = true
      · rw [if_pos h2] at h ⊢
        obtain ⟨t, ht, hk⟩ := mk_true h2
        have ft : Form t := hfr t (by rw [ht]; simp)
        obtain ⟨c1, xs, hc1, hv, hne, T1, hlen⟩ := says_row hi f (mk 44 rest).2 (acc ++ [x]) (fun u hu => hfr u (by rw [ht]; simp [hu])) h
        obtain ⟨s1, s2, s3⟩ := wr_sign ft 44 (by decide) hk
        have hj : joinT txt (x :: xs) = txt x ++ ([44, 32] ++ joinT txt xs) := by
          cases xs with
          | nil => exact absurd rfl hne
          | cons a b => rfl
        refine ⟨c0 ++ t :: c1, x :: xs, by rw [List.append_assoc, List.cons_append, hc1, ← ht, hc0], by rw [hv]; simp, by simp, ⟨by simp, fun p fp hp => ?_, fun p fp hp => ?_, fun p u d fu hu => ?_, fun hn hl => ?_⟩, by simp; omega⟩
        · rw [T0.cl p t c1 ft s3, T0.br p fp hp, T1.co t ft hk, s1, hj]
          simp
        · rw [T0.cl p t c1 ft s3, T0.co p fp hp, T1.co t ft hk, s1, hj]
          simp
        · rw [List.append_assoc, List.cons_append, T0.cl p t _ ft s3, T0.cl p t c1 ft s3, T1.cl t u d fu hu]
          simp [List.append_assoc]
        · have hl' : c0.length + (c1.length + 1) ≤ 402 := by simpa using hl
          have k0 := T0.okc (fun t ht => hn t (by simp [ht])) (by omega)
          have k1 := T1.okc (fun t ht => hn t (by simp [ht])) (by omega)
          exact ⟨by simp; omega, fun y hy => by
            rcases List.mem_cons.1 hy with e | e
            · rw [e]; exact k0
            · exact k1.2 y e⟩
      · rw [if_neg h2] at h ⊢
        obtain ⟨t, ht, hk⟩ := mk_true (c := 41) h
        have ft : Form t := hfr t (by rw [ht]; simp)
        obtain ⟨s1, s2, s3⟩ := wr_sign ft 41 (by decide) hk
        have hw : wtail t [] = [] := rfl
        refine ⟨c0 ++ [t], [x], by rw [List.append_assoc, List.singleton_append, ← ht, hc0], rfl, by simp, ⟨by simp, fun p fp hp => ?_, fun p fp hp => ?_, fun p u d fu hu => ?_, fun hn hl => ?_⟩, by simp⟩
        · rw [T0.cl p t [] ft s3, T0.br p fp hp, s1, hw]
          simp [joinT]
        · rw [T0.cl p t [] ft s3, T0.co p fp hp, s1, hw]
          simp [joinT]
        · rw [List.append_assoc, List.singleton_append, T0.cl p t _ ft s3, T0.cl p t [] ft s3, wtail_41 ft hk, hw]
          simp [List.append_assoc]
        · have hl' : c0.length + 1 ≤ 402 := by simpa using hl
          have k0 := T0.okc (fun t ht => hn t (by simp [ht])) (by omega)
          exact ⟨by simp, fun y hy => by rw [List.mem_singleton.1 hy]; exact k0⟩
    · rw [if_neg h1] at h; cases h

end Pl
end Go.Proofs.YtkjhhooecopolaaGreatDoor
