import Derived.Test.YtkjhhooecopolaaGreatDoorKj08
import Derived.Test.YtkjhhooecopolaaGreatDoorKj05
import Derived.BigQuiet
import Derived.Deep.QuietTactic
namespace Go.Proofs.YtkjhhooecopolaaGreatDoor
open Go.RowKit

theorem goOn_rd {rb : Nat} {s : ByteArray} {A r : List Pl.Tk} {t : Pl.Tk} {rg : List (List (Int × Int))} {w : World} (cx : Cx rb s A) (hR : RD rb s A (t :: r) rg w) (hG : Gl w)
    (hk : t.k = 119 ∨ t.k = 110 ∨ t.k = 40 ∨ t.k = 41 ∨ t.k = 44) :
    Calls Tryz.prog 148 #[.pointer (some ⟨rb, 0, none⟩)] w fun e w' => e = .returned (.tuple #[]) ∧ RD rb s A r rg w' ∧ Below rb w w' ∧ Kp rb w w' := by
  obtain ⟨c, t', r', tv, rv, hc, hl, hb, hown, hrg⟩ := hR
  injection hl with h1 h2
  subst h1 h2
  have hch : Pl.Chain s.data.toList (t :: r) := Pl.chain_suffix _ c _ (by rw [hc]; exact cx.ch) (by simp)
  obtain ⟨u, r', hr, hu, hcr⟩ := Pl.chain_next _ t r hch (by omega)
  have hpl := cx.pl t (by rw [← hc]; simp)
  have hsz : s.data.toList.length = s.size := by simp
  have hlen : c.length + (r.length + 1) ≤ 402 := by have := cx.len; rw [← hc] at this; simpa using this
  have hraw : Pl.praw t = t.raw := by unfold Pl.praw; rw [if_neg (by omega)]
  have hp1 := hpl.1
  rw [hsz] at hp1
  have hrs : (⟨(Pl.praw t).toArray⟩ : ByteArray).size = t.raw.length := by rw [hraw]; rfl
  have hs := cx.hs
  refine (goOn_walk rb s _ _ _ t.pl (t.pl + t.raw.length) tv rv c.length (tokRow c) w (Pl.pk u) ⟨(Pl.praw u).toArray⟩ u.n u.pl hb hown (by omega) (by omega) (by rw [hrs]; omega) (by rw [hrs]) hG cx.rb ?_).mono ?_
  · intro w1 g1
    have := tokenFrom_any numberAt_said s (t.pl + t.raw.length) w1 hp1 cx.hs g1
    rw [← hu] at this
    exact this
  · rintro e w' ⟨rfl, ⟨⟨tv', hb', hown', htv⟩, hkeep, hbel⟩⟩
    refine ⟨rfl, ⟨c ++ [t], u, r', tv', rv, by rw [← hc]; simp, hr, hb', ?_, ?_⟩, hbel, ?_⟩
    · rw [tokRow_snoc]
      simpa [tokCells] using hown'
    · refine hrg.kept fun k cur e hk' he hlt => ?_
      refine hkeep k (lt_of_heap hk') (by omega) (own_elem hown hk' ?_)
      rcases he with rfl | rfl <;> decide
    · rintro k o hne ⟨tv0, h0, h1⟩ hk'
      rw [cell_of hb 5] at h0
      injection h0 with h0
      subst h0
      refine ⟨(hkeep k (lt_of_heap hk') hne h1).trans hk', tv', cell_of hb' 5, fun e => ?_⟩
      rcases htv k e with h | h
      · exact h1 h
      · have := lt_of_heap hk'; omega

theorem goOn_said : GoOnSaid := fun _ _ _ _ _ _ _ cx hR hG hk => goOn_rd cx hR hG hk

end Go.Proofs.YtkjhhooecopolaaGreatDoor

namespace Go.Proofs.YtkjhhooecopolaaGreatDoor
open Go.RowKit

def inR (b v : Int) : Bool := decide (-b ≤ v ∧ v ≤ b)

set_option maxHeartbeats 400000 in
theorem within_any (v b : Int) (w : World) (h0 : 0 ≤ b) (h1 : b ≤ 1000000) :
    Calls Tryz.prog 34 #[.int .i64 v, .int .i64 b] w fun e w' => e = .returned (.bool (inR b v)) ∧ w' = w := by
  by_cases h : -b ≤ v
  · go_enter Tryz.func34, Tryz.ntmps34
    go_wp2
    go_ret
    exact ⟨ret_bool (by unfold inR; simp [h]), rfl⟩
  · have h' : decide (-b ≤ v) = false := by simpa using h
    go_enter Tryz.func34, Tryz.ntmps34
    go_wp2
    go_ret
    exact ⟨ret_bool (by unfold inR; simp; omega), rfl⟩

theorem tokenFrom_zero (s : ByteArray) (w : World) (hs : s.size ≤ 400) (hG : Gl w) :
    Calls Tryz.prog 60 #[.string s, .int .i64 0] w fun e w' => e = .returned (.agg (tokCells (Pl.tk s.data.toList 0))) ∧ Below w.heap.size w w' :=
  tokenFrom_any numberAt_said s 0 w (Nat.zero_le _) hs hG

theorem all_head (s : List UInt8) : ∃ r, Pl.all s = Pl.tk s 0 :: r := Pl.toks_head s _ 0

/-- The reader as it is made. -/
theorem RD.fresh {s : ByteArray} {w : World} {o : Obj} (ho : o = .cells (rdCells s (Pl.tk s.data.toList 0) (.slice none 0 0) (.slice none 0 0)) 80 (0, 0)) : RD w.heap.size s (Pl.all s.data.toList) (Pl.all s.data.toList) [] (w.alloc o) := by
  obtain ⟨r, hr⟩ := all_head s.data.toList
  refine ⟨[], _, r, .slice none 0 0, .slice none 0 0, rfl, hr, ?_, World.ownsRow_nil _ _ _ _, [], rfl, World.ownsRow_nil _ _ _ _, ?_, ?_⟩
  · rw [heap_alloc_new, ho]
  · intro i v g hi; simp at hi
  · intro i j v u k hi; simp at hi

theorem Cx.mk' {s : ByteArray} {rb : Nat} (hs : s.size ≤ 400) (hrb : 6 ≤ rb) : Cx rb s (Pl.all s.data.toList) :=
  ⟨hs, Pl.all_chain _, by have := Pl.all_length s.data.toList; simp at this; omega, Pl.all_place _, hrb⟩

/-- A number beyond its bound. -/
def outT (t : Pl.Tk) : Bool := decide (t.k = 110) && !inR 50 t.n

theorem tokRow_get (c : List Pl.Tk) (k : Nat) (t : Pl.Tk) (h : c[k]? = some t) (j : Nat) (hj : j < 4) : (tokRow c)[k * 4 + j]? = (tokCells t)[j]? := by
  induction c generalizing k with
  | nil => simp at h
  | cons a r ih =>
    cases k with
    | zero =>
      have : a = t := by simpa using h
      subst this
      simp only [tokRow, List.flatMap_cons, Nat.zero_mul, Nat.zero_add]
      rw [List.getElem?_append_left (by simp [tokCells]; omega)]
      simp
    | succ k =>
      have h' : r[k]? = some t := by simpa using h
      have := ih k h'
      simp only [tokRow, List.flatMap_cons] at this ⊢
      rw [List.getElem?_append_right (by simp [tokCells]; omega)]
      rw [← this]
      congr 1
      simp [tokCells]; omega

set_option maxRecDepth 100000 in
set_option maxHeartbeats 400000 in
theorem readText_long (s : ByteArray) (w : World) (hs : 400 < s.size) (hm : s.size ≤ maxLen) :
    Calls Tryz.prog 33 #[.string s] w fun e w' => e = .returned (.tuple #[.pointer none, .int .i64 1, .int .i64 0]) ∧ w' = w := by
  unfold maxLen at hm
  go_enter Tryz.func33, Tryz.ntmps33
  go_wp2
  go_ret3
  exact ⟨rfl, rfl⟩

set_option maxRecDepth 100000 in
set_option maxHeartbeats 1000000 in
theorem readText_form (s : ByteArray) (w : World) (hs : s.size ≤ 400) (hG : Gl w) (l' : List Pl.Tk) (t : Pl.Tk) (r : List Pl.Tk) (b : Bool) (v : List (List (List (Int × Int))))
    (hp : Pl.pWhole (Pl.all s.data.toList) = (b, l', v)) (hl : l' = t :: r) (hbad : b = false ∨ t.k ≠ 101) :
    Calls Tryz.prog 33 #[.string s] w fun e w' => e = .returned (.tuple #[.pointer none, .int .i64 2, .int .i64 t.pl]) ∧ Below w.heap.size w w' := by
  have HP : Hid (Pl.pWhole (Pl.all s.data.toList) = (b, l', v)) := hp
  have HT : Hid (∀ w1, Gl w1 → Calls Tryz.prog 60 #[.string s, .int .i64 0] w1 fun e w' => e = .returned (.agg (tokCells (Pl.tk s.data.toList 0))) ∧ Below w1.heap.size w1 w') := fun w1 g1 => tokenFrom_zero s w1 hs g1
  clear hp
  generalize hk : Pl.tk s.data.toList 0 = t0 at *
  have HK : Hid (Pl.tk s.data.toList 0 = t0) := hk
  unfold tokCells at HT
  clear hk
  go_enter Tryz.func33, Tryz.ntmps33
  go_wp2_with fail
  refine (HT.out _ hG).mono ?_
  rintro e w1 ⟨rfl, hb1⟩
  have hG1 : Gl w1 := hG.below hb1 hG.sz
  go_wp2_with fail
  have hRD : RD w1.heap.size s (Pl.all s.data.toList) (Pl.all s.data.toList) [] (w1.alloc (.cells (rdCells s t0 (.slice none 0 0) (.slice none 0 0)) 80)) := RD.fresh (by rw [HK.out])
  have cx : Cx w1.heap.size s (Pl.all s.data.toList) := Cx.mk' hs hG1.sz
  refine (readWhole_any goOn_said w1.heap.size s _ _ _ cx hRD (hG1.alloc _)).mono ?_
  rintro e w2 ⟨rfl, ⟨rg2, hR2, hrg2⟩, hb2⟩
  rw [HP.out] at hR2 ⊢
  simp only at hR2 ⊢
  subst hl
  obtain ⟨t', r', hl, c0, c1, c2, c3, c4⟩ := hR2.cells
  injection hl with h1 h2
  subst h1 h2
  have hbel : Below w.heap.size w w2 := ((hb1.alloc hb1.size _).trans (hb2.mono hb1.size))
  cases b
  · go_wp2_with fail
    go_quiet (fail)
    go_wp2_with fail
    go_ret3
    exact ⟨rfl, ⟨hbel.os, hbel.tape, hbel.output, hbel.size, hbel.block⟩⟩
  · have hk : (Pl.pk t != 1) = true := by
      rw [bne_iff_ne]; intro h
      rcases hbad with h' | h'
      · cases h'
      · exact h' (Pl.pk_end.1 h)
    go_wp2_with fail
    go_quiet (fail)
    go_wp2_with fail
    go_ret3
    exact ⟨rfl, ⟨hbel.os, hbel.tape, hbel.output, hbel.size, hbel.block⟩⟩

end Go.Proofs.YtkjhhooecopolaaGreatDoor

namespace Go.Proofs.YtkjhhooecopolaaGreatDoor
open Go.RowKit

/-- Only block pb has turned, of those that were there. -/
structure Fp (pb : Nat) (w w' : World) : Prop where
  os : w'.os = w.os
  tape : w'.tape = w.tape
  output : w'.output = w.output
  size : w.heap.size ≤ w'.heap.size
  block : ∀ k, k < w.heap.size → k ≠ pb → w'.heap[k]? = w.heap[k]?

theorem Fp.refl (pb : Nat) (w : World) : Fp pb w w := ⟨rfl, rfl, rfl, Nat.le_refl _, fun _ _ _ => rfl⟩
theorem Fp.trans {pb : Nat} {a b c : World} (h : Fp pb a b) (k : Fp pb b c) : Fp pb a c :=
  ⟨k.os.trans h.os, k.tape.trans h.tape, k.output.trans h.output, Nat.le_trans h.size k.size, fun i hi hne => (k.block i (Nat.lt_of_lt_of_le hi h.size) hne).trans (h.block i hi hne)⟩
theorem Fp.drewN {pb : Nat} {a w : World} (h : Fp pb a w) (n : Nat) : Fp pb a (w.drewN n) := ⟨h.os, h.tape, h.output, h.size, h.block⟩
theorem Fp.set {pb : Nat} {a w : World} (h : Fp pb a w) (o : Nat) (v : Value) : Fp pb a (w.setCell ⟨pb, o, none⟩ v) :=
  ⟨h.os, h.tape, h.output, by simp; exact h.size, fun k hk hne => (heap_set_ne hne _).trans (h.block k hk hne)⟩
theorem Fp.of_below {pb : Nat} {w w' : World} (h : Below w.heap.size w w') : Fp pb w w' := ⟨h.os, h.tape, h.output, h.size, fun k hk _ => h.block k hk⟩
theorem Fp.below {pb : Nat} {w w' : World} (h : Fp pb w w') (B : Nat) (hB : B ≤ pb) (hs : B ≤ w.heap.size) : Below B w w' := ⟨h.os, h.tape, h.output, h.size, fun k hk => h.block k (by omega) (by omega)⟩

def outOf (c : List Pl.Tk) : Int := match c.find? outT with | some u => u.pl | none => -1

/-- The reference's parser at block pb; the tokens' row at block tb. -/
def PS (pb tb cap : Nat) (A l : List Pl.Tk) (bad : Bool) (w : World) : Prop :=
  tb ≠ pb ∧ (∃ cur, w.heap[tb]? = some (.cells cur 61 (0, 0)) ∧ ∀ (j : Nat) u, (refRow A)[j]? = some u → cur[j]? = some u) ∧
  ∃ c, c ++ l = A ∧ w.heap[pb]? = some (.cells #[.slice (some ⟨tb, 0, none⟩) A.length cap, .int .i64 c.length, .bool bad, .int .i64 (outOf c)] 55 (0, 0))

theorem refRow_get (c : List Pl.Tk) (k : Nat) (t : Pl.Tk) (h : c[k]? = some t) (j : Nat) (hj : j < 4) : (refRow c)[k * 4 + j]? = (refCells t)[j]? := by
  induction c generalizing k with
  | nil => simp at h
  | cons a r ih =>
    cases k with
    | zero =>
      have : a = t := by simpa using h
      subst this
      simp only [refRow, List.flatMap_cons, Nat.zero_mul, Nat.zero_add]
      rw [List.getElem?_append_left (by simp [refCells]; omega)]
      simp
    | succ k =>
      have h' : r[k]? = some t := by simpa using h
      have := ih k h'
      simp only [refRow, List.flatMap_cons] at this ⊢
      rw [List.getElem?_append_right (by simp [refCells]; omega)]
      rw [← this]
      congr 1
      simp [refCells]; omega

/-- What the walk wants of the parser: its cells and those of the token at hand. -/
theorem PS.cells {pb tb cap : Nat} {A r : List Pl.Tk} {t : Pl.Tk} {bad : Bool} {w : World} (h : PS pb tb cap A (t :: r) bad w) :
    ∃ c : List Pl.Tk, c ++ t :: r = A ∧ w.heap[pb]? = some (.cells #[.slice (some ⟨tb, 0, none⟩) A.length cap, .int .i64 c.length, .bool bad, .int .i64 (outOf c)] 55 (0, 0)) ∧
      w.cell? ⟨tb, c.length * 4, none⟩ = some (.int .u8 t.k) ∧ w.cell? ⟨tb, c.length * 4 + 1, none⟩ = some (.string ⟨(Pl.rS t).toArray⟩) ∧ w.cell? ⟨tb, c.length * 4 + 2, none⟩ = some (.int .i64 t.n) ∧ w.cell? ⟨tb, c.length * 4 + 3, none⟩ = some (.int .i64 t.pl) ∧
      c.length < A.length ∧ tb < w.heap.size := by
  obtain ⟨hne, ⟨cur, hcur, hrow⟩, c, hc, hb⟩ := h
  have hg : A[c.length]? = some t := by rw [← hc]; simp
  have hcell : ∀ j u, j < 4 → (refCells t)[j]? = some u → w.cell? ⟨tb, c.length * 4 + j, none⟩ = some u := fun j u hj hu => by
    rw [cell_of hcur]
    exact hrow _ _ (by rw [refRow_get A c.length t hg j hj]; exact hu)
  exact ⟨c, hc, hb, by simpa using hcell 0 (.int .u8 t.k) (by omega) rfl, hcell 1 _ (by omega) rfl, hcell 2 _ (by omega) rfl, hcell 3 _ (by omega) rfl, by rw [← hc]; simp, lt_of_heap hcur⟩

theorem PS.mono {pb tb cap : Nat} {A l : List Pl.Tk} {bad : Bool} {w w' : World} (h : PS pb tb cap A l bad w) (hk : ∀ k, k < w.heap.size → w'.heap[k]? = w.heap[k]?) : PS pb tb cap A l bad w' := by
  obtain ⟨hne, ⟨cur, hcur, hrow⟩, c, hc, hb⟩ := h
  exact ⟨hne, ⟨cur, (hk _ (lt_of_heap hcur)).trans hcur, hrow⟩, c, hc, (hk _ (lt_of_heap hb)).trans hb⟩

/-- The parser's own block written anew. -/
theorem PS.put {pb tb cap : Nat} {A l l' : List Pl.Tk} {bad bad' : Bool} {w w' : World} (h : PS pb tb cap A l bad w) (c : List Pl.Tk) (hc : c ++ l' = A)
    (hk : ∀ k, k < w.heap.size → k ≠ pb → w'.heap[k]? = w.heap[k]?) (hb : w'.heap[pb]? = some (.cells #[.slice (some ⟨tb, 0, none⟩) A.length cap, .int .i64 c.length, .bool bad', .int .i64 (outOf c)] 55 (0, 0))) : PS pb tb cap A l' bad' w' := by
  obtain ⟨hne, ⟨cur, hcur, hrow⟩, _⟩ := h
  exact ⟨hne, ⟨cur, (hk _ (lt_of_heap hcur) hne).trans hcur, hrow⟩, c, hc, hb⟩

theorem outOf_snoc (c : List Pl.Tk) (t : Pl.Tk) (h : t.k ≠ 110) : outOf (c ++ [t]) = outOf c := by
  unfold outOf
  have : outT t = false := by unfold outT; simp [h]
  rw [List.find?_append]
  cases h1 : c.find? outT <;> simp [this]

theorem heap_dn (w : World) (n k : Nat) : (w.drewN n).heap[k]? = w.heap[k]? := rfl

set_option maxRecDepth 100000 in
set_option maxHeartbeats 1000000 in
theorem mark_yes (pb tb cap : Nat) (A r : List Pl.Tk) (t : Pl.Tk) (w : World) (k : Nat) (hP : PS pb tb cap A (t :: r) false w) (hl : A.length ≤ 402) (hk : t.k = k) (h110 : k ≠ 110) :
    Calls Tryz.prog 42 #[.pointer (some ⟨pb, 0, none⟩), .int .u8 k] w fun e w' => e = .returned (.tuple #[]) ∧ PS pb tb cap A r false w' ∧ Fp pb w w' := by
  obtain ⟨c, hc, hb, e0, e1, e2, e3, hcl, htb⟩ := hP.cells
  have HC : Hid (c ++ t :: r = A) := hc
  have HO : Hid (outOf (c ++ [t]) = outOf c) := outOf_snoc c t (by omega)
  have c0 : w.cell? ⟨pb, 0, none⟩ = some (.slice (some ⟨tb, 0, none⟩) A.length cap) := cell_of hb 0
  have c1 : w.cell? ⟨pb, 1, none⟩ = some (.int .i64 c.length) := cell_of hb 1
  have c2 : w.cell? ⟨pb, 2, none⟩ = some (.bool false) := cell_of hb 2
  have f1 : w.frozen? ⟨pb, 1, none⟩ = false := frozen_of hb 1
  rw [hk] at e0
  clear hc hk
  have hib : (c.length : Int) < (A.length : Int) := by omega
  go_enter Tryz.func42, Tryz.ntmps42
  go_wp2_with fail
  go_quiet (fail)
  go_wp2_with fail
  go_end0
  refine ⟨rfl, hP.put (c ++ [t]) (by rw [← HC.out]; simp) (fun k hk hne => heap_set_ne hne _) ?_, ((Fp.refl pb w).drewN nq).set 1 _⟩
  have q := heap_set (w := w.drewN nq) (o := 1) hb (.int .i64 ((c.length : Int) + 1))
  rw [HO.out]
  simpa using q

set_option maxRecDepth 100000 in
set_option maxHeartbeats 1000000 in
theorem mark_no (pb tb cap : Nat) (A r : List Pl.Tk) (t : Pl.Tk) (w : World) (k : Nat) (hP : PS pb tb cap A (t :: r) false w) (_hl : A.length ≤ 402) (hk : t.k ≠ k) :
    Calls Tryz.prog 42 #[.pointer (some ⟨pb, 0, none⟩), .int .u8 k] w fun e w' => e = .returned (.tuple #[]) ∧ PS pb tb cap A (t :: r) true w' ∧ Fp pb w w' := by
  obtain ⟨c, hc, hb, e0, e1, e2, e3, hcl, htb⟩ := hP.cells
  have HC : Hid (c ++ t :: r = A) := hc
  have c0 : w.cell? ⟨pb, 0, none⟩ = some (.slice (some ⟨tb, 0, none⟩) A.length cap) := cell_of hb 0
  have c1 : w.cell? ⟨pb, 1, none⟩ = some (.int .i64 c.length) := cell_of hb 1
  have c2 : w.cell? ⟨pb, 2, none⟩ = some (.bool false) := cell_of hb 2
  have c3 : w.cell? ⟨pb, 3, none⟩ = some (.int .i64 (outOf c)) := cell_of hb 3
  have f1 : w.frozen? ⟨pb, 1, none⟩ = false := frozen_of hb 1
  have f2 : w.frozen? ⟨pb, 2, none⟩ = false := frozen_of hb 2
  have f3 : w.frozen? ⟨pb, 3, none⟩ = false := frozen_of hb 3
  have hib : (c.length : Int) < (A.length : Int) := by omega
  clear hc
  have hkb : ((t.k : Int) == (k : Int)) = false := by rw [beq_eq_false_iff_ne]; omega
  clear hk
  go_enter Tryz.func42, Tryz.ntmps42
  go_wp2_with fail
  go_quiet (fail)
  go_wp2_with fail
  go_end0
  refine ⟨rfl, hP.put c HC.out (fun k hk hne => heap_set_ne hne _) ?_, ((Fp.refl pb w).drewN nq).set 2 _⟩
  exact heap_set (w := w.drewN nq) (o := 2) hb (.bool true)

set_option maxRecDepth 100000 in
set_option maxHeartbeats 1000000 in
theorem mark_bad (pb tb cap : Nat) (A r : List Pl.Tk) (t : Pl.Tk) (w : World) (k : Nat) (hP : PS pb tb cap A (t :: r) true w) (_hl : A.length ≤ 402) :
    Calls Tryz.prog 42 #[.pointer (some ⟨pb, 0, none⟩), .int .u8 k] w fun e w' => e = .returned (.tuple #[]) ∧ PS pb tb cap A (t :: r) true w' ∧ Fp pb w w' := by
  obtain ⟨c, hc, hb, e0, e1, e2, e3, hcl, htb⟩ := hP.cells
  have HC : Hid (c ++ t :: r = A) := hc
  have c0 : w.cell? ⟨pb, 0, none⟩ = some (.slice (some ⟨tb, 0, none⟩) A.length cap) := cell_of hb 0
  have c1 : w.cell? ⟨pb, 1, none⟩ = some (.int .i64 c.length) := cell_of hb 1
  have c2 : w.cell? ⟨pb, 2, none⟩ = some (.bool true) := cell_of hb 2
  have c3 : w.cell? ⟨pb, 3, none⟩ = some (.int .i64 (outOf c)) := cell_of hb 3
  have f1 : w.frozen? ⟨pb, 1, none⟩ = false := frozen_of hb 1
  have f2 : w.frozen? ⟨pb, 2, none⟩ = false := frozen_of hb 2
  have f3 : w.frozen? ⟨pb, 3, none⟩ = false := frozen_of hb 3
  have hib : (c.length : Int) < (A.length : Int) := by omega
  clear hc
  go_enter Tryz.func42, Tryz.ntmps42
  go_wp2_with fail
  go_quiet (fail)
  go_wp2_with fail
  go_end0
  refine ⟨rfl, hP.put c HC.out (fun k hk hne => heap_set_ne hne _) ?_, ((Fp.refl pb w).drewN nq).set 2 _⟩
  exact heap_set (w := w.drewN nq) (o := 2) hb (.bool true)

set_option maxRecDepth 100000 in
set_option maxHeartbeats 1000000 in
theorem is_good (pb tb cap : Nat) (A r : List Pl.Tk) (t : Pl.Tk) (w : World) (k : Nat) (hP : PS pb tb cap A (t :: r) false w) (_hl : A.length ≤ 402) :
    Calls Tryz.prog 44 #[.pointer (some ⟨pb, 0, none⟩), .int .u8 k] w fun e w' => e = .returned (.bool (decide (t.k = k))) ∧ ∃ n, w' = w.drewN n := by
  obtain ⟨c, hc, hb, e0, e1, e2, e3, hcl, htb⟩ := hP.cells
  have HC : Hid (c ++ t :: r = A) := hc
  have c0 : w.cell? ⟨pb, 0, none⟩ = some (.slice (some ⟨tb, 0, none⟩) A.length cap) := cell_of hb 0
  have c1 : w.cell? ⟨pb, 1, none⟩ = some (.int .i64 c.length) := cell_of hb 1
  have c2 : w.cell? ⟨pb, 2, none⟩ = some (.bool false) := cell_of hb 2
  have c3 : w.cell? ⟨pb, 3, none⟩ = some (.int .i64 (outOf c)) := cell_of hb 3
  have f1 : w.frozen? ⟨pb, 1, none⟩ = false := frozen_of hb 1
  have f2 : w.frozen? ⟨pb, 2, none⟩ = false := frozen_of hb 2
  have f3 : w.frozen? ⟨pb, 3, none⟩ = false := frozen_of hb 3
  have hib : (c.length : Int) < (A.length : Int) := by omega
  clear hc
  go_enter Tryz.func44, Tryz.ntmps44
  go_wp2_with fail
  go_quiet (fail)
  go_wp2_with fail
  go_ret
  refine ⟨ret_bool ?_, _, rfl⟩
  rw [Bool.eq_iff_iff]; simp; omega

set_option maxRecDepth 100000 in
set_option maxHeartbeats 1000000 in
theorem is_bad (pb tb cap : Nat) (A r : List Pl.Tk) (t : Pl.Tk) (w : World) (k : Nat) (hP : PS pb tb cap A (t :: r) true w) (_hl : A.length ≤ 402) :
    Calls Tryz.prog 44 #[.pointer (some ⟨pb, 0, none⟩), .int .u8 k] w fun e w' => e = .returned (.bool false) ∧ ∃ n, w' = w.drewN n := by
  obtain ⟨c, hc, hb, e0, e1, e2, e3, hcl, htb⟩ := hP.cells
  have HC : Hid (c ++ t :: r = A) := hc
  have c0 : w.cell? ⟨pb, 0, none⟩ = some (.slice (some ⟨tb, 0, none⟩) A.length cap) := cell_of hb 0
  have c1 : w.cell? ⟨pb, 1, none⟩ = some (.int .i64 c.length) := cell_of hb 1
  have c2 : w.cell? ⟨pb, 2, none⟩ = some (.bool true) := cell_of hb 2
  have c3 : w.cell? ⟨pb, 3, none⟩ = some (.int .i64 (outOf c)) := cell_of hb 3
  have f1 : w.frozen? ⟨pb, 1, none⟩ = false := frozen_of hb 1
  have f2 : w.frozen? ⟨pb, 2, none⟩ = false := frozen_of hb 2
  have f3 : w.frozen? ⟨pb, 3, none⟩ = false := frozen_of hb 3
  have hib : (c.length : Int) < (A.length : Int) := by omega
  clear hc
  go_enter Tryz.func44, Tryz.ntmps44
  go_wp2_with fail
  go_quiet (fail)
  go_wp2_with fail
  go_ret
  exact ⟨rfl, _, rfl⟩

end Go.Proofs.YtkjhhooecopolaaGreatDoor
