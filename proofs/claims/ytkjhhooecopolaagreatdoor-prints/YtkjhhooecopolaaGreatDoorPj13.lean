import Derived.Test.YtkjhhooecopolaaGreatDoorPj12
import Derived.Test.YtkjhhooecopolaaGreatDoorPj07
import Derived.BigQuiet
import Derived.Deep.QuietTactic
namespace Go.Proofs.YtkjhhooecopolaaGreatDoor
open Go.RowKit

theorem goOn_rd {rb : Nat} {s : ByteArray} {A r : List Pl.Tk} {t : Pl.Tk} {rg : List (List (Int × Int))} {w : World} (cx : Cx rb s A) (hR : RD rb s A (t :: r) rg w) (hG : Gl w)
    (hk : t.k = 119 ∨ t.k = 110 ∨ t.k = 40 ∨ t.k = 41 ∨ t.k = 44) :
    Calls Tryz.prog 148 #[.pointer (some ⟨rb, 0, none⟩)] w fun e w' => e = .returned (.tuple #[]) ∧ RD rb s A r rg w' ∧ Below rb w w' ∧ Kp rb w w' := by
  obtain ⟨c, t', r', tv, rv, hc, hl, hb, hown, hrg⟩ := hR
  injection hl with h1 h2
  subst h1 h2
  have hch : Pl.Chain s.data.toList (t :: r) := Pl.chain_suffix _ c _ (by rw [hc]; exact cx.ch) (by simp)
  obtain ⟨u, r', hr, hu, hcr⟩ := Pl.chain_next _ t r hch (by omega)
  have hpl := cx.pl t (by rw [← hc]; simp)
  have hsz : s.data.toList.length = s.size := by simp
  have hlen : c.length + (r.length + 1) ≤ 402 := by have := cx.len; rw [← hc] at this; simpa using this
  have hraw : Pl.praw t = t.raw := by unfold Pl.praw; rw [if_neg (by omega)]
  have hp1 := hpl.1
  rw [hsz] at hp1
  have hrs : (⟨(Pl.praw t).toArray⟩ : ByteArray).size = t.raw.length := by rw [hraw]; rfl
  have hs := cx.hs
  refine (goOn_walk rb s _ _ _ t.pl (t.pl + t.raw.length) tv rv c.length (tokRow c) w (Pl.pk u) ⟨(Pl.praw u).toArray⟩ u.n u.pl hb hown (by omega) (by omega) (by rw [hrs]; omega) (by rw [hrs]) hG cx.rb ?_).mono ?_
  · intro w1 g1
    have := tokenFrom_any numberAt_said s (t.pl + t.raw.length) w1 hp1 cx.hs g1
    rw [← hu] at this
    exact this
  · rintro e w' ⟨rfl, ⟨⟨tv', hb', hown', htv⟩, hkeep, hbel⟩⟩
    refine ⟨rfl, ⟨c ++ [t], u, r', tv', rv, by rw [← hc]; simp, hr, hb', ?_, ?_⟩, hbel, ?_⟩
    · rw [tokRow_snoc]
      simpa [tokCells] using hown'
    · refine hrg.kept fun k cur e hk' he hlt => ?_
      refine hkeep k (lt_of_heap hk') (by omega) (own_elem hown hk' ?_)
      rcases he with rfl | rfl <;> decide
    · rintro k o hne ⟨tv0, h0, h1⟩ hk'
      rw [cell_of hb 5] at h0
      injection h0 with h0
      subst h0
      refine ⟨(hkeep k (lt_of_heap hk') hne h1).trans hk', tv', cell_of hb' 5, fun e => ?_⟩
      rcases htv k e with h | h
      · exact h1 h
      · have := lt_of_heap hk'; omega

theorem goOn_said : GoOnSaid := fun _ _ _ _ _ _ _ cx hR hG hk => goOn_rd cx hR hG hk

end Go.Proofs.YtkjhhooecopolaaGreatDoor

namespace Go.Proofs.YtkjhhooecopolaaGreatDoor
open Go.RowKit

def inR (b v : Int) : Bool := decide (-b ≤ v ∧ v ≤ b)

set_option maxHeartbeats 400000 in
theorem within_any (v b : Int) (w : World) (h0 : 0 ≤ b) (h1 : b ≤ 1000000) :
    Calls Tryz.prog 34 #[.int .i64 v, .int .i64 b] w fun e w' => e = .returned (.bool (inR b v)) ∧ w' = w := by
  by_cases h : -b ≤ v
  · go_enter Tryz.func34, Tryz.ntmps34
    go_wp2
    go_ret
    exact ⟨ret_bool (by unfold inR; simp [h]), rfl⟩
  · have h' : decide (-b ≤ v) = false := by simpa using h
    go_enter Tryz.func34, Tryz.ntmps34
    go_wp2
    go_ret
    exact ⟨ret_bool (by unfold inR; simp; omega), rfl⟩

theorem tokenFrom_zero (s : ByteArray) (w : World) (hs : s.size ≤ 400) (hG : Gl w) :
    Calls Tryz.prog 60 #[.string s, .int .i64 0] w fun e w' => e = .returned (.agg (tokCells (Pl.tk s.data.toList 0))) ∧ Below w.heap.size w w' :=
  tokenFrom_any numberAt_said s 0 w (Nat.zero_le _) hs hG

theorem all_head (s : List UInt8) : ∃ r, Pl.all s = Pl.tk s 0 :: r := Pl.toks_head s _ 0

/-- The reader as it is made. -/
theorem RD.fresh {s : ByteArray} {w : World} {o : Obj} (ho : o = .cells (rdCells s (Pl.tk s.data.toList 0) (.slice none 0 0) (.slice none 0 0)) 80 (0, 0)) : RD w.heap.size s (Pl.all s.data.toList) (Pl.all s.data.toList) [] (w.alloc o) := by
  obtain ⟨r, hr⟩ := all_head s.data.toList
  refine ⟨[], _, r, .slice none 0 0, .slice none 0 0, rfl, hr, ?_, World.ownsRow_nil _ _ _ _, [], rfl, World.ownsRow_nil _ _ _ _, ?_, ?_⟩
  · rw [heap_alloc_new, ho]
  · intro i v g hi; simp at hi
  · intro i j v u k hi; simp at hi

theorem Cx.mk' {s : ByteArray} {rb : Nat} (hs : s.size ≤ 400) (hrb : 6 ≤ rb) : Cx rb s (Pl.all s.data.toList) :=
  ⟨hs, Pl.all_chain _, by have := Pl.all_length s.data.toList; simp at this; omega, Pl.all_place _, hrb⟩

/-- A number beyond its bound. -/
def outT (t : Pl.Tk) : Bool := decide (t.k = 110) && !inR 50 t.n

theorem tokRow_get (c : List Pl.Tk) (k : Nat) (t : Pl.Tk) (h : c[k]? = some t) (j : Nat) (hj : j < 4) : (tokRow c)[k * 4 + j]? = (tokCells t)[j]? := by
  induction c generalizing k with
  | nil => simp at h
  | cons a r ih =>
    cases k with
    | zero =>
      have : a = t := by simpa using h
      subst this
      simp only [tokRow, List.flatMap_cons, Nat.zero_mul, Nat.zero_add]
      rw [List.getElem?_append_left (by simp [tokCells]; omega)]
      simp
    | succ k =>
      have h' : r[k]? = some t := by simpa using h
      have := ih k h'
      simp only [tokRow, List.flatMap_cons] at this ⊢
      rw [List.getElem?_append_right (by simp [tokCells]; omega)]
      rw [← this]
      congr 1
      simp [tokCells]; omega

set_option maxRecDepth 100000 in
set_option maxHeartbeats 400000 in
theorem readText_long (s : ByteArray) (w : World) (hs : 400 < s.size) (hm : s.size ≤ maxLen) :
    Calls Tryz.prog 33 #[.string s] w fun e w' => e = .returned (.tuple #[.pointer none, .int .i64 1, .int .i64 0]) ∧ w' = w := by
  unfold maxLen at hm
  go_enter Tryz.func33, Tryz.ntmps33
  go_wp2
  go_ret3
  exact ⟨rfl, rfl⟩

set_option maxRecDepth 100000 in
set_option maxHeartbeats 1000000 in
theorem readText_form (s : ByteArray) (w : World) (hs : s.size ≤ 400) (hG : Gl w) (l' : List Pl.Tk) (t : Pl.Tk) (r : List Pl.Tk) (b : Bool) (v : List (List (List (Int × Int))))
    (hp : Pl.pWhole (Pl.all s.data.toList) = (b, l', v)) (hl : l' = t :: r) (hbad : b = false ∨ t.k ≠ 101) :
    Calls Tryz.prog 33 #[.string s] w fun e w' => e = .returned (.tuple #[.pointer none, .int .i64 2, .int .i64 t.pl]) ∧ Below w.heap.size w w' := by
  have HP : Hid (Pl.pWhole (Pl.all s.data.toList) = (b, l', v)) := hp
  have HT : Hid (∀ w1, Gl w1 → Calls Tryz.prog 60 #[.string s, .int .i64 0] w1 fun e w' => e = .returned (.agg (tokCells (Pl.tk s.data.toList 0))) ∧ Below w1.heap.size w1 w') := fun w1 g1 => tokenFrom_zero s w1 hs g1
  clear hp
  generalize hk : Pl.tk s.data.toList 0 = t0 at *
  have HK : Hid (Pl.tk s.data.toList 0 = t0) := hk
  unfold tokCells at HT
  clear hk
  go_enter Tryz.func33, Tryz.ntmps33
  go_wp2_with fail
  refine (HT.out _ hG).mono ?_
  rintro e w1 ⟨rfl, hb1⟩
  have hG1 : Gl w1 := hG.below hb1 hG.sz
  go_wp2_with fail
  have hRD : RD w1.heap.size s (Pl.all s.data.toList) (Pl.all s.data.toList) [] (w1.alloc (.cells (rdCells s t0 (.slice none 0 0) (.slice none 0 0)) 80)) := RD.fresh (by rw [HK.out])
  have cx : Cx w1.heap.size s (Pl.all s.data.toList) := Cx.mk' hs hG1.sz
  refine (readWhole_any goOn_said w1.heap.size s _ _ _ cx hRD (hG1.alloc _)).mono ?_
  rintro e w2 ⟨rfl, ⟨rg2, hR2, hrg2⟩, hb2⟩
  rw [HP.out] at hR2 ⊢
  simp only at hR2 ⊢
  subst hl
  obtain ⟨t', r', hl, c0, c1, c2, c3, c4⟩ := hR2.cells
  injection hl with h1 h2
  subst h1 h2
  have hbel : Below w.heap.size w w2 := ((hb1.alloc hb1.size _).trans (hb2.mono hb1.size))
  cases b
  · go_wp2_with fail
    go_quiet (fail)
    go_wp2_with fail
    go_ret3
    exact ⟨rfl, ⟨hbel.os, hbel.tape, hbel.output, hbel.size, hbel.block⟩⟩
  · have hk : (Pl.pk t != 1) = true := by
      rw [bne_iff_ne]; intro h
      rcases hbad with h' | h'
      · cases h'
      · exact h' (Pl.pk_end.1 h)
    go_wp2_with fail
    go_quiet (fail)
    go_wp2_with fail
    go_ret3
    exact ⟨rfl, ⟨hbel.os, hbel.tape, hbel.output, hbel.size, hbel.block⟩⟩

end Go.Proofs.YtkjhhooecopolaaGreatDoor
