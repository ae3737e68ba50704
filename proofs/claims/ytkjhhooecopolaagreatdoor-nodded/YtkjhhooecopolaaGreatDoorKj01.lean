import Derived.Test.YtkjhhooecopolaaGreatDoorKj00
import Derived.Lib.LaidTab
import Derived.Lib.ItoaNum
namespace Go.Proofs.YtkjhhooecopolaaGreatDoor
open Go.RowKit

/-- What the program's variables hold. -/
structure Gl (w : World) : Prop where
  sz : 6 ≤ w.heap.size
  es : ∃ tp p, w.var? Tryz.prog "strconv.ErrSyntax" = some #[.iface tp p]
  er : ∃ tp p, w.var? Tryz.prog "strconv.ErrRange" = some #[.iface tp p]
  tab : Lib.TabIs Tryz.prog w "internal/strconv.uint64pow10" .u64 Lib.pow10Tab

def tokCells (t : Pl.Tk) : Array Value := #[.int .i64 (Pl.pk t), .string ⟨(Pl.praw t).toArray⟩, .int .i64 t.n, .int .i64 t.pl]

theorem ret_agg {a b : Array Value} (h : a = b) : Ending.returned (.agg a) = .returned (.agg b) := by rw [h]

def NumberAtSaid : Prop := ∀ (s : ByteArray) (j : Nat) (w : World), j < s.size → s.size ≤ 400 → Gl w → (∀ h : j < s.size, Pl.isDig s[j] = true ∨ s[j].toNat = 45) →
    Calls Tryz.prog 93 #[.string s, .int .i64 j] w fun e w' => e = .returned (.agg (tokCells (Pl.tkBody (s.data.toList.drop j) j))) ∧ Below w.heap.size w w'

theorem cells_end (s : ByteArray) (j : Nat) (h : s.size ≤ j) : tokCells (Pl.tkBody (s.data.toList.drop j) j) = #[.int .i64 1, .string ⟨#[]⟩, .int .i64 0, .int .i64 j] := by
  rw [List.drop_of_length_le (by simp; omega)]; rfl

theorem cells_word (s : ByteArray) (j k : Nat) (h : j < s.size) (hl : Pl.isLet s[j] = true) (hk : k = j + ((s.data.toList.drop j).takeWhile Pl.isLet).length) :
    tokCells (Pl.tkBody (s.data.toList.drop j) j) = #[.int .i64 2, .string (s.extract j k), .int .i64 0, .int .i64 j] := by
  rw [Pl.extract_eq, hk, Nat.add_sub_cancel_left, Pl.take_takeWhile, Pl.drop_cons s j h]
  have h1 : ¬ (s[j].toNat = 40 ∨ s[j].toNat = 41 ∨ s[j].toNat = 44 ∨ s[j].toNat = 47) := by
    have := of_decide_eq_true hl; omega
  simp only [Pl.tkBody]
  rw [if_neg h1, if_pos hl]
  rfl

theorem cells_sign (s : ByteArray) (j : Nat) (h : j < s.size) (hl : s[j].toNat = 40 ∨ s[j].toNat = 41 ∨ s[j].toNat = 44) :
    tokCells (Pl.tkBody (s.data.toList.drop j) j) = #[.int .i64 4, .string (s.extract j (j + 1)), .int .i64 0, .int .i64 j] := by
  rw [Pl.extract_eq, Nat.add_sub_cancel_left, Pl.drop_cons s j h]
  have h1 : s[j].toNat = 40 ∨ s[j].toNat = 41 ∨ s[j].toNat = 44 ∨ s[j].toNat = 47 := by omega
  simp only [Pl.tkBody]
  rw [if_pos h1]
  have h2 : s[j].toNat ≠ 101 ∧ s[j].toNat ≠ 119 ∧ s[j].toNat ≠ 110 ∧ s[j].toNat ≠ 47 := by omega
  simp [tokCells, Pl.pk, Pl.praw, h2, hl]

theorem cells_stray (s : ByteArray) (j : Nat) (h : j < s.size) (h1 : ¬ (s[j].toNat = 40 ∨ s[j].toNat = 41 ∨ s[j].toNat = 44)) (h2 : Pl.isLet s[j] = false) (h3 : Pl.isDig s[j] = false) (h4 : s[j].toNat ≠ 45) :
    tokCells (Pl.tkBody (s.data.toList.drop j) j) = #[.int .i64 0, .string ⟨#[]⟩, .int .i64 0, .int .i64 j] := by
  rw [Pl.drop_cons s j h]
  simp only [Pl.tkBody]
  by_cases h5 : s[j].toNat = 47
  · rw [if_pos (by omega)]
    simp [tokCells, Pl.pk, Pl.praw, h5]
  · rw [if_neg (by omega), if_neg (by simp [h2]), if_neg h4]
    simp [h3, tokCells, Pl.pk, Pl.praw]

end Go.Proofs.YtkjhhooecopolaaGreatDoor

namespace Go.Proofs.YtkjhhooecopolaaGreatDoor
open Go.RowKit

theorem globals : Tryz.prog.globalNamed "strconv.ErrSyntax" = some 0 ∧ Tryz.prog.globalNamed "strconv.ErrRange" = some 1 ∧ Tryz.prog.globalNamed "internal/strconv.uint64pow10" = some 3 := ⟨by kernel_rfl, by kernel_rfl, by kernel_rfl⟩

theorem Gl.below {w w' : World} {B : Nat} (h : Gl w) (hb : Below B w w') (hB : 6 ≤ B) : Gl w' := by
  obtain ⟨g1, g2, g3⟩ := globals
  obtain ⟨tp, p, h1⟩ := h.es
  obtain ⟨tq, q, h2⟩ := h.er
  refine ⟨Nat.le_trans h.sz hb.size, ⟨tp, p, var?_below hb g1 (by omega) h1⟩, ⟨tq, q, var?_below hb g2 (by omega) h2⟩, var?_below hb g3 (by omega) h.tab⟩

theorem Gl.alloc {w : World} (h : Gl w) (o : Obj) : Gl (w.alloc o) :=
  h.below ((Below.refl w.heap.size w).alloc (Nat.le_refl _) o) h.sz

theorem bcell {W w1 : World} (hb : Below W.heap.size W w1) : (∀ b o, b < W.heap.size → w1.cell? ⟨b, o, none⟩ = W.cell? ⟨b, o, none⟩) ∧ (∀ b o, b < W.heap.size → w1.frozen? ⟨b, o, none⟩ = W.frozen? ⟨b, o, none⟩) :=
  ⟨fun b o h => hb.cell (p := ⟨b, o, none⟩) h, fun b o h => hb.frozen (p := ⟨b, o, none⟩) h⟩

set_option maxRecDepth 100000 in
set_option maxHeartbeats 1000000 in
theorem tokenFrom_any (hN : NumberAtSaid) (s : ByteArray) (i : Nat) (w : World) (h1 : i ≤ s.size) (hs : s.size ≤ 400) (hG : Gl w) :
    Calls Tryz.prog 60 #[.string s, .int .i64 i] w fun e w' => e = .returned (.agg (tokCells (Pl.tk s.data.toList i))) ∧ Below w.heap.size w w' := by
  have hbl := Pl.bl_le s.data.toList i (by simpa using h1)
  unfold Pl.tk
  generalize hj : Pl.bl s.data.toList i = j at *
  have hj1 : j ≤ s.size := by simpa using hbl.2
  have HJ : Hid (j = i + ((s.data.toList.drop i).takeWhile Pl.isBl).length) := by rw [← hj]; rfl
  clear hj hbl
  by_cases hlt : j < s.size
  · have hne : ((j : Int) == (s.size : Int)) = false := by simp; omega
    cases hl : Pl.isLet s[j]
    · cases hd : Pl.isDig s[j]
      · by_cases hm : s[j].toNat = 45
        · have hmb : ((s[j].toNat : Int) == 45) = true := by simp; omega
          generalize hT : tokCells (Pl.tkBody (s.data.toList.drop j) j) = T
          have HN : Hid (∀ w1, Gl w1 → Calls Tryz.prog 93 #[.string s, .int .i64 j] w1 fun e w' => e = .returned (.agg T) ∧ Below w1.heap.size w1 w') := fun w1 g1 => by
            rw [← hT]; exact hN s j w1 hlt hs g1 (fun _ => Or.inr hm)
          obtain ⟨t0, t1, t2, t3, rfl⟩ : ∃ a b c d, T = #[Value.int .i64 a, .string b, .int .i64 c, .int .i64 d] := ⟨_, _, _, _, hT.symm⟩
          clear hT hm
          go_enter Tryz.func60, Tryz.ntmps60
          go_wp2_with fail
          refine (skip_isBlank_at s i j _ h1 hs HJ.out).mono ?_
          rintro e w' ⟨rfl, rfl⟩
          go_wp2_with fail
          refine (isLetter_any _ _).mono ?_
          rintro e w' ⟨rfl, rfl⟩
          go_wp2_with fail
          refine (isDigit_any _ _).mono ?_
          rintro e w' ⟨rfl, rfl⟩
          go_wp2_with fail
          refine (HN.out _ (hG.alloc _)).mono ?_
          rintro e w1 ⟨rfl, hb⟩
          obtain ⟨hc, hf⟩ := bcell hb
          have hz : w.heap.size < w1.heap.size := by have := hb.size; simp at this; omega
          go_wp2_with fail
          refine bodyPost_ret (v := .agg #[.int .i64 t0, .string t1, .int .i64 t2, .int .i64 t3]) (by simp [results, Tryz.results60, go_sem, hc]) rfl ⟨rfl, ?_⟩
          exact ((((((Below.refl w.heap.size w).alloc (Nat.le_refl _) _).trans (hb.mono (by simp))).setCell (Nat.le_refl _) _).setCell (Nat.le_refl _) _).setCell (Nat.le_refl _) _).setCell (Nat.le_refl _) _
        · have hmb : ((s[j].toNat : Int) == 45) = false := by simp; omega
          by_cases q0 : s[j].toNat = 40
          · rw [cells_sign s j hlt (by omega)]
            have hq40 : ((s[j].toNat : Int) == 40) = true := by simp; omega
            clear q0 hm
            go_enter Tryz.func60, Tryz.ntmps60
            go_wp2_with fail
            refine (skip_isBlank_at s i j _ h1 hs HJ.out).mono ?_
            rintro e w' ⟨rfl, rfl⟩
            go_wp2_with fail
            refine (isLetter_any _ _).mono ?_
            rintro e w' ⟨rfl, rfl⟩
            go_wp2_with fail
            refine (isDigit_any _ _).mono ?_
            rintro e w' ⟨rfl, rfl⟩
            go_wp2_with fail
            exact bodyPost_ret (v := .agg #[.int .i64 4, .string (s.extract j (j + 1)), .int .i64 0, .int .i64 j]) (by simp [results, Tryz.results60, go_sem]) rfl ⟨rfl, (Below.refl _ _).alloc (Nat.le_refl _) _⟩
          · by_cases q1 : s[j].toNat = 41
            · rw [cells_sign s j hlt (by omega)]
              have hq40 : ((s[j].toNat : Int) == 40) = false := by simp; omega
              have hq41 : ((s[j].toNat : Int) == 41) = true := by simp; omega
              clear q0 q1 hm
              go_enter Tryz.func60, Tryz.ntmps60
              go_wp2_with fail
              refine (skip_isBlank_at s i j _ h1 hs HJ.out).mono ?_
              rintro e w' ⟨rfl, rfl⟩
              go_wp2_with fail
              refine (isLetter_any _ _).mono ?_
              rintro e w' ⟨rfl, rfl⟩
              go_wp2_with fail
              refine (isDigit_any _ _).mono ?_
              rintro e w' ⟨rfl, rfl⟩
              go_wp2_with fail
              exact bodyPost_ret (v := .agg #[.int .i64 4, .string (s.extract j (j + 1)), .int .i64 0, .int .i64 j]) (by simp [results, Tryz.results60, go_sem]) rfl ⟨rfl, (Below.refl _ _).alloc (Nat.le_refl _) _⟩
            · by_cases q2 : s[j].toNat = 44
              · rw [cells_sign s j hlt (by omega)]
                have hq40 : ((s[j].toNat : Int) == 40) = false := by simp; omega
                have hq41 : ((s[j].toNat : Int) == 41) = false := by simp; omega
                have hq44 : ((s[j].toNat : Int) == 44) = true := by simp; omega
                clear q0 q1 q2 hm
                go_enter Tryz.func60, Tryz.ntmps60
                go_wp2_with fail
                refine (skip_isBlank_at s i j _ h1 hs HJ.out).mono ?_
                rintro e w' ⟨rfl, rfl⟩
                go_wp2_with fail
                refine (isLetter_any _ _).mono ?_
                rintro e w' ⟨rfl, rfl⟩
                go_wp2_with fail
                refine (isDigit_any _ _).mono ?_
                rintro e w' ⟨rfl, rfl⟩
                go_wp2_with fail
                exact bodyPost_ret (v := .agg #[.int .i64 4, .string (s.extract j (j + 1)), .int .i64 0, .int .i64 j]) (by simp [results, Tryz.results60, go_sem]) rfl ⟨rfl, (Below.refl _ _).alloc (Nat.le_refl _) _⟩
              · rw [cells_stray s j hlt (by omega) hl hd hm]
                have hq40 : ((s[j].toNat : Int) == 40) = false := by simp; omega
                have hq41 : ((s[j].toNat : Int) == 41) = false := by simp; omega
                have hq44 : ((s[j].toNat : Int) == 44) = false := by simp; omega
                clear q0 q1 q2 hm
                go_enter Tryz.func60, Tryz.ntmps60
                go_wp2_with fail
                refine (skip_isBlank_at s i j _ h1 hs HJ.out).mono ?_
                rintro e w' ⟨rfl, rfl⟩
                go_wp2_with fail
                refine (isLetter_any _ _).mono ?_
                rintro e w' ⟨rfl, rfl⟩
                go_wp2_with fail
                refine (isDigit_any _ _).mono ?_
                rintro e w' ⟨rfl, rfl⟩
                go_wp2_with fail
                exact bodyPost_ret (v := .agg #[.int .i64 0, .string ⟨#[]⟩, .int .i64 0, .int .i64 j]) (by simp [results, Tryz.results60, go_sem]) rfl ⟨rfl, (Below.refl _ _).alloc (Nat.le_refl _) _⟩
      · generalize hT : tokCells (Pl.tkBody (s.data.toList.drop j) j) = T
        have HN : Hid (∀ w1, Gl w1 → Calls Tryz.prog 93 #[.string s, .int .i64 j] w1 fun e w' => e = .returned (.agg T) ∧ Below w1.heap.size w1 w') := fun w1 g1 => by
          rw [← hT]; exact hN s j w1 hlt hs g1 (fun _ => Or.inl hd)
        obtain ⟨t0, t1, t2, t3, rfl⟩ : ∃ a b c d, T = #[Value.int .i64 a, .string b, .int .i64 c, .int .i64 d] := ⟨_, _, _, _, hT.symm⟩
        clear hT
        go_enter Tryz.func60, Tryz.ntmps60
        go_wp2_with fail
        refine (skip_isBlank_at s i j _ h1 hs HJ.out).mono ?_
        rintro e w' ⟨rfl, rfl⟩
        go_wp2_with fail
        refine (isLetter_any _ _).mono ?_
        rintro e w' ⟨rfl, rfl⟩
        go_wp2_with fail
        refine (isDigit_any _ _).mono ?_
        rintro e w' ⟨rfl, rfl⟩
        go_wp2_with fail
        refine (HN.out _ (hG.alloc _)).mono ?_
        rintro e w1 ⟨rfl, hb⟩
        obtain ⟨hc, hf⟩ := bcell hb
        have hz : w.heap.size < w1.heap.size := by have := hb.size; simp at this; omega
        go_wp2_with fail
        refine bodyPost_ret (v := .agg #[.int .i64 t0, .string t1, .int .i64 t2, .int .i64 t3]) (by simp [results, Tryz.results60, go_sem, hc]) rfl ⟨rfl, ?_⟩
        exact ((((((Below.refl w.heap.size w).alloc (Nat.le_refl _) _).trans (hb.mono (by simp))).setCell (Nat.le_refl _) _).setCell (Nat.le_refl _) _).setCell (Nat.le_refl _) _).setCell (Nat.le_refl _) _
    · have hfin := cells_word s j _ hlt hl rfl
      generalize hk : j + ((s.data.toList.drop j).takeWhile Pl.isLet).length = k at hfin
      have hk1 : j ≤ k ∧ k ≤ s.size := by
        have := (List.takeWhile_prefix Pl.isLet (l := s.data.toList.drop j)).length_le
        simp at this; omega
      have HK : Hid (k = j + ((s.data.toList.drop j).takeWhile Pl.isLet).length) := hk.symm
      rw [hfin]
      clear hk hfin
      go_enter Tryz.func60, Tryz.ntmps60
      go_wp2_with fail
      refine (skip_isBlank_at s i j _ h1 hs HJ.out).mono ?_
      rintro e w' ⟨rfl, rfl⟩
      go_wp2_with fail
      refine (isLetter_any _ _).mono ?_
      rintro e w' ⟨rfl, rfl⟩
      go_wp2_with fail
      refine (skip_isLetter_at s j k _ hj1 hs HK.out).mono ?_
      rintro e w' ⟨rfl, rfl⟩
      go_wp2_with fail
      exact bodyPost_ret (v := .agg #[.int .i64 2, .string (s.extract j k), .int .i64 0, .int .i64 j]) (by simp [results, Tryz.results60, go_sem]) rfl ⟨rfl, (Below.refl _ _).alloc (Nat.le_refl _) _⟩
  · have he : j = s.size := by omega
    subst he
    rw [cells_end s s.size (Nat.le_refl _)]
    go_enter Tryz.func60, Tryz.ntmps60
    go_wp2_with fail
    refine (skip_isBlank_at s i s.size _ h1 hs HJ.out).mono ?_
    rintro e w' ⟨rfl, rfl⟩
    go_wp2_with fail
    exact bodyPost_ret (v := .agg #[.int .i64 1, .string ⟨#[]⟩, .int .i64 0, .int .i64 s.size]) (by simp [results, Tryz.results60, go_sem]) rfl ⟨rfl, (Below.refl _ _).alloc (Nat.le_refl _) _⟩

end Go.Proofs.YtkjhhooecopolaaGreatDoor
