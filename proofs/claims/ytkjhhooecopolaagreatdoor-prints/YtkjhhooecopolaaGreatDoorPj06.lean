import Derived.Test.YtkjhhooecopolaaGreatDoorPj05
import Derived.Test.YtkjhhooecopolaaGreatDoorPj04
import Derived.Deep.AppendLies
namespace Go.Proofs.YtkjhhooecopolaaGreatDoor
open Go.RowKit

/-- How the reference's reading of a number ends. -/
def NumPost (neg : Bool) (s : ByteArray) (i d : Nat) (w : World) (e : Ending) (w' : World) : Prop :=
  Below w.heap.size w w' ∧
  (((digsAt s d = [] ∨ 9 < (digsAt s d).length) ∧ ∃ j : Nat, j ≤ 1000 ∧ e = .returned (.tuple #[.agg #[.int .u8 120, .string ⟨#[]⟩, .int .i64 0, .int .i64 i], .int .i64 j])) ∨
   (¬ (digsAt s d = [] ∨ 9 < (digsAt s d).length) ∧ e = .returned (.tuple #[.agg #[.int .u8 110, .string ⟨#[]⟩, .int .i64 (if neg then - (Pl.decv (digsAt s d) : Int) else (Pl.decv (digsAt s d) : Int)), .int .i64 i], .int .i64 ((d + (digsAt s d).length : Nat) : Int)])))

set_option maxRecDepth 100000 in
set_option maxHeartbeats 2000000 in
theorem rToken_num_false (s : ByteArray) (i : Nat) (w : World) (hi : i < s.size) (hs : s.size ≤ 400) (hl : Pl.isLet s[i] = false)
    (hq : ¬ (s[i].toNat = 40 ∨ s[i].toNat = 41 ∨ s[i].toNat = 44 ∨ s[i].toNat = 47)) (hm : ((s[i].toNat : Int) == 45) = false) :
    Calls Tryz.prog 57 #[.string s, .int .i64 i] w (NumPost false s i i w) := by
  obtain ⟨q1, q2, q3, q4⟩ := notSign (Or.inr (Or.inr (Or.inr hq)))
  clear hq
  have hD : (digsAt s i).length ≤ s.size - i := by
    have := (List.takeWhile_prefix Pl.isDig (l := s.data.toList.drop i)).length_le
    simp at this
    unfold digsAt; omega
  have HG : Hid (∀ j (hj : j < (digsAt s i).length), ∃ h : i + j < s.size, (digsAt s i)[j] = s[i + j] ∧ Pl.isDig s[i + j] = true) := fun j hj => digs_get s i j hj
  have HS : Hid (∀ h : i + (digsAt s i).length < s.size, Pl.isDig s[i + (digsAt s i).length] = false) := digs_stop s i
  have HL : Hid (∀ j, Pl.decv ((digsAt s i).take j) < 10 ^ j) := fun j => decv_lt j _ (dig_mem _)
  generalize hDD : digsAt s i = D at *
  have HDD : Hid (digsAt s i = D) := hDD
  clear hDD
  go_enter Tryz.func57, Tryz.ntmps57
  go_wp2_with (go_at_call 85; refine (rIsLetter_any _ _).mono ?_; rintro e w' ⟨rfl, rfl⟩)
  go_loop [1, 8] (fun t n => ∃ j : Nat, j ≤ D.length ∧ j ≤ 10 ∧ t = .int .i64 ((i + j : Nat) : Int) ∧ n = .int .i64 ((Pl.decv (D.take j) : Nat) : Int)) (fun t _ => 1000 - (intOf t).toNat)
  case atStart => exact ⟨0, by omega, by omega, by go_num, rfl⟩
  case round =>
    obtain ⟨j, hj, hj10, rfl, rfl⟩ := hrel
    by_cases hgo : j < D.length ∧ j < 10
    · obtain ⟨h1, h2⟩ := hgo
      obtain ⟨hlt, hg, hp⟩ := HG.out j h1
      have hv : Pl.decv (D.take j) < 10000000000 := Nat.lt_of_lt_of_le (HL.out j) (Nat.pow_le_pow_right (by omega) (by omega : j ≤ 10))
      have HE : Hid (Pl.decv (D.take (j + 1)) = 10 * Pl.decv (D.take j) + (s[i + j].toNat - 48)) := by
        show _ = _
        rw [List.take_succ_eq_append_getElem h1, decv_snoc, hg]
      have hd := of_decide_eq_true hp
      generalize Pl.decv (D.take j) = V at *
      clear hg HG HS HL HDD
      go_wp2_with (go_at_call 86; refine (rIsDigit_any _ _).mono ?_; rintro e w' ⟨rfl, rfl⟩)
      exact ⟨⟨j + 1, by omega, by omega, congrArg (Value.int .i64) (by omega), congrArg (Value.int .i64) (by rw [HE.out]; omega)⟩, by simp [intOf]; omega⟩
    · by_cases hjD : j = D.length
      · have hst : ∀ h : i + j < s.size, Pl.isDig s[i + j] = false := by
          intro h
          subst hjD
          exact HS.out h
        have HV : Hid (D.take j = D) := by
          show _ = _
          rw [List.take_of_length_le (by omega)]
        have hv : Pl.decv (D.take j) < 10000000000 := Nat.lt_of_lt_of_le (HL.out j) (Nat.pow_le_pow_right (by omega) (by omega : j ≤ 10))
        have HVV : Hid (Pl.decv (D.take j) = Pl.decv D) := congrArg Pl.decv HV.out
        have HJD : Hid (j = D.length) := hjD
        generalize Pl.decv (D.take j) = V at *
        clear HG HS HL hjD HV hj
        by_cases hlt : i + j < s.size
        · have hp := hst hlt
          clear hst
          by_cases hj0 : j = 0
          · have h0 : j ≤ 0 := by omega
            have ha : ((i : Int) + (j : Int) == (i : Int)) = true := by simp; omega
            clear hj0
            go_wp2_with (go_at_call 86; refine (rIsDigit_any _ _).mono ?_; rintro e w' ⟨rfl, rfl⟩)
            refine bodyPost_ret (v := .tuple #[.agg #[.int .u8 120, .string ⟨#[]⟩, .int .i64 0, .int .i64 i], .int .i64 ((i + j : Nat) : Int)]) (by simp [results, Tryz.results57, go_sem]) rfl ?_
            refine ⟨(Below.refl _ _).alloc (Nat.le_refl _) _, Or.inl ⟨?_, i + j, by omega, rfl⟩⟩
            rw [HDD.out]
            exact Or.inl (List.eq_nil_of_length_eq_zero (by have := HJD.out; omega))
          · by_cases hj9 : j ≤ 9
            · have ha : ((i : Int) + (j : Int) == (i : Int)) = false := by simp; omega
              go_wp2_with (go_at_call 86; refine (rIsDigit_any _ _).mono ?_; rintro e w' ⟨rfl, rfl⟩)
              refine bodyPost_ret (v := .tuple #[.agg #[.int .u8 110, .string ⟨#[]⟩, .int .i64 ((V : Int)), .int .i64 i], .int .i64 ((i + j : Nat) : Int)]) (by simp [results, Tryz.results57, go_sem]) rfl ?_
              refine ⟨(Below.refl _ _).alloc (Nat.le_refl _) _, Or.inr ⟨?_, ?_⟩⟩
              · rw [HDD.out]
                have hjd := HJD.out
                rintro (h | h)
                · rw [h] at hjd; simp at hjd; omega
                · omega
              · rw [HDD.out, ← HJD.out, ← HVV.out]; simp
            · have ha : ((i : Int) + (j : Int) == (i : Int)) = false := by simp; omega
              go_wp2_with (go_at_call 86; refine (rIsDigit_any _ _).mono ?_; rintro e w' ⟨rfl, rfl⟩)
              refine bodyPost_ret (v := .tuple #[.agg #[.int .u8 120, .string ⟨#[]⟩, .int .i64 0, .int .i64 i], .int .i64 ((i + j : Nat) : Int)]) (by simp [results, Tryz.results57, go_sem]) rfl ?_
              refine ⟨(Below.refl _ _).alloc (Nat.le_refl _) _, Or.inl ⟨?_, i + j, by omega, rfl⟩⟩
              rw [HDD.out]
              exact Or.inr (by have := HJD.out; omega)
        · clear hst
          by_cases hj0 : j = 0
          · have h0 : j ≤ 0 := by omega
            have ha : ((i : Int) + (j : Int) == (i : Int)) = true := by simp; omega
            first
              | (exfalso; omega)
              | (clear hj0
                 go_wp2_with (go_at_call 86; refine (rIsDigit_any _ _).mono ?_; rintro e w' ⟨rfl, rfl⟩)
                 refine bodyPost_ret (v := .tuple #[.agg #[.int .u8 120, .string ⟨#[]⟩, .int .i64 0, .int .i64 i], .int .i64 ((i + j : Nat) : Int)]) (by simp [results, Tryz.results57, go_sem]) rfl ?_
                 refine ⟨(Below.refl _ _).alloc (Nat.le_refl _) _, Or.inl ⟨?_, i + j, by omega, rfl⟩⟩
                 rw [HDD.out]
                 exact Or.inl (List.eq_nil_of_length_eq_zero (by have := HJD.out; omega)))
          · by_cases hj9 : j ≤ 9
            · have ha : ((i : Int) + (j : Int) == (i : Int)) = false := by simp; omega
              go_wp2_with (go_at_call 86; refine (rIsDigit_any _ _).mono ?_; rintro e w' ⟨rfl, rfl⟩)
              refine bodyPost_ret (v := .tuple #[.agg #[.int .u8 110, .string ⟨#[]⟩, .int .i64 ((V : Int)), .int .i64 i], .int .i64 ((i + j : Nat) : Int)]) (by simp [results, Tryz.results57, go_sem]) rfl ?_
              refine ⟨(Below.refl _ _).alloc (Nat.le_refl _) _, Or.inr ⟨?_, ?_⟩⟩
              · rw [HDD.out]
                have hjd := HJD.out
                rintro (h | h)
                · rw [h] at hjd; simp at hjd; omega
                · omega
              · rw [HDD.out, ← HJD.out, ← HVV.out]; simp
            · have ha : ((i : Int) + (j : Int) == (i : Int)) = false := by simp; omega
              go_wp2_with (go_at_call 86; refine (rIsDigit_any _ _).mono ?_; rintro e w' ⟨rfl, rfl⟩)
              refine bodyPost_ret (v := .tuple #[.agg #[.int .u8 120, .string ⟨#[]⟩, .int .i64 0, .int .i64 i], .int .i64 ((i + j : Nat) : Int)]) (by simp [results, Tryz.results57, go_sem]) rfl ?_
              refine ⟨(Below.refl _ _).alloc (Nat.le_refl _) _, Or.inl ⟨?_, i + j, by omega, rfl⟩⟩
              rw [HDD.out]
              exact Or.inr (by have := HJD.out; omega)
      · obtain ⟨hlt, hg, hp⟩ := HG.out j (by omega)
        have hj9 : ¬ j ≤ 9 := by omega
        have ha : ((i : Int) + (j : Int) == (i : Int)) = false := by simp; omega
        generalize Pl.decv (D.take j) = V at *
        clear HG HS HL hg
        go_wp2_with (go_at_call 86; refine (rIsDigit_any _ _).mono ?_; rintro e w' ⟨rfl, rfl⟩)
        refine bodyPost_ret (v := .tuple #[.agg #[.int .u8 120, .string ⟨#[]⟩, .int .i64 0, .int .i64 i], .int .i64 ((i + j : Nat) : Int)]) (by simp [results, Tryz.results57, go_sem]) rfl ?_
        refine ⟨(Below.refl _ _).alloc (Nat.le_refl _) _, Or.inl ⟨?_, i + j, by omega, rfl⟩⟩
        rw [HDD.out]
        exact Or.inr (by omega)

set_option maxRecDepth 100000 in
set_option maxHeartbeats 2000000 in
theorem rToken_num_true (s : ByteArray) (i : Nat) (w : World) (hi : i < s.size) (hs : s.size ≤ 400) (hl : Pl.isLet s[i] = false)
    (hq : ¬ (s[i].toNat = 40 ∨ s[i].toNat = 41 ∨ s[i].toNat = 44 ∨ s[i].toNat = 47)) (hm : ((s[i].toNat : Int) == 45) = true) :
    Calls Tryz.prog 57 #[.string s, .int .i64 i] w (NumPost true s i (i + 1) w) := by
  obtain ⟨q1, q2, q3, q4⟩ := notSign (Or.inr (Or.inr (Or.inr hq)))
  clear hq
  have hD : (digsAt s (i + 1)).length ≤ s.size - (i + 1) := by
    have := (List.takeWhile_prefix Pl.isDig (l := s.data.toList.drop (i + 1))).length_le
    simp at this
    unfold digsAt; omega
  have HG : Hid (∀ j (hj : j < (digsAt s (i + 1)).length), ∃ h : (i + 1) + j < s.size, (digsAt s (i + 1))[j] = s[(i + 1) + j] ∧ Pl.isDig s[(i + 1) + j] = true) := fun j hj => digs_get s (i + 1) j hj
  have HS : Hid (∀ h : (i + 1) + (digsAt s (i + 1)).length < s.size, Pl.isDig s[(i + 1) + (digsAt s (i + 1)).length] = false) := digs_stop s (i + 1)
  have HL : Hid (∀ j, Pl.decv ((digsAt s (i + 1)).take j) < 10 ^ j) := fun j => decv_lt j _ (dig_mem _)
  generalize hDD : digsAt s (i + 1) = D at *
  have HDD : Hid (digsAt s (i + 1) = D) := hDD
  clear hDD
  go_enter Tryz.func57, Tryz.ntmps57
  go_wp2_with (go_at_call 85; refine (rIsLetter_any _ _).mono ?_; rintro e w' ⟨rfl, rfl⟩)
  go_loop [1, 8] (fun t n => ∃ j : Nat, j ≤ D.length ∧ j ≤ 10 ∧ t = .int .i64 (((i + 1) + j : Nat) : Int) ∧ n = .int .i64 ((Pl.decv (D.take j) : Nat) : Int)) (fun t _ => 1000 - (intOf t).toNat)
  case atStart => exact ⟨0, by omega, by omega, by go_num, rfl⟩
  case round =>
    obtain ⟨j, hj, hj10, rfl, rfl⟩ := hrel
    by_cases hgo : j < D.length ∧ j < 10
    · obtain ⟨h1, h2⟩ := hgo
      obtain ⟨hlt, hg, hp⟩ := HG.out j h1
      have hv : Pl.decv (D.take j) < 10000000000 := Nat.lt_of_lt_of_le (HL.out j) (Nat.pow_le_pow_right (by omega) (by omega : j ≤ 10))
      have HE : Hid (Pl.decv (D.take (j + 1)) = 10 * Pl.decv (D.take j) + (s[(i + 1) + j].toNat - 48)) := by
        show _ = _
        rw [List.take_succ_eq_append_getElem h1, decv_snoc, hg]
      have hd := of_decide_eq_true hp
      generalize Pl.decv (D.take j) = V at *
      clear hg HG HS HL HDD
      go_wp2_with (go_at_call 86; refine (rIsDigit_any _ _).mono ?_; rintro e w' ⟨rfl, rfl⟩)
      exact ⟨⟨j + 1, by omega, by omega, congrArg (Value.int .i64) (by omega), congrArg (Value.int .i64) (by rw [HE.out]; omega)⟩, by simp [intOf]; omega⟩
    · by_cases hjD : j = D.length
      · have hst : ∀ h : (i + 1) + j < s.size, Pl.isDig s[(i + 1) + j] = false := by
          intro h
          subst hjD
          exact HS.out h
        have HV : Hid (D.take j = D) := by
          show _ = _
          rw [List.take_of_length_le (by omega)]
        have hv : Pl.decv (D.take j) < 10000000000 := Nat.lt_of_lt_of_le (HL.out j) (Nat.pow_le_pow_right (by omega) (by omega : j ≤ 10))
        have HVV : Hid (Pl.decv (D.take j) = Pl.decv D) := congrArg Pl.decv HV.out
        have HJD : Hid (j = D.length) := hjD
        generalize Pl.decv (D.take j) = V at *
        clear HG HS HL hjD HV hj
        by_cases hlt : (i + 1) + j < s.size
        · have hp := hst hlt
          clear hst
          by_cases hj0 : j = 0
          · have h0 : j ≤ 0 := by omega
            have ha : (((i : Int) + 1) + (j : Int) == ((i : Int) + 1)) = true := by simp; omega
            clear hj0
            go_wp2_with (go_at_call 86; refine (rIsDigit_any _ _).mono ?_; rintro e w' ⟨rfl, rfl⟩)
            refine bodyPost_ret (v := .tuple #[.agg #[.int .u8 120, .string ⟨#[]⟩, .int .i64 0, .int .i64 i], .int .i64 (((i + 1) + j : Nat) : Int)]) (by simp [results, Tryz.results57, go_sem]) rfl ?_
            refine ⟨(Below.refl _ _).alloc (Nat.le_refl _) _, Or.inl ⟨?_, (i + 1) + j, by omega, rfl⟩⟩
            rw [HDD.out]
            exact Or.inl (List.eq_nil_of_length_eq_zero (by have := HJD.out; omega))
          · by_cases hj9 : j ≤ 9
            · have ha : (((i : Int) + 1) + (j : Int) == ((i : Int) + 1)) = false := by simp; omega
              go_wp2_with (go_at_call 86; refine (rIsDigit_any _ _).mono ?_; rintro e w' ⟨rfl, rfl⟩)
              refine bodyPost_ret (v := .tuple #[.agg #[.int .u8 110, .string ⟨#[]⟩, .int .i64 (- (V : Int)), .int .i64 i], .int .i64 (((i + 1) + j : Nat) : Int)]) (by simp [results, Tryz.results57, go_sem]) rfl ?_
              refine ⟨(Below.refl _ _).alloc (Nat.le_refl _) _, Or.inr ⟨?_, ?_⟩⟩
              · rw [HDD.out]
                have hjd := HJD.out
                rintro (h | h)
                · rw [h] at hjd; simp at hjd; omega
                · omega
              · rw [HDD.out, ← HJD.out, ← HVV.out]; simp
            · have ha : (((i : Int) + 1) + (j : Int) == ((i : Int) + 1)) = false := by simp; omega
              go_wp2_with (go_at_call 86; refine (rIsDigit_any _ _).mono ?_; rintro e w' ⟨rfl, rfl⟩)
              refine bodyPost_ret (v := .tuple #[.agg #[.int .u8 120, .string ⟨#[]⟩, .int .i64 0, .int .i64 i], .int .i64 (((i + 1) + j : Nat) : Int)]) (by simp [results, Tryz.results57, go_sem]) rfl ?_
              refine ⟨(Below.refl _ _).alloc (Nat.le_refl _) _, Or.inl ⟨?_, (i + 1) + j, by omega, rfl⟩⟩
              rw [HDD.out]
              exact Or.inr (by have := HJD.out; omega)
        · clear hst
          by_cases hj0 : j = 0
          · have h0 : j ≤ 0 := by omega
            have ha : (((i : Int) + 1) + (j : Int) == ((i : Int) + 1)) = true := by simp; omega
            first
              | (exfalso; omega)
              | (clear hj0
                 go_wp2_with (go_at_call 86; refine (rIsDigit_any _ _).mono ?_; rintro e w' ⟨rfl, rfl⟩)
                 refine bodyPost_ret (v := .tuple #[.agg #[.int .u8 120, .string ⟨#[]⟩, .int .i64 0, .int .i64 i], .int .i64 (((i + 1) + j : Nat) : Int)]) (by simp [results, Tryz.results57, go_sem]) rfl ?_
                 refine ⟨(Below.refl _ _).alloc (Nat.le_refl _) _, Or.inl ⟨?_, (i + 1) + j, by omega, rfl⟩⟩
                 rw [HDD.out]
                 exact Or.inl (List.eq_nil_of_length_eq_zero (by have := HJD.out; omega)))
          · by_cases hj9 : j ≤ 9
            · have ha : (((i : Int) + 1) + (j : Int) == ((i : Int) + 1)) = false := by simp; omega
              go_wp2_with (go_at_call 86; refine (rIsDigit_any _ _).mono ?_; rintro e w' ⟨rfl, rfl⟩)
              refine bodyPost_ret (v := .tuple #[.agg #[.int .u8 110, .string ⟨#[]⟩, .int .i64 (- (V : Int)), .int .i64 i], .int .i64 (((i + 1) + j : Nat) : Int)]) (by simp [results, Tryz.results57, go_sem]) rfl ?_
              refine ⟨(Below.refl _ _).alloc (Nat.le_refl _) _, Or.inr ⟨?_, ?_⟩⟩
              · rw [HDD.out]
                have hjd := HJD.out
                rintro (h | h)
                · rw [h] at hjd; simp at hjd; omega
                · omega
              · rw [HDD.out, ← HJD.out, ← HVV.out]; simp
            · have ha : (((i : Int) + 1) + (j : Int) == ((i : Int) + 1)) = false := by simp; omega
              go_wp2_with (go_at_call 86; refine (rIsDigit_any _ _).mono ?_; rintro e w' ⟨rfl, rfl⟩)
              refine bodyPost_ret (v := .tuple #[.agg #[.int .u8 120, .string ⟨#[]⟩, .int .i64 0, .int .i64 i], .int .i64 (((i + 1) + j : Nat) : Int)]) (by simp [results, Tryz.results57, go_sem]) rfl ?_
              refine ⟨(Below.refl _ _).alloc (Nat.le_refl _) _, Or.inl ⟨?_, (i + 1) + j, by omega, rfl⟩⟩
              rw [HDD.out]
              exact Or.inr (by have := HJD.out; omega)
      · obtain ⟨hlt, hg, hp⟩ := HG.out j (by omega)
        have hj9 : ¬ j ≤ 9 := by omega
        have ha : (((i : Int) + 1) + (j : Int) == ((i : Int) + 1)) = false := by simp; omega
        generalize Pl.decv (D.take j) = V at *
        clear HG HS HL hg
        go_wp2_with (go_at_call 86; refine (rIsDigit_any _ _).mono ?_; rintro e w' ⟨rfl, rfl⟩)
        refine bodyPost_ret (v := .tuple #[.agg #[.int .u8 120, .string ⟨#[]⟩, .int .i64 0, .int .i64 i], .int .i64 (((i + 1) + j : Nat) : Int)]) (by simp [results, Tryz.results57, go_sem]) rfl ?_
        refine ⟨(Below.refl _ _).alloc (Nat.le_refl _) _, Or.inl ⟨?_, (i + 1) + j, by omega, rfl⟩⟩
        rw [HDD.out]
        exact Or.inr (by omega)

end Go.Proofs.YtkjhhooecopolaaGreatDoor

namespace Go.Proofs.YtkjhhooecopolaaGreatDoor
open Go.RowKit

theorem own_kept {w w' : World} {base : Nat} {e : TypeId} {size : Nat} {v : Value} {n : Nat} {xs : List Value} (h : w.ownsRow base e size v n xs)
    (hk : ∀ k, v.ownBlock = some k → w'.heap[k]? = w.heap[k]?) : w'.ownsRow base e size v n xs := by
  obtain ⟨h1, h2⟩ := h
  refine ⟨h1, ?_⟩
  rcases h2 with h2 | ⟨g, cap, cur, hv, hg, hh, r⟩
  · exact Or.inl h2
  · exact Or.inr ⟨g, cap, cur, hv, hg, by rw [hk g (by rw [hv]; rfl)]; exact hh, r⟩

theorem own_ne {w : World} {b1 b2 : Nat} {e1 e2 : TypeId} {z1 z2 : Nat} {v1 v2 : Value} {n1 n2 : Nat} {x1 x2 : List Value}
    (h1 : w.ownsRow b1 e1 z1 v1 n1 x1) (h2 : w.ownsRow b2 e2 z2 v2 n2 x2) (he : e1 ≠ e2) : ∀ k, v2.ownBlock = some k → some k ≠ v1.ownBlock := by
  intro k hk hk1
  rcases h1.2 with ⟨ha, _⟩ | ⟨g, cap, cur, hv, hg, hh, r⟩
  · rw [ha] at hk1; cases hk1
  · rcases h2.2 with ⟨ha, _⟩ | ⟨g', cap', cur', hv', hg', hh', r'⟩
    · rw [ha] at hk; cases hk
    · rw [hv] at hk1; rw [hv'] at hk
      have e1' : k = g := by simpa [Value.ownBlock] using hk1
      have e2' : g' = k := by simpa [Value.ownBlock] using hk
      rw [e2', e1', hh] at hh'
      injection hh' with hh'
      injection hh' with _ hh' _
      exact he hh'

theorem own_lt {w : World} {base : Nat} {e : TypeId} {size : Nat} {v : Value} {n : Nat} {xs : List Value} (h : w.ownsRow base e size v n xs) :
    ∀ k, v.ownBlock = some k → base ≤ k ∧ k < w.heap.size := h.lt

/-- A block of a struct that the call made. -/
theorem cell_of {w : World} {b : Nat} {c : Array Value} {T : TypeId} (h : w.heap[b]? = some (.cells c T (0, 0))) (o : Nat) : w.cell? ⟨b, o, none⟩ = c[o]? := by
  simp [World.cell?, h]
theorem frozen_of {w : World} {b : Nat} {c : Array Value} {T : TypeId} (h : w.heap[b]? = some (.cells c T (0, 0))) (o : Nat) : w.frozen? ⟨b, o, none⟩ = false := by
  simp [World.frozen?, h]
theorem lt_of_heap {w : World} {b : Nat} {o : Obj} (h : w.heap[b]? = some o) : b < w.heap.size := by
  rcases Nat.lt_or_ge b w.heap.size with h1 | h1
  · exact h1
  · rw [Array.getElem?_eq_none h1] at h; cases h
theorem heap_set {w : World} {b o : Nat} {c : Array Value} {T : TypeId} (h : w.heap[b]? = some (.cells c T (0, 0))) (v : Value) :
    (w.setCell ⟨b, o, none⟩ v).heap[b]? = some (.cells (c.setIfInBounds o v) T (0, 0)) := by
  simp [World.setCell, Array.getElem?_modify, h]
theorem heap_set_ne {w : World} {b k o : Nat} (h : k ≠ b) (v : Value) : (w.setCell ⟨b, o, none⟩ v).heap[k]? = w.heap[k]? := Below.heap_setCell _ _ _ _ h
theorem heap_drew (w : World) (k : Nat) : w.drew.heap[k]? = w.heap[k]? := rfl

def ptVal (p : Int × Int) : Value := .complex .f64 (floatOfInt .f64 p.1) (floatOfInt .f64 p.2)
def ptCells (g : List (Int × Int)) : List Value := g.map ptVal

def tokRow (c : List Pl.Tk) : List Value := c.flatMap fun t => (tokCells t).toList

theorem tokRow_length (c : List Pl.Tk) : (tokRow c).length = c.length * 4 := by
  induction c with
  | nil => rfl
  | cons t r ih => simp only [tokRow, List.flatMap_cons, List.length_append] at ih ⊢; rw [ih]; simp [tokCells]; omega

theorem tokRow_snoc (c : List Pl.Tk) (t : Pl.Tk) : tokRow (c ++ [t]) = tokRow c ++ (tokCells t).toList := by simp [tokRow]

/-- The rings that have been read: a row of rows. -/
def Rings (rb : Nat) (rv : Value) (rg : List (List (Int × Int))) (w : World) : Prop :=
  ∃ vs : List Value, vs.length = rg.length ∧ w.ownsRow (rb + 1) 127 1 rv rg.length vs ∧
    (∀ (i : Nat) v g, vs[i]? = some v → rg[i]? = some g → w.ownsRow (rb + 1) 81 1 v g.length (ptCells g)) ∧
    (∀ (i j : Nat) v u k, vs[i]? = some v → vs[j]? = some u → v.ownBlock = some k → u.ownBlock = some k → i = j)

theorem Rings.kept {rb : Nat} {rv : Value} {rg : List (List (Int × Int))} {w w' : World} (h : Rings rb rv rg w)
    (hk : ∀ k cur e, w.heap[k]? = some (.cells cur e (0, 0)) → (e = 127 ∨ e = 81) → rb < k → w'.heap[k]? = w.heap[k]?) : Rings rb rv rg w' := by
  obtain ⟨vs, h1, h2, h3, h4⟩ := h
  have key : ∀ e v n xs, (e = 127 ∨ e = 81) → w.ownsRow (rb + 1) e 1 v n xs → w'.ownsRow (rb + 1) e 1 v n xs := fun e v n xs he ho => by
    refine own_kept ho fun k hv => ?_
    rcases ho.2 with ⟨ha, _⟩ | ⟨g, cap, cur, hv', hg, hh, r⟩
    · rw [ha] at hv; cases hv
    · rw [hv'] at hv
      have : g = k := by simpa [Value.ownBlock] using hv
      subst this
      exact hk g cur e hh he hg
  exact ⟨vs, h1, key _ _ _ _ (Or.inl rfl) h2, fun i v g a b => key _ _ _ _ (Or.inr rfl) (h3 i v g a b), h4⟩

def rdCells (s : ByteArray) (t : Pl.Tk) (tv rv : Value) : Array Value := #[.string s, .int .i64 (Pl.pk t), .string ⟨(Pl.praw t).toArray⟩, .int .i64 t.n, .int .i64 t.pl, tv, rv]

/-- The reader at block rb: all tokens are A; l are those that are not taken yet. -/
def RD (rb : Nat) (s : ByteArray) (A l : List Pl.Tk) (rg : List (List (Int × Int))) (w : World) : Prop :=
  ∃ c t r tv rv, c ++ l = A ∧ l = t :: r ∧ w.heap[rb]? = some (.cells (rdCells s t tv rv) 80 (0, 0)) ∧
    w.ownsRow (rb + 1) 76 4 tv c.length (tokRow c) ∧ Rings rb rv rg w

/-- Behind an append: what lies below the row that was appended to is as it was. -/
theorem grown_heap {w w1 : World} {o : Obj} {row : Option Nat} (hg : (w.alloc o).grownBy w1 row) (k : Nat) (hk : k < w.heap.size) (hne : row ≠ some k) : w1.heap[k]? = w.heap[k]? :=
  (hg.block k (by simp; omega) (fun e => hne e.symm)).trans (Below.heap_alloc _ _ _ hk)
theorem grown_heap_drew {w w1 : World} {o : Obj} {row : Option Nat} (hg : (w.alloc o).drew.grownBy w1 row) (k : Nat) (hk : k < w.heap.size) (hne : row ≠ some k) : w1.heap[k]? = w.heap[k]? :=
  (hg.block k (by show k < (w.alloc o).heap.size; simp; omega) (fun e => hne e.symm)).trans (Below.heap_alloc _ _ _ hk)
theorem own_base_ne {w : World} {base : Nat} {e : TypeId} {size : Nat} {v : Value} {n : Nat} {xs : List Value} (h : w.ownsRow base e size v n xs) (k : Nat) (hk : k < base) : v.ownBlock ≠ some k :=
  fun e => by have := (own_lt h k e).1; omega

end Go.Proofs.YtkjhhooecopolaaGreatDoor
