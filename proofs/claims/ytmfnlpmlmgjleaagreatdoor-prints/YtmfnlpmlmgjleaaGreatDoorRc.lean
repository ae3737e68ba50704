import Derived.Test.YtmfnlpmlmgjleaaGreatDoorRb
namespace Go.Proofs.YtmfnlpmlmgjleaaGreatDoor
open Go.RowKit

/-- How the reference's reading of a number ends. -/
def NumPost (neg : Bool) (s : ByteArray) (i d : Nat) (w : World) (e : Ending) (w' : World) : Prop :=
  Below w.heap.size w w' ∧
  (((digsAt s d = [] ∨ 9 < (digsAt s d).length) ∧ ∃ j : Nat, j ≤ 1000 ∧ e = .returned (.tuple #[.agg #[.int .u8 120, .string ⟨#[]⟩, .int .i64 0, .int .i64 i], .int .i64 j])) ∨
   (¬ (digsAt s d = [] ∨ 9 < (digsAt s d).length) ∧ e = .returned (.tuple #[.agg #[.int .u8 110, .string ⟨#[]⟩, .int .i64 (if neg then - (Pl.decv (digsAt s d) : Int) else (Pl.decv (digsAt s d) : Int)), .int .i64 i], .int .i64 ((d + (digsAt s d).length : Nat) : Int)])))

set_option maxRecDepth 100000 in
set_option maxHeartbeats 2000000 in
theorem rToken_num_false (s : ByteArray) (i : Nat) (w : World) (hi : i < s.size) (hs : s.size ≤ 400) (hl : Pl.isLet s[i] = false)
    (hq : ¬ (s[i].toNat = 40 ∨ s[i].toNat = 41 ∨ s[i].toNat = 44 ∨ s[i].toNat = 47)) (hm : ((s[i].toNat : Int) == 45) = false) :
    Calls Tryz.prog 68 #[.string s, .int .i64 i] w (NumPost false s i i w) := by
  obtain ⟨q1, q2, q3, q4⟩ := notSign (Or.inr (Or.inr (Or.inr hq)))
  clear hq
  have hD : (digsAt s i).length ≤ s.size - i := by
    have := (List.takeWhile_prefix Pl.isDig (l := s.data.toList.drop i)).length_le
    simp at this
    unfold digsAt; omega
  have HG : Hid (∀ j (hj : j < (digsAt s i).length), ∃ h : i + j < s.size, (digsAt s i)[j] = s[i + j] ∧ Pl.isDig s[i + j] = true) := fun j hj => digs_get s i j hj
  have HS : Hid (∀ h : i + (digsAt s i).length < s.size, Pl.isDig s[i + (digsAt s i).length] = false) := digs_stop s i
  have HL : Hid (∀ j, Pl.decv ((digsAt s i).take j) < 10 ^ j) := fun j => decv_lt j _ (dig_mem _)
  generalize hDD : digsAt s i = D at *
  have HDD : Hid (digsAt s i = D) := hDD
  clear hDD
  go_enter Tryz.func68, Tryz.ntmps68
  go_wp2_with (go_at_call 105; refine (rIsLetter_any _ _).mono ?_; rintro e w' ⟨rfl, rfl⟩)
  go_loop [1, 8] (fun t n => ∃ j : Nat, j ≤ D.length ∧ j ≤ 10 ∧ t = .int .i64 ((i + j : Nat) : Int) ∧ n = .int .i64 ((Pl.decv (D.take j) : Nat) : Int)) (fun t _ => 1000 - (intOf t).toNat)
  case atStart => exact ⟨0, by omega, by omega, by go_num, rfl⟩
  case round =>
    obtain ⟨j, hj, hj10, rfl, rfl⟩ := hrel
    by_cases hgo : j < D.length ∧ j < 10
    · obtain ⟨h1, h2⟩ := hgo
      obtain ⟨hlt, hg, hp⟩ := HG.out j h1
      have hv : Pl.decv (D.take j) < 10000000000 := Nat.lt_of_lt_of_le (HL.out j) (Nat.pow_le_pow_right (by omega) (by omega : j ≤ 10))
      have HE : Hid (Pl.decv (D.take (j + 1)) = 10 * Pl.decv (D.take j) + (s[i + j].toNat - 48)) := by
        show _ = _
        rw [List.take_succ_eq_append_getElem h1, decv_snoc, hg]
      have hd := of_decide_eq_true hp
      generalize Pl.decv (D.take j) = V at *
      clear hg HG HS HL HDD
      go_wp2_with (go_at_call 106; refine (rIsDigit_any _ _).mono ?_; rintro e w' ⟨rfl, rfl⟩)
      exact ⟨⟨j + 1, by omega, by omega, congrArg (Value.int .i64) (by omega), congrArg (Value.int .i64) (by rw [HE.out]; omega)⟩, by simp [intOf]; omega⟩
    · by_cases hjD : j = D.length
      · have hst : ∀ h : i + j < s.size, Pl.isDig s[i + j] = false := by
          intro h
          subst hjD
          exact HS.out h
        have HV : Hid (D.take j = D) := by
          show _ = _
          rw [List.take_of_length_le (by omega)]
        have hv : Pl.decv (D.take j) < 10000000000 := Nat.lt_of_lt_of_le (HL.out j) (Nat.pow_le_pow_right (by omega) (by omega : j ≤ 10))
        have HVV : Hid (Pl.decv (D.take j) = Pl.decv D) := congrArg Pl.decv HV.out
        have HJD : Hid (j = D.length) := hjD
        generalize Pl.decv (D.take j) = V at *
        clear HG HS HL hjD HV hj
        by_cases hlt : i + j < s.size
        · have hp := hst hlt
          clear hst
          by_cases hj0 : j = 0
          · have h0 : j ≤ 0 := by omega
            have ha : ((i : Int) + (j : Int) == (i : Int)) = true := by simp; omega
            clear hj0
            go_wp2_with (go_at_call 106; refine (rIsDigit_any _ _).mono ?_; rintro e w' ⟨rfl, rfl⟩)
            refine bodyPost_ret (v := .tuple #[.agg #[.int .u8 120, .string ⟨#[]⟩, .int .i64 0, .int .i64 i], .int .i64 ((i + j : Nat) : Int)]) (by simp [results, Tryz.results68, go_sem]) rfl ?_
            refine ⟨(Below.refl _ _).alloc (Nat.le_refl _) _, Or.inl ⟨?_, i + j, by omega, rfl⟩⟩
            rw [HDD.out]
            exact Or.inl (List.eq_nil_of_length_eq_zero (by have := HJD.out; omega))
          · by_cases hj9 : j ≤ 9
            · have ha : ((i : Int) + (j : Int) == (i : Int)) = false := by simp; omega
              go_wp2_with (go_at_call 106; refine (rIsDigit_any _ _).mono ?_; rintro e w' ⟨rfl, rfl⟩)
              refine bodyPost_ret (v := .tuple #[.agg #[.int .u8 110, .string ⟨#[]⟩, .int .i64 ((V : Int)), .int .i64 i], .int .i64 ((i + j : Nat) : Int)]) (by simp [results, Tryz.results68, go_sem]) rfl ?_
              refine ⟨(Below.refl _ _).alloc (Nat.le_refl _) _, Or.inr ⟨?_, ?_⟩⟩
              · rw [HDD.out]
                have hjd := HJD.out
                rintro (h | h)
                · rw [h] at hjd; simp at hjd; omega
                · omega
              · rw [HDD.out, ← HJD.out, ← HVV.out]; simp
            · have ha : ((i : Int) + (j : Int) == (i : Int)) = false := by simp; omega
              go_wp2_with (go_at_call 106; refine (rIsDigit_any _ _).mono ?_; rintro e w' ⟨rfl, rfl⟩)
              refine bodyPost_ret (v := .tuple #[.agg #[.int .u8 120, .string ⟨#[]⟩, .int .i64 0, .int .i64 i], .int .i64 ((i + j : Nat) : Int)]) (by simp [results, Tryz.results68, go_sem]) rfl ?_
              refine ⟨(Below.refl _ _).alloc (Nat.le_refl _) _, Or.inl ⟨?_, i + j, by omega, rfl⟩⟩
              rw [HDD.out]
              exact Or.inr (by have := HJD.out; omega)
        · clear hst
          by_cases hj0 : j = 0
          · have h0 : j ≤ 0 := by omega
            have ha : ((i : Int) + (j : Int) == (i : Int)) = true := by simp; omega
            first
              | (exfalso; omega)
              | (clear hj0
                 go_wp2_with (go_at_call 106; refine (rIsDigit_any _ _).mono ?_; rintro e w' ⟨rfl, rfl⟩)
                 refine bodyPost_ret (v := .tuple #[.agg #[.int .u8 120, .string ⟨#[]⟩, .int .i64 0, .int .i64 i], .int .i64 ((i + j : Nat) : Int)]) (by simp [results, Tryz.results68, go_sem]) rfl ?_
                 refine ⟨(Below.refl _ _).alloc (Nat.le_refl _) _, Or.inl ⟨?_, i + j, by omega, rfl⟩⟩
                 rw [HDD.out]
                 exact Or.inl (List.eq_nil_of_length_eq_zero (by have := HJD.out; omega)))
          · by_cases hj9 : j ≤ 9
            · have ha : ((i : Int) + (j : Int) == (i : Int)) = false := by simp; omega
              go_wp2_with (go_at_call 106; refine (rIsDigit_any _ _).mono ?_; rintro e w' ⟨rfl, rfl⟩)
              refine bodyPost_ret (v := .tuple #[.agg #[.int .u8 110, .string ⟨#[]⟩, .int .i64 ((V : Int)), .int .i64 i], .int .i64 ((i + j : Nat) : Int)]) (by simp [results, Tryz.results68, go_sem]) rfl ?_
              refine ⟨(Below.refl _ _).alloc (Nat.le_refl _) _, Or.inr ⟨?_, ?_⟩⟩
              · rw [HDD.out]
                have hjd := HJD.out
                rintro (h | h)
                · rw [h] at hjd; simp at hjd; omega
                · omega
              · rw [HDD.out, ← HJD.out, ← HVV.out]; simp
            · have ha : ((i : Int) + (j : Int) == (i : Int)) = false := by simp; omega
              go_wp2_with (go_at_call 106; refine (rIsDigit_any _ _).mono ?_; rintro e w' ⟨rfl, rfl⟩)
              refine bodyPost_ret (v := .tuple #[.agg #[.int .u8 120, .string ⟨#[]⟩, .int .i64 0, .int .i64 i], .int .i64 ((i + j : Nat) : Int)]) (by simp [results, Tryz.results68, go_sem]) rfl ?_
              refine ⟨(Below.refl _ _).alloc (Nat.le_refl _) _, Or.inl ⟨?_, i + j, by omega, rfl⟩⟩
              rw [HDD.out]
              exact Or.inr (by have := HJD.out; omega)
      · obtain ⟨hlt, hg, hp⟩ := HG.out j (by omega)
        have hj9 : ¬ j ≤ 9 := by omega
        have ha : ((i : Int) + (j : Int) == (i : Int)) = false := by simp; omega
        generalize Pl.decv (D.take j) = V at *
        clear HG HS HL hg
        go_wp2_with (go_at_call 106; refine (rIsDigit_any _ _).mono ?_; rintro e w' ⟨rfl, rfl⟩)
        refine bodyPost_ret (v := .tuple #[.agg #[.int .u8 120, .string ⟨#[]⟩, .int .i64 0, .int .i64 i], .int .i64 ((i + j : Nat) : Int)]) (by simp [results, Tryz.results68, go_sem]) rfl ?_
        refine ⟨(Below.refl _ _).alloc (Nat.le_refl _) _, Or.inl ⟨?_, i + j, by omega, rfl⟩⟩
        rw [HDD.out]
        exact Or.inr (by omega)

set_option maxRecDepth 100000 in
set_option maxHeartbeats 2000000 in
theorem rToken_num_true (s : ByteArray) (i : Nat) (w : World) (hi : i < s.size) (hs : s.size ≤ 400) (hl : Pl.isLet s[i] = false)
    (hq : ¬ (s[i].toNat = 40 ∨ s[i].toNat = 41 ∨ s[i].toNat = 44 ∨ s[i].toNat = 47)) (hm : ((s[i].toNat : Int) == 45) = true) :
    Calls Tryz.prog 68 #[.string s, .int .i64 i] w (NumPost true s i (i + 1) w) := by
  obtain ⟨q1, q2, q3, q4⟩ := notSign (Or.inr (Or.inr (Or.inr hq)))
  clear hq
  have hD : (digsAt s (i + 1)).length ≤ s.size - (i + 1) := by
    have := (List.takeWhile_prefix Pl.isDig (l := s.data.toList.drop (i + 1))).length_le
    simp at this
    unfold digsAt; omega
  have HG : Hid (∀ j (hj : j < (digsAt s (i + 1)).length), ∃ h : (i + 1) + j < s.size, (digsAt s (i + 1))[j] = s[(i + 1) + j] ∧ Pl.isDig s[(i + 1) + j] = true) := fun j hj => digs_get s (i + 1) j hj
  have HS : Hid (∀ h : (i + 1) + (digsAt s (i + 1)).length < s.size, Pl.isDig s[(i + 1) + (digsAt s (i + 1)).length] = false) := digs_stop s (i + 1)
  have HL : Hid (∀ j, Pl.decv ((digsAt s (i + 1)).take j) < 10 ^ j) := fun j => decv_lt j _ (dig_mem _)
  generalize hDD : digsAt s (i + 1) = D at *
  have HDD : Hid (digsAt s (i + 1) = D) := hDD
  clear hDD
  go_enter Tryz.func68, Tryz.ntmps68
  go_wp2_with (go_at_call 105; refine (rIsLetter_any _ _).mono ?_; rintro e w' ⟨rfl, rfl⟩)
  go_loop [1, 8] (fun t n => ∃ j : Nat, j ≤ D.length ∧ j ≤ 10 ∧ t = .int .i64 (((i + 1) + j : Nat) : Int) ∧ n = .int .i64 ((Pl.decv (D.take j) : Nat) : Int)) (fun t _ => 1000 - (intOf t).toNat)
  case atStart => exact ⟨0, by omega, by omega, by go_num, rfl⟩
  case round =>
    obtain ⟨j, hj, hj10, rfl, rfl⟩ := hrel
    by_cases hgo : j < D.length ∧ j < 10
    · obtain ⟨h1, h2⟩ := hgo
      obtain ⟨hlt, hg, hp⟩ := HG.out j h1
      have hv : Pl.decv (D.take j) < 10000000000 := Nat.lt_of_lt_of_le (HL.out j) (Nat.pow_le_pow_right (by omega) (by omega : j ≤ 10))
      have HE : Hid (Pl.decv (D.take (j + 1)) = 10 * Pl.decv (D.take j) + (s[(i + 1) + j].toNat - 48)) := by
        show _ = _
        rw [List.take_succ_eq_append_getElem h1, decv_snoc, hg]
      have hd := of_decide_eq_true hp
      generalize Pl.decv (D.take j) = V at *
      clear hg HG HS HL HDD
      go_wp2_with (go_at_call 106; refine (rIsDigit_any _ _).mono ?_; rintro e w' ⟨rfl, rfl⟩)
      exact ⟨⟨j + 1, by omega, by omega, congrArg (Value.int .i64) (by omega), congrArg (Value.int .i64) (by rw [HE.out]; omega)⟩, by simp [intOf]; omega⟩
    · by_cases hjD : j = D.length
      · have hst : ∀ h : (i + 1) + j < s.size, Pl.isDig s[(i + 1) + j] = false := by
          intro h
          subst hjD
          exact HS.out h
        have HV : Hid (D.take j = D) := by
          show _ = _
          rw [List.take_of_length_le (by omega)]
        have hv : Pl.decv (D.take j) < 10000000000 := Nat.lt_of_lt_of_le (HL.out j) (Nat.pow_le_pow_right (by omega) (by omega : j ≤ 10))
        have HVV : Hid (Pl.decv (D.take j) = Pl.decv D) := congrArg Pl.decv HV.out
        have HJD : Hid (j = D.length) := hjD
        generalize Pl.decv (D.take j) = V at *
        clear HG HS HL hjD HV hj
        by_cases hlt : (i + 1) + j < s.size
        · have hp := hst hlt
          clear hst
          by_cases hj0 : j = 0
          · have h0 : j ≤ 0 := by omega
            have ha : (((i : Int) + 1) + (j : Int) == ((i : Int) + 1)) = true := by simp; omega
            clear hj0
            go_wp2_with (go_at_call 106; refine (rIsDigit_any _ _).mono ?_; rintro e w' ⟨rfl, rfl⟩)
            refine bodyPost_ret (v := .tuple #[.agg #[.int .u8 120, .string ⟨#[]⟩, .int .i64 0, .int .i64 i], .int .i64 (((i + 1) + j : Nat) : Int)]) (by simp [results, Tryz.results68, go_sem]) rfl ?_
            refine ⟨(Below.refl _ _).alloc (Nat.le_refl _) _, Or.inl ⟨?_, (i + 1) + j, by omega, rfl⟩⟩
            rw [HDD.out]
            exact Or.inl (List.eq_nil_of_length_eq_zero (by have := HJD.out; omega))
          · by_cases hj9 : j ≤ 9
            · have ha : (((i : Int) + 1) + (j : Int) == ((i : Int) + 1)) = false := by simp; omega
              go_wp2_with (go_at_call 106; refine (rIsDigit_any _ _).mono ?_; rintro e w' ⟨rfl, rfl⟩)
              refine bodyPost_ret (v := .tuple #[.agg #[.int .u8 110, .string ⟨#[]⟩, .int .i64 (- (V : Int)), .int .i64 i], .int .i64 (((i + 1) + j : Nat) : Int)]) (by simp [results, Tryz.results68, go_sem]) rfl ?_
              refine ⟨(Below.refl _ _).alloc (Nat.le_refl _) _, Or.inr ⟨?_, ?_⟩⟩
              · rw [HDD.out]
                have hjd := HJD.out
                rintro (h | h)
                · rw [h] at hjd; simp at hjd; omega
                · omega
              · rw [HDD.out, ← HJD.out, ← HVV.out]; simp
            · have ha : (((i : Int) + 1) + (j : Int) == ((i : Int) + 1)) = false := by simp; omega
              go_wp2_with (go_at_call 106; refine (rIsDigit_any _ _).mono ?_; rintro e w' ⟨rfl, rfl⟩)
              refine bodyPost_ret (v := .tuple #[.agg #[.int .u8 120, .string ⟨#[]⟩, .int .i64 0, .int .i64 i], .int .i64 (((i + 1) + j : Nat) : Int)]) (by simp [results, Tryz.results68, go_sem]) rfl ?_
              refine ⟨(Below.refl _ _).alloc (Nat.le_refl _) _, Or.inl ⟨?_, (i + 1) + j, by omega, rfl⟩⟩
              rw [HDD.out]
              exact Or.inr (by have := HJD.out; omega)
        · clear hst
          by_cases hj0 : j = 0
          · have h0 : j ≤ 0 := by omega
            have ha : (((i : Int) + 1) + (j : Int) == ((i : Int) + 1)) = true := by simp; omega
            first
              | (exfalso; omega)
              | (clear hj0
                 go_wp2_with (go_at_call 106; refine (rIsDigit_any _ _).mono ?_; rintro e w' ⟨rfl, rfl⟩)
                 refine bodyPost_ret (v := .tuple #[.agg #[.int .u8 120, .string ⟨#[]⟩, .int .i64 0, .int .i64 i], .int .i64 (((i + 1) + j : Nat) : Int)]) (by simp [results, Tryz.results68, go_sem]) rfl ?_
                 refine ⟨(Below.refl _ _).alloc (Nat.le_refl _) _, Or.inl ⟨?_, (i + 1) + j, by omega, rfl⟩⟩
                 rw [HDD.out]
                 exact Or.inl (List.eq_nil_of_length_eq_zero (by have := HJD.out; omega)))
          · by_cases hj9 : j ≤ 9
            · have ha : (((i : Int) + 1) + (j : Int) == ((i : Int) + 1)) = false := by simp; omega
              go_wp2_with (go_at_call 106; refine (rIsDigit_any _ _).mono ?_; rintro e w' ⟨rfl, rfl⟩)
              refine bodyPost_ret (v := .tuple #[.agg #[.int .u8 110, .string ⟨#[]⟩, .int .i64 (- (V : Int)), .int .i64 i], .int .i64 (((i + 1) + j : Nat) : Int)]) (by simp [results, Tryz.results68, go_sem]) rfl ?_
              refine ⟨(Below.refl _ _).alloc (Nat.le_refl _) _, Or.inr ⟨?_, ?_⟩⟩
              · rw [HDD.out]
                have hjd := HJD.out
                rintro (h | h)
                · rw [h] at hjd; simp at hjd; omega
                · omega
              · rw [HDD.out, ← HJD.out, ← HVV.out]; simp
            · have ha : (((i : Int) + 1) + (j : Int) == ((i : Int) + 1)) = false := by simp; omega
              go_wp2_with (go_at_call 106; refine (rIsDigit_any _ _).mono ?_; rintro e w' ⟨rfl, rfl⟩)
              refine bodyPost_ret (v := .tuple #[.agg #[.int .u8 120, .string ⟨#[]⟩, .int .i64 0, .int .i64 i], .int .i64 (((i + 1) + j : Nat) : Int)]) (by simp [results, Tryz.results68, go_sem]) rfl ?_
              refine ⟨(Below.refl _ _).alloc (Nat.le_refl _) _, Or.inl ⟨?_, (i + 1) + j, by omega, rfl⟩⟩
              rw [HDD.out]
              exact Or.inr (by have := HJD.out; omega)
      · obtain ⟨hlt, hg, hp⟩ := HG.out j (by omega)
        have hj9 : ¬ j ≤ 9 := by omega
        have ha : (((i : Int) + 1) + (j : Int) == ((i : Int) + 1)) = false := by simp; omega
        generalize Pl.decv (D.take j) = V at *
        clear HG HS HL hg
        go_wp2_with (go_at_call 106; refine (rIsDigit_any _ _).mono ?_; rintro e w' ⟨rfl, rfl⟩)
        refine bodyPost_ret (v := .tuple #[.agg #[.int .u8 120, .string ⟨#[]⟩, .int .i64 0, .int .i64 i], .int .i64 (((i + 1) + j : Nat) : Int)]) (by simp [results, Tryz.results68, go_sem]) rfl ?_
        refine ⟨(Below.refl _ _).alloc (Nat.le_refl _) _, Or.inl ⟨?_, (i + 1) + j, by omega, rfl⟩⟩
        rw [HDD.out]
        exact Or.inr (by omega)

end Go.Proofs.YtmfnlpmlmgjleaaGreatDoor
