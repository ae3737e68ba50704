import Derived.Test.YtmfnlpmlmgjleaaGreatDoorWa
namespace Go.Proofs.YtmfnlpmlmgjleaaGreatDoor
open Go.RowKit

/-- What a run of bytes is: from i on, those that p takes. -/
theorem takeWhile_drop_yes (p : UInt8 → Bool) (s : List UInt8) (i : Nat) (h : i < s.length) (hp : p s[i] = true) :
    ((s.drop i).takeWhile p).length = ((s.drop (i + 1)).takeWhile p).length + 1 := by
  rw [List.drop_eq_getElem_cons h, List.takeWhile_cons, if_pos hp]; rfl

theorem takeWhile_drop_no (p : UInt8 → Bool) (s : List UInt8) (i : Nat) (h : i < s.length) (hp : p s[i] = false) :
    ((s.drop i).takeWhile p).length = 0 := by
  rw [List.drop_eq_getElem_cons h, List.takeWhile_cons, if_neg (by simp [hp])]; rfl

set_option maxRecDepth 100000 in
set_option maxHeartbeats 400000 in
theorem skip_isBlank (s : ByteArray) (i : Int) (w : World) (h0 : 0 ≤ i) (h1 : i ≤ s.size) (hs : s.size ≤ 400) :
    Calls Tryz.prog 78 #[.string s, .int .i64 i, .func (.func 79) #[] #[]] w fun e w' => e = .returned (.int .i64 (i + ((s.data.toList.drop i.toNat).takeWhile Pl.isBl).length)) ∧ w' = w := by
  obtain ⟨n, rfl⟩ := Int.eq_ofNat_of_zero_le h0
  rw [Int.toNat_natCast]
  have hn : n ≤ s.size := by omega
  clear h0 h1
  go_enter Tryz.func78, Tryz.ntmps78
  go_wp2_with fail
  go_loop [1] (fun t => ∃ j : Nat, j ≤ s.size ∧ t = .int .i64 j ∧ j + ((s.data.toList.drop j).takeWhile Pl.isBl).length = n + ((s.data.toList.drop n).takeWhile Pl.isBl).length) (fun t => s.size - (intOf t).toNat)
  case atStart => exact ⟨n, hn, rfl, rfl⟩
  case round =>
    obtain ⟨j, hj, rfl, he⟩ := hrel
    have HE : Hid (j + ((s.data.toList.drop j).takeWhile Pl.isBl).length = n + ((s.data.toList.drop n).takeWhile Pl.isBl).length) := he
    clear he
    by_cases hlt : j < s.size
    · by_cases hp : Pl.isBl s[j] = true
      · have HS : Hid (j + 1 + ((s.data.toList.drop (j + 1)).takeWhile Pl.isBl).length = n + ((s.data.toList.drop n).takeWhile Pl.isBl).length) := by
          have h1 := takeWhile_drop_yes Pl.isBl s.data.toList j (by simpa using hlt) hp
          have h2 := HE.out
          show _ = _
          omega
        clear HE
        go_wp2_with (go_at_call 79; refine (isBlank_any _ _).mono ?_; rintro e w' ⟨rfl, rfl⟩)
        go_round
        case rel => exact ⟨j + 1, by omega, by go_num, HS.out⟩
        case measure => simp [intOf]; omega
      · have hp' : Pl.isBl s[j] = false := by simpa using hp
        have HS : Hid (j = n + ((s.data.toList.drop n).takeWhile Pl.isBl).length) := by
          have h1 := takeWhile_drop_no Pl.isBl s.data.toList j (by simpa using hlt) hp'
          have h2 := HE.out
          show _ = _
          omega
        clear HE hp
        go_wp2_with (go_at_call 79; refine (isBlank_any _ _).mono ?_; rintro e w' ⟨rfl, rfl⟩)
        go_ret
        exact ⟨ret_int (by have := HS.out; omega), rfl⟩
    · have HS : Hid (j = n + ((s.data.toList.drop n).takeWhile Pl.isBl).length) := by
        have h2 := HE.out
        rw [List.drop_of_length_le (by simp; omega : s.data.toList.length ≤ j)] at h2
        simp at h2
        exact h2
      clear HE
      go_wp2_with (go_at_call 79; refine (isBlank_any _ _).mono ?_; rintro e w' ⟨rfl, rfl⟩)
      go_ret
      exact ⟨ret_int (by have := HS.out; omega), rfl⟩

theorem skip_isBlank_at (s : ByteArray) (i j : Nat) (w : World) (h1 : i ≤ s.size) (hs : s.size ≤ 400) (hj : j = i + ((s.data.toList.drop i).takeWhile Pl.isBl).length) :
    Calls Tryz.prog 78 #[.string s, .int .i64 i, .func (.func 79) #[] #[]] w fun e w' => e = .returned (.int .i64 j) ∧ w' = w := by
  refine (skip_isBlank s i w (by omega) (by omega) hs).mono ?_
  rintro e w' ⟨rfl, rfl⟩
  exact ⟨ret_int (by rw [hj]; simp), rfl⟩

set_option maxRecDepth 100000 in
set_option maxHeartbeats 400000 in
theorem skip_isLetter (s : ByteArray) (i : Int) (w : World) (h0 : 0 ≤ i) (h1 : i ≤ s.size) (hs : s.size ≤ 400) :
    Calls Tryz.prog 78 #[.string s, .int .i64 i, .func (.func 80) #[] #[]] w fun e w' => e = .returned (.int .i64 (i + ((s.data.toList.drop i.toNat).takeWhile Pl.isLet).length)) ∧ w' = w := by
  obtain ⟨n, rfl⟩ := Int.eq_ofNat_of_zero_le h0
  rw [Int.toNat_natCast]
  have hn : n ≤ s.size := by omega
  clear h0 h1
  go_enter Tryz.func78, Tryz.ntmps78
  go_wp2_with fail
  go_loop [1] (fun t => ∃ j : Nat, j ≤ s.size ∧ t = .int .i64 j ∧ j + ((s.data.toList.drop j).takeWhile Pl.isLet).length = n + ((s.data.toList.drop n).takeWhile Pl.isLet).length) (fun t => s.size - (intOf t).toNat)
  case atStart => exact ⟨n, hn, rfl, rfl⟩
  case round =>
    obtain ⟨j, hj, rfl, he⟩ := hrel
    have HE : Hid (j + ((s.data.toList.drop j).takeWhile Pl.isLet).length = n + ((s.data.toList.drop n).takeWhile Pl.isLet).length) := he
    clear he
    by_cases hlt : j < s.size
    · by_cases hp : Pl.isLet s[j] = true
      · have HS : Hid (j + 1 + ((s.data.toList.drop (j + 1)).takeWhile Pl.isLet).length = n + ((s.data.toList.drop n).takeWhile Pl.isLet).length) := by
          have h1 := takeWhile_drop_yes Pl.isLet s.data.toList j (by simpa using hlt) hp
          have h2 := HE.out
          show _ = _
          omega
        clear HE
        go_wp2_with (go_at_call 80; refine (isLetter_any _ _).mono ?_; rintro e w' ⟨rfl, rfl⟩)
        go_round
        case rel => exact ⟨j + 1, by omega, by go_num, HS.out⟩
        case measure => simp [intOf]; omega
      · have hp' : Pl.isLet s[j] = false := by simpa using hp
        have HS : Hid (j = n + ((s.data.toList.drop n).takeWhile Pl.isLet).length) := by
          have h1 := takeWhile_drop_no Pl.isLet s.data.toList j (by simpa using hlt) hp'
          have h2 := HE.out
          show _ = _
          omega
        clear HE hp
        go_wp2_with (go_at_call 80; refine (isLetter_any _ _).mono ?_; rintro e w' ⟨rfl, rfl⟩)
        go_ret
        exact ⟨ret_int (by have := HS.out; omega), rfl⟩
    · have HS : Hid (j = n + ((s.data.toList.drop n).takeWhile Pl.isLet).length) := by
        have h2 := HE.out
        rw [List.drop_of_length_le (by simp; omega : s.data.toList.length ≤ j)] at h2
        simp at h2
        exact h2
      clear HE
      go_wp2_with (go_at_call 80; refine (isLetter_any _ _).mono ?_; rintro e w' ⟨rfl, rfl⟩)
      go_ret
      exact ⟨ret_int (by have := HS.out; omega), rfl⟩

theorem skip_isLetter_at (s : ByteArray) (i j : Nat) (w : World) (h1 : i ≤ s.size) (hs : s.size ≤ 400) (hj : j = i + ((s.data.toList.drop i).takeWhile Pl.isLet).length) :
    Calls Tryz.prog 78 #[.string s, .int .i64 i, .func (.func 80) #[] #[]] w fun e w' => e = .returned (.int .i64 j) ∧ w' = w := by
  refine (skip_isLetter s i w (by omega) (by omega) hs).mono ?_
  rintro e w' ⟨rfl, rfl⟩
  exact ⟨ret_int (by rw [hj]; simp), rfl⟩

set_option maxRecDepth 100000 in
set_option maxHeartbeats 400000 in
theorem skip_isDigit (s : ByteArray) (i : Int) (w : World) (h0 : 0 ≤ i) (h1 : i ≤ s.size) (hs : s.size ≤ 400) :
    Calls Tryz.prog 78 #[.string s, .int .i64 i, .func (.func 81) #[] #[]] w fun e w' => e = .returned (.int .i64 (i + ((s.data.toList.drop i.toNat).takeWhile Pl.isDig).length)) ∧ w' = w := by
  obtain ⟨n, rfl⟩ := Int.eq_ofNat_of_zero_le h0
  rw [Int.toNat_natCast]
  have hn : n ≤ s.size := by omega
  clear h0 h1
  go_enter Tryz.func78, Tryz.ntmps78
  go_wp2_with fail
  go_loop [1] (fun t => ∃ j : Nat, j ≤ s.size ∧ t = .int .i64 j ∧ j + ((s.data.toList.drop j).takeWhile Pl.isDig).length = n + ((s.data.toList.drop n).takeWhile Pl.isDig).length) (fun t => s.size - (intOf t).toNat)
  case atStart => exact ⟨n, hn, rfl, rfl⟩
  case round =>
    obtain ⟨j, hj, rfl, he⟩ := hrel
    have HE : Hid (j + ((s.data.toList.drop j).takeWhile Pl.isDig).length = n + ((s.data.toList.drop n).takeWhile Pl.isDig).length) := he
    clear he
    by_cases hlt : j < s.size
    · by_cases hp : Pl.isDig s[j] = true
      · have HS : Hid (j + 1 + ((s.data.toList.drop (j + 1)).takeWhile Pl.isDig).length = n + ((s.data.toList.drop n).takeWhile Pl.isDig).length) := by
          have h1 := takeWhile_drop_yes Pl.isDig s.data.toList j (by simpa using hlt) hp
          have h2 := HE.out
          show _ = _
          omega
        clear HE
        go_wp2_with (go_at_call 81; refine (isDigit_any _ _).mono ?_; rintro e w' ⟨rfl, rfl⟩)
        go_round
        case rel => exact ⟨j + 1, by omega, by go_num, HS.out⟩
        case measure => simp [intOf]; omega
      · have hp' : Pl.isDig s[j] = false := by simpa using hp
        have HS : Hid (j = n + ((s.data.toList.drop n).takeWhile Pl.isDig).length) := by
          have h1 := takeWhile_drop_no Pl.isDig s.data.toList j (by simpa using hlt) hp'
          have h2 := HE.out
          show _ = _
          omega
        clear HE hp
        go_wp2_with (go_at_call 81; refine (isDigit_any _ _).mono ?_; rintro e w' ⟨rfl, rfl⟩)
        go_ret
        exact ⟨ret_int (by have := HS.out; omega), rfl⟩
    · have HS : Hid (j = n + ((s.data.toList.drop n).takeWhile Pl.isDig).length) := by
        have h2 := HE.out
        rw [List.drop_of_length_le (by simp; omega : s.data.toList.length ≤ j)] at h2
        simp at h2
        exact h2
      clear HE
      go_wp2_with (go_at_call 81; refine (isDigit_any _ _).mono ?_; rintro e w' ⟨rfl, rfl⟩)
      go_ret
      exact ⟨ret_int (by have := HS.out; omega), rfl⟩

theorem skip_isDigit_at (s : ByteArray) (i j : Nat) (w : World) (h1 : i ≤ s.size) (hs : s.size ≤ 400) (hj : j = i + ((s.data.toList.drop i).takeWhile Pl.isDig).length) :
    Calls Tryz.prog 78 #[.string s, .int .i64 i, .func (.func 81) #[] #[]] w fun e w' => e = .returned (.int .i64 j) ∧ w' = w := by
  refine (skip_isDigit s i w (by omega) (by omega) hs).mono ?_
  rintro e w' ⟨rfl, rfl⟩
  exact ⟨ret_int (by rw [hj]; simp), rfl⟩

end Go.Proofs.YtmfnlpmlmgjleaaGreatDoor
