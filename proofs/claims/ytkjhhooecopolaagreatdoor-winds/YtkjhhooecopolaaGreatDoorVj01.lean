import Derived.Test.YtkjhhooecopolaaGreatDoorVj00
import Derived.Lib.LaidTab
import Derived.Lib.ItoaNum
namespace Go.Proofs.YtkjhhooecopolaaGreatDoor
open Go.RowKit

/-- What a run of bytes is: from i on, those that p takes. -/
theorem takeWhile_drop_yes (p : UInt8 → Bool) (s : List UInt8) (i : Nat) (h : i < s.length) (hp : p s[i] = true) :
    ((s.drop i).takeWhile p).length = ((s.drop (i + 1)).takeWhile p).length + 1 := by
  rw [List.drop_eq_getElem_cons h, List.takeWhile_cons, if_pos hp]; rfl

theorem takeWhile_drop_no (p : UInt8 → Bool) (s : List UInt8) (i : Nat) (h : i < s.length) (hp : p s[i] = false) :
    ((s.drop i).takeWhile p).length = 0 := by
  rw [List.drop_eq_getElem_cons h, List.takeWhile_cons, if_neg (by simp [hp])]; rfl

set_option maxRecDepth 100000 in
set_option maxHeartbeats 400000 in
theorem skip_isBlank (s : ByteArray) (i : Int) (w : World) (h0 : 0 ≤ i) (h1 : i ≤ s.size) (hs : s.size ≤ 400) :
    Calls Tryz.prog 89 #[.string s, .int .i64 i, .func (.func 90) #[] #[]] w fun e w' => e = .returned (.int .i64 (i + ((s.data.toList.drop i.toNat).takeWhile Pl.isBl).length)) ∧ w' = w := by
  obtain ⟨n, rfl⟩ := Int.eq_ofNat_of_zero_le h0
  rw [Int.toNat_natCast]
  have hn : n ≤ s.size := by omega
  clear h0 h1
  go_enter Tryz.func89, Tryz.ntmps89
  go_wp2_with fail
  go_loop [1] (fun t => ∃ j : Nat, j ≤ s.size ∧ t = .int .i64 j ∧ j + ((s.data.toList.drop j).takeWhile Pl.isBl).length = n + ((s.data.toList.drop n).takeWhile Pl.isBl).length) (fun t => s.size - (intOf t).toNat)
  case atStart => exact ⟨n, hn, rfl, rfl⟩
  case round =>
    obtain ⟨j, hj, rfl, he⟩ := hrel
    have HE : Hid (j + ((s.data.toList.drop j).takeWhile Pl.isBl).length = n + ((s.data.toList.drop n).takeWhile Pl.isBl).length) := he
    clear he
    by_cases hlt : j < s.size
    · by_cases hp : Pl.isBl s[j] = true
      · have HS : Hid (j + 1 + ((s.data.toList.drop (j + 1)).takeWhile Pl.isBl).length = n + ((s.data.toList.drop n).takeWhile Pl.isBl).length) := by
          have h1 := takeWhile_drop_yes Pl.isBl s.data.toList j (by simpa using hlt) hp
          have h2 := HE.out
          show _ = _
          omega
        clear HE
        go_wp2_with (go_at_call 90; refine (isBlank_any _ _).mono ?_; rintro e w' ⟨rfl, rfl⟩)
        go_round
        case rel => exact ⟨j + 1, by omega, by go_num, HS.out⟩
        case measure => simp [intOf]; omega
      · have hp' : Pl.isBl s[j] = false := by simpa using hp
        have HS : Hid (j = n + ((s.data.toList.drop n).takeWhile Pl.isBl).length) := by
          have h1 := takeWhile_drop_no Pl.isBl s.data.toList j (by simpa using hlt) hp'
          have h2 := HE.out
          show _ = _
          omega
        clear HE hp
        go_wp2_with (go_at_call 90; refine (isBlank_any _ _).mono ?_; rintro e w' ⟨rfl, rfl⟩)
        go_ret
        exact ⟨ret_int (by have := HS.out; omega), rfl⟩
    · have HS : Hid (j = n + ((s.data.toList.drop n).takeWhile Pl.isBl).length) := by
        have h2 := HE.out
        rw [List.drop_of_length_le (by simp; omega : s.data.toList.length ≤ j)] at h2
        simp at h2
        exact h2
      clear HE
      go_wp2_with (go_at_call 90; refine (isBlank_any _ _).mono ?_; rintro e w' ⟨rfl, rfl⟩)
      go_ret
      exact ⟨ret_int (by have := HS.out; omega), rfl⟩

theorem skip_isBlank_at (s : ByteArray) (i j : Nat) (w : World) (h1 : i ≤ s.size) (hs : s.size ≤ 400) (hj : j = i + ((s.data.toList.drop i).takeWhile Pl.isBl).length) :
    Calls Tryz.prog 89 #[.string s, .int .i64 i, .func (.func 90) #[] #[]] w fun e w' => e = .returned (.int .i64 j) ∧ w' = w := by
  refine (skip_isBlank s i w (by omega) (by omega) hs).mono ?_
  rintro e w' ⟨rfl, rfl⟩
  exact ⟨ret_int (by rw [hj]; simp), rfl⟩

set_option maxRecDepth 100000 in
set_option maxHeartbeats 400000 in
theorem skip_isLetter (s : ByteArray) (i : Int) (w : World) (h0 : 0 ≤ i) (h1 : i ≤ s.size) (hs : s.size ≤ 400) :
    Calls Tryz.prog 89 #[.string s, .int .i64 i, .func (.func 91) #[] #[]] w fun e w' => e = .returned (.int .i64 (i + ((s.data.toList.drop i.toNat).takeWhile Pl.isLet).length)) ∧ w' = w := by
  obtain ⟨n, rfl⟩ := Int.eq_ofNat_of_zero_le h0
  rw [Int.toNat_natCast]
  have hn : n ≤ s.size := by omega
  clear h0 h1
  go_enter Tryz.func89, Tryz.ntmps89
  go_wp2_with fail
  go_loop [1] (fun t => ∃ j : Nat, j ≤ s.size ∧ t = .int .i64 j ∧ j + ((s.data.toList.drop j).takeWhile Pl.isLet).length = n + ((s.data.toList.drop n).takeWhile Pl.isLet).length) (fun t => s.size - (intOf t).toNat)
  case atStart => exact ⟨n, hn, rfl, rfl⟩
  case round =>
    obtain ⟨j, hj, rfl, he⟩ := hrel
    have HE : Hid (j + ((s.data.toList.drop j).takeWhile Pl.isLet).length = n + ((s.data.toList.drop n).takeWhile Pl.isLet).length) := he
    clear he
    by_cases hlt : j < s.size
    · by_cases hp : Pl.isLet s[j] = true
      · have HS : Hid (j + 1 + ((s.data.toList.drop (j + 1)).takeWhile Pl.isLet).length = n + ((s.data.toList.drop n).takeWhile Pl.isLet).length) := by
          have h1 := takeWhile_drop_yes Pl.isLet s.data.toList j (by simpa using hlt) hp
          have h2 := HE.out
          show _ = _
          omega
        clear HE
        go_wp2_with (go_at_call 91; refine (isLetter_any _ _).mono ?_; rintro e w' ⟨rfl, rfl⟩)
        go_round
        case rel => exact ⟨j + 1, by omega, by go_num, HS.out⟩
        case measure => simp [intOf]; omega
      · have hp' : Pl.isLet s[j] = false := by simpa using hp
        have HS : Hid (j = n + ((s.data.toList.drop n).takeWhile Pl.isLet).length) := by
          have h1 := takeWhile_drop_no Pl.isLet s.data.toList j (by simpa using hlt) hp'
          have h2 := HE.out
          show _ = _
          omega
        clear HE hp
        go_wp2_with (go_at_call 91; refine (isLetter_any _ _).mono ?_; rintro e w' ⟨rfl, rfl⟩)
        go_ret
        exact ⟨ret_int (by have := HS.out; omega), rfl⟩
    · have HS : Hid (j = n + ((s.data.toList.drop n).takeWhile Pl.isLet).length) := by
        have h2 := HE.out
        rw [List.drop_of_length_le (by simp; omega : s.data.toList.length ≤ j)] at h2
        simp at h2
        exact h2
      clear HE
      go_wp2_with (go_at_call 91; refine (isLetter_any _ _).mono ?_; rintro e w' ⟨rfl, rfl⟩)
      go_ret
      exact ⟨ret_int (by have := HS.out; omega), rfl⟩

theorem skip_isLetter_at (s : ByteArray) (i j : Nat) (w : World) (h1 : i ≤ s.size) (hs : s.size ≤ 400) (hj : j = i + ((s.data.toList.drop i).takeWhile Pl.isLet).length) :
    Calls Tryz.prog 89 #[.string s, .int .i64 i, .func (.func 91) #[] #[]] w fun e w' => e = .returned (.int .i64 j) ∧ w' = w := by
  refine (skip_isLetter s i w (by omega) (by omega) hs).mono ?_
  rintro e w' ⟨rfl, rfl⟩
  exact ⟨ret_int (by rw [hj]; simp), rfl⟩

set_option maxRecDepth 100000 in
set_option maxHeartbeats 400000 in
theorem skip_isDigit (s : ByteArray) (i : Int) (w : World) (h0 : 0 ≤ i) (h1 : i ≤ s.size) (hs : s.size ≤ 400) :
    Calls Tryz.prog 89 #[.string s, .int .i64 i, .func (.func 92) #[] #[]] w fun e w' => e = .returned (.int .i64 (i + ((s.data.toList.drop i.toNat).takeWhile Pl.isDig).length)) ∧ w' = w := by
  obtain ⟨n, rfl⟩ := Int.eq_ofNat_of_zero_le h0
  rw [Int.toNat_natCast]
  have hn : n ≤ s.size := by omega
  clear h0 h1
  go_enter Tryz.func89, Tryz.ntmps89
  go_wp2_with fail
  go_loop [1] (fun t => ∃ j : Nat, j ≤ s.size ∧ t = .int .i64 j ∧ j + ((s.data.toList.drop j).takeWhile Pl.isDig).length = n + ((s.data.toList.drop n).takeWhile Pl.isDig).length) (fun t => s.size - (intOf t).toNat)
  case atStart => exact ⟨n, hn, rfl, rfl⟩
  case round =>
    obtain ⟨j, hj, rfl, he⟩ := hrel
    have HE : Hid (j + ((s.data.toList.drop j).takeWhile Pl.isDig).length = n + ((s.data.toList.drop n).takeWhile Pl.isDig).length) := he
    clear he
    by_cases hlt : j < s.size
    · by_cases hp : Pl.isDig s[j] = true
      · have HS : Hid (j + 1 + ((s.data.toList.drop (j + 1)).takeWhile Pl.isDig).length = n + ((s.data.toList.drop n).takeWhile Pl.isDig).length) := by
          have h1 := takeWhile_drop_yes Pl.isDig s.data.toList j (by simpa using hlt) hp
          have h2 := HE.out
          show _ = _
          omega
        clear HE
        go_wp2_with (go_at_call 92; refine (isDigit_any _ _).mono ?_; rintro e w' ⟨rfl, rfl⟩)
        go_round
        case rel => exact ⟨j + 1, by omega, by go_num, HS.out⟩
        case measure => simp [intOf]; omega
      · have hp' : Pl.isDig s[j] = false := by simpa using hp
        have HS : Hid (j = n + ((s.data.toList.drop n).takeWhile Pl.isDig).length) := by
          have h1 := takeWhile_drop_no Pl.isDig s.data.toList j (by simpa using hlt) hp'
          have h2 := HE.out
          show _ = _
          omega
        clear HE hp
        go_wp2_with (go_at_call 92; refine (isDigit_any _ _).mono ?_; rintro e w' ⟨rfl, rfl⟩)
        go_ret
        exact ⟨ret_int (by have := HS.out; omega), rfl⟩
    · have HS : Hid (j = n + ((s.data.toList.drop n).takeWhile Pl.isDig).length) := by
        have h2 := HE.out
        rw [List.drop_of_length_le (by simp; omega : s.data.toList.length ≤ j)] at h2
        simp at h2
        exact h2
      clear HE
      go_wp2_with (go_at_call 92; refine (isDigit_any _ _).mono ?_; rintro e w' ⟨rfl, rfl⟩)
      go_ret
      exact ⟨ret_int (by have := HS.out; omega), rfl⟩

theorem skip_isDigit_at (s : ByteArray) (i j : Nat) (w : World) (h1 : i ≤ s.size) (hs : s.size ≤ 400) (hj : j = i + ((s.data.toList.drop i).takeWhile Pl.isDig).length) :
    Calls Tryz.prog 89 #[.string s, .int .i64 i, .func (.func 92) #[] #[]] w fun e w' => e = .returned (.int .i64 j) ∧ w' = w := by
  refine (skip_isDigit s i w (by omega) (by omega) hs).mono ?_
  rintro e w' ⟨rfl, rfl⟩
  exact ⟨ret_int (by rw [hj]; simp), rfl⟩

end Go.Proofs.YtkjhhooecopolaaGreatDoor

namespace Go.Proofs.YtkjhhooecopolaaGreatDoor
open Go.RowKit

/-- What the program's variables hold. -/
structure Gl (w : World) : Prop where
  sz : 6 ≤ w.heap.size
  es : ∃ tp p, w.var? Tryz.prog "strconv.ErrSyntax" = some #[.iface tp p]
  er : ∃ tp p, w.var? Tryz.prog "strconv.ErrRange" = some #[.iface tp p]
  tab : Lib.TabIs Tryz.prog w "internal/strconv.uint64pow10" .u64 Lib.pow10Tab

def tokCells (t : Pl.Tk) : Array Value := #[.int .i64 (Pl.pk t), .string ⟨(Pl.praw t).toArray⟩, .int .i64 t.n, .int .i64 t.pl]

theorem ret_agg {a b : Array Value} (h : a = b) : Ending.returned (.agg a) = .returned (.agg b) := by rw [h]

def NumberAtSaid : Prop := ∀ (s : ByteArray) (j : Nat) (w : World), j < s.size → s.size ≤ 400 → Gl w → (∀ h : j < s.size, Pl.isDig s[j] = true ∨ s[j].toNat = 45) →
    Calls Tryz.prog 93 #[.string s, .int .i64 j] w fun e w' => e = .returned (.agg (tokCells (Pl.tkBody (s.data.toList.drop j) j))) ∧ Below w.heap.size w w'

theorem cells_end (s : ByteArray) (j : Nat) (h : s.size ≤ j) : tokCells (Pl.tkBody (s.data.toList.drop j) j) = #[.int .i64 1, .string ⟨#[]⟩, .int .i64 0, .int .i64 j] := by
  rw [List.drop_of_length_le (by simp; omega)]; rfl

theorem cells_word (s : ByteArray) (j k : Nat) (h : j < s.size) (hl : Pl.isLet s[j] = true) (hk : k = j + ((s.data.toList.drop j).takeWhile Pl.isLet).length) :
    tokCells (Pl.tkBody (s.data.toList.drop j) j) = #[.int .i64 2, .string (s.extract j k), .int .i64 0, .int .i64 j] := by
  rw [Pl.extract_eq, hk, Nat.add_sub_cancel_left, Pl.take_takeWhile, Pl.drop_cons s j h]
  have h1 : ¬ (s[j].toNat = 40 ∨ s[j].toNat = 41 ∨ s[j].toNat = 44 ∨ s[j].toNat = 47) := by
    have := of_decide_eq_true hl; omega
  simp only [Pl.tkBody]
  rw [if_neg h1, if_pos hl]
  rfl

theorem cells_sign (s : ByteArray) (j : Nat) (h : j < s.size) (hl : s[j].toNat = 40 ∨ s[j].toNat = 41 ∨ s[j].toNat = 44) :
    tokCells (Pl.tkBody (s.data.toList.drop j) j) = #[.int .i64 4, .string (s.extract j (j + 1)), .int .i64 0, .int .i64 j] := by
  rw [Pl.extract_eq, Nat.add_sub_cancel_left, Pl.drop_cons s j h]
  have h1 : s[j].toNat = 40 ∨ s[j].toNat = 41 ∨ s[j].toNat = 44 ∨ s[j].toNat = 47 := by omega
  simp only [Pl.tkBody]
  rw [if_pos h1]
  have h2 : s[j].toNat ≠ 101 ∧ s[j].toNat ≠ 119 ∧ s[j].toNat ≠ 110 ∧ s[j].toNat ≠ 47 := by omega
  simp [tokCells, Pl.pk, Pl.praw, h2, hl]

theorem cells_stray (s : ByteArray) (j : Nat) (h : j < s.size) (h1 : ¬ (s[j].toNat = 40 ∨ s[j].toNat = 41 ∨ s[j].toNat = 44)) (h2 : Pl.isLet s[j] = false) (h3 : Pl.isDig s[j] = false) (h4 : s[j].toNat ≠ 45) :
    tokCells (Pl.tkBody (s.data.toList.drop j) j) = #[.int .i64 0, .string ⟨#[]⟩, .int .i64 0, .int .i64 j] := by
  rw [Pl.drop_cons s j h]
  simp only [Pl.tkBody]
  by_cases h5 : s[j].toNat = 47
  · rw [if_pos (by omega)]
    simp [tokCells, Pl.pk, Pl.praw, h5]
  · rw [if_neg (by omega), if_neg (by simp [h2]), if_neg h4]
    simp [h3, tokCells, Pl.pk, Pl.praw]

end Go.Proofs.YtkjhhooecopolaaGreatDoor
