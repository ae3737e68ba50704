import Derived.Test.YtmfnlpmlmgjleaaGreatDoorWb
import Derived.Lib.LaidTab
import Derived.Lib.ItoaNum
namespace Go.Proofs.YtmfnlpmlmgjleaaGreatDoor
open Go.RowKit

/-- What the program's variables hold. -/
structure Gl (w : World) : Prop where
  sz : 6 ≤ w.heap.size
  es : ∃ tp p, w.var? Tryz.prog "strconv.ErrSyntax" = some #[.iface tp p]
  er : ∃ tp p, w.var? Tryz.prog "strconv.ErrRange" = some #[.iface tp p]
  tab : Lib.TabIs Tryz.prog w "internal/strconv.uint64pow10" .u64 Lib.pow10Tab

def tokCells (t : Pl.Tk) : Array Value := #[.int .i64 (Pl.pk t), .string ⟨(Pl.praw t).toArray⟩, .int .i64 t.n, .int .i64 t.pl]

theorem ret_agg {a b : Array Value} (h : a = b) : Ending.returned (.agg a) = .returned (.agg b) := by rw [h]

def NumberAtSaid : Prop := ∀ (s : ByteArray) (j : Nat) (w : World), j < s.size → s.size ≤ 400 → Gl w → (∀ h : j < s.size, Pl.isDig s[j] = true ∨ s[j].toNat = 45) →
    Calls Tryz.prog 82 #[.string s, .int .i64 j] w fun e w' => e = .returned (.agg (tokCells (Pl.tkBody (s.data.toList.drop j) j))) ∧ Below w.heap.size w w'

theorem cells_end (s : ByteArray) (j : Nat) (h : s.size ≤ j) : tokCells (Pl.tkBody (s.data.toList.drop j) j) = #[.int .i64 1, .string ⟨#[]⟩, .int .i64 0, .int .i64 j] := by
  rw [List.drop_of_length_le (by simp; omega)]; rfl

theorem cells_word (s : ByteArray) (j k : Nat) (h : j < s.size) (hl : Pl.isLet s[j] = true) (hk : k = j + ((s.data.toList.drop j).takeWhile Pl.isLet).length) :
    tokCells (Pl.tkBody (s.data.toList.drop j) j) = #[.int .i64 2, .string (s.extract j k), .int .i64 0, .int .i64 j] := by
  rw [Pl.extract_eq, hk, Nat.add_sub_cancel_left, Pl.take_takeWhile, Pl.drop_cons s j h]
  have h1 : ¬ (s[j].toNat = 40 ∨ s[j].toNat = 41 ∨ s[j].toNat = 44 ∨ s[j].toNat = 47) := by
    have := of_decide_eq_true hl; omega
  simp only [Pl.tkBody]
  rw [if_neg h1, if_pos hl]
  rfl

theorem cells_sign (s : ByteArray) (j : Nat) (h : j < s.size) (hl : s[j].toNat = 40 ∨ s[j].toNat = 41 ∨ s[j].toNat = 44) :
    tokCells (Pl.tkBody (s.data.toList.drop j) j) = #[.int .i64 4, .string (s.extract j (j + 1)), .int .i64 0, .int .i64 j] := by
  rw [Pl.extract_eq, Nat.add_sub_cancel_left, Pl.drop_cons s j h]
  have h1 : s[j].toNat = 40 ∨ s[j].toNat = 41 ∨ s[j].toNat = 44 ∨ s[j].toNat = 47 := by omega
  simp only [Pl.tkBody]
  rw [if_pos h1]
  have h2 : s[j].toNat ≠ 101 ∧ s[j].toNat ≠ 119 ∧ s[j].toNat ≠ 110 ∧ s[j].toNat ≠ 47 := by omega
  simp [tokCells, Pl.pk, Pl.praw, h2, hl]

theorem cells_stray (s : ByteArray) (j : Nat) (h : j < s.size) (h1 : ¬ (s[j].toNat = 40 ∨ s[j].toNat = 41 ∨ s[j].toNat = 44)) (h2 : Pl.isLet s[j] = false) (h3 : Pl.isDig s[j] = false) (h4 : s[j].toNat ≠ 45) :
    tokCells (Pl.tkBody (s.data.toList.drop j) j) = #[.int .i64 0, .string ⟨#[]⟩, .int .i64 0, .int .i64 j] := by
  rw [Pl.drop_cons s j h]
  simp only [Pl.tkBody]
  by_cases h5 : s[j].toNat = 47
  · rw [if_pos (by omega)]
    simp [tokCells, Pl.pk, Pl.praw, h5]
  · rw [if_neg (by omega), if_neg (by simp [h2]), if_neg h4]
    simp [h3, tokCells, Pl.pk, Pl.praw]

end Go.Proofs.YtmfnlpmlmgjleaaGreatDoor
