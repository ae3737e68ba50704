import Derived.Test.YtmfnlpmlmgjleaaGreatDoorWf
namespace Go.Proofs.YtmfnlpmlmgjleaaGreatDoor
open Go.RowKit

set_option maxHeartbeats 400000 in
theorem rIsLetter_any (c : UInt8) (w : World) :
    Calls Tryz.prog 105 #[.int .u8 c.toNat] w fun e w' => e = .returned (.bool (Pl.isLet c)) ∧ w' = w := by
  go_enter Tryz.func105, Tryz.ntmps105
  go_wp2
  all_goals
    go_ret
    refine ⟨ret_bool ?_, rfl⟩
    unfold Pl.isLet
    rw [Bool.eq_iff_iff]; simp; omega

set_option maxHeartbeats 400000 in
theorem rIsDigit_any (c : UInt8) (w : World) :
    Calls Tryz.prog 106 #[.int .u8 c.toNat] w fun e w' => e = .returned (.bool (Pl.isDig c)) ∧ w' = w := by
  go_enter Tryz.func106, Tryz.ntmps106
  go_wp2
  all_goals
    go_ret
    refine ⟨ret_bool ?_, rfl⟩
    unfold Pl.isDig
    rw [Bool.eq_iff_iff]; simp; omega

/-- How the reference lays a token: its kind, the bytes of a word or a sign, its number, its place. -/
def Pl.rS (t : Pl.Tk) : List UInt8 := if t.k = 110 then [] else t.raw
def refCells (t : Pl.Tk) : Array Value := #[.int .u8 t.k, .string ⟨(Pl.rS t).toArray⟩, .int .i64 t.n, .int .i64 t.pl]

set_option maxRecDepth 100000 in
set_option maxHeartbeats 1000000 in
theorem rToken_end (s : ByteArray) (i : Nat) (w : World) (hi : s.size ≤ i) (_hi2 : i ≤ 400) (_hs : s.size ≤ 400) :
    Calls Tryz.prog 68 #[.string s, .int .i64 i] w fun e w' => e = .returned (.tuple #[.agg (refCells ⟨101, [], 0, i⟩), .int .i64 i]) ∧ Below w.heap.size w w' := by
  go_enter Tryz.func68, Tryz.ntmps68
  go_wp2
  exact bodyPost_ret (v := .tuple #[.agg #[.int .u8 101, .string ⟨#[]⟩, .int .i64 0, .int .i64 i], .int .i64 i]) (by simp [results, Tryz.results68, go_sem]) rfl ⟨rfl, (Below.refl _ _).alloc (Nat.le_refl _) _⟩

set_option maxRecDepth 100000 in
set_option maxHeartbeats 1000000 in
theorem rToken_sign (s : ByteArray) (i : Nat) (w : World) (hi : i < s.size) (hs : s.size ≤ 400) (hc : s[i].toNat = 40 ∨ s[i].toNat = 41 ∨ s[i].toNat = 44 ∨ s[i].toNat = 47) :
    Calls Tryz.prog 68 #[.string s, .int .i64 i] w fun e w' => e = .returned (.tuple #[.agg #[.int .u8 s[i].toNat, .string (s.extract i (i + 1)), .int .i64 0, .int .i64 i], .int .i64 ((i + 1 : Nat) : Int)]) ∧ Below w.heap.size w w' := by
  have key : ∀ a b c d : Bool, ((s[i].toNat : Int) == 40) = a → ((s[i].toNat : Int) == 41) = b → ((s[i].toNat : Int) == 44) = c → ((s[i].toNat : Int) == 47) = d → (a || b || c || d) = true →
      Calls Tryz.prog 68 #[.string s, .int .i64 i] w fun e w' => e = .returned (.tuple #[.agg #[.int .u8 s[i].toNat, .string (s.extract i (i + 1)), .int .i64 0, .int .i64 i], .int .i64 ((i + 1 : Nat) : Int)]) ∧ Below w.heap.size w w' := by
    intro a b c d ha hb hc' hd hor
    clear hc
    cases a
    · cases b
      · cases c
        · cases d
          · cases hor
          · go_enter Tryz.func68, Tryz.ntmps68
            go_wp2
            exact bodyPost_ret (v := .tuple #[.agg #[.int .u8 s[i].toNat, .string (s.extract i (i + 1)), .int .i64 0, .int .i64 i], .int .i64 ((i + 1 : Nat) : Int)]) (by simp [results, Tryz.results68, go_sem]) rfl ⟨rfl, (Below.refl _ _).alloc (Nat.le_refl _) _⟩
        · go_enter Tryz.func68, Tryz.ntmps68
          go_wp2
          exact bodyPost_ret (v := .tuple #[.agg #[.int .u8 s[i].toNat, .string (s.extract i (i + 1)), .int .i64 0, .int .i64 i], .int .i64 ((i + 1 : Nat) : Int)]) (by simp [results, Tryz.results68, go_sem]) rfl ⟨rfl, (Below.refl _ _).alloc (Nat.le_refl _) _⟩
      · go_enter Tryz.func68, Tryz.ntmps68
        go_wp2
        exact bodyPost_ret (v := .tuple #[.agg #[.int .u8 s[i].toNat, .string (s.extract i (i + 1)), .int .i64 0, .int .i64 i], .int .i64 ((i + 1 : Nat) : Int)]) (by simp [results, Tryz.results68, go_sem]) rfl ⟨rfl, (Below.refl _ _).alloc (Nat.le_refl _) _⟩
    · go_enter Tryz.func68, Tryz.ntmps68
      go_wp2
      exact bodyPost_ret (v := .tuple #[.agg #[.int .u8 s[i].toNat, .string (s.extract i (i + 1)), .int .i64 0, .int .i64 i], .int .i64 ((i + 1 : Nat) : Int)]) (by simp [results, Tryz.results68, go_sem]) rfl ⟨rfl, (Below.refl _ _).alloc (Nat.le_refl _) _⟩
  refine key _ _ _ _ rfl rfl rfl rfl ?_
  simp
  omega

end Go.Proofs.YtmfnlpmlmgjleaaGreatDoor
