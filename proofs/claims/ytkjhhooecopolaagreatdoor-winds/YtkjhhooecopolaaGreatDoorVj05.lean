import Derived.Test.YtkjhhooecopolaaGreatDoorVj04
namespace Go.Proofs.YtkjhhooecopolaaGreatDoor
open Go.RowKit

set_option maxHeartbeats 400000 in
theorem rIsLetter_any (c : UInt8) (w : World) :
    Calls Tryz.prog 85 #[.int .u8 c.toNat] w fun e w' => e = .returned (.bool (Pl.isLet c)) ∧ w' = w := by
  go_enter Tryz.func85, Tryz.ntmps85
  go_wp2
  all_goals
    go_ret
    refine ⟨ret_bool ?_, rfl⟩
    unfold Pl.isLet
    rw [Bool.eq_iff_iff]; simp; omega

set_option maxHeartbeats 400000 in
theorem rIsDigit_any (c : UInt8) (w : World) :
    Calls Tryz.prog 86 #[.int .u8 c.toNat] w fun e w' => e = .returned (.bool (Pl.isDig c)) ∧ w' = w := by
  go_enter Tryz.func86, Tryz.ntmps86
  go_wp2
  all_goals
    go_ret
    refine ⟨ret_bool ?_, rfl⟩
    unfold Pl.isDig
    rw [Bool.eq_iff_iff]; simp; omega

/-- How the reference lays a token: its kind, the bytes of a word or a sign, its number, its place. -/
def Pl.rS (t : Pl.Tk) : List UInt8 := if t.k = 110 then [] else t.raw
def refCells (t : Pl.Tk) : Array Value := #[.int .u8 t.k, .string ⟨(Pl.rS t).toArray⟩, .int .i64 t.n, .int .i64 t.pl]

set_option maxRecDepth 100000 in
set_option maxHeartbeats 1000000 in
theorem rToken_end (s : ByteArray) (i : Nat) (w : World) (hi : s.size ≤ i) (_hi2 : i ≤ 400) (_hs : s.size ≤ 400) :
    Calls Tryz.prog 57 #[.string s, .int .i64 i] w fun e w' => e = .returned (.tuple #[.agg (refCells ⟨101, [], 0, i⟩), .int .i64 i]) ∧ Below w.heap.size w w' := by
  go_enter Tryz.func57, Tryz.ntmps57
  go_wp2
  exact bodyPost_ret (v := .tuple #[.agg #[.int .u8 101, .string ⟨#[]⟩, .int .i64 0, .int .i64 i], .int .i64 i]) (by simp [results, Tryz.results57, go_sem]) rfl ⟨rfl, (Below.refl _ _).alloc (Nat.le_refl _) _⟩

set_option maxRecDepth 100000 in
set_option maxHeartbeats 1000000 in
theorem rToken_sign (s : ByteArray) (i : Nat) (w : World) (hi : i < s.size) (hs : s.size ≤ 400) (hc : s[i].toNat = 40 ∨ s[i].toNat = 41 ∨ s[i].toNat = 44 ∨ s[i].toNat = 47) :
    Calls Tryz.prog 57 #[.string s, .int .i64 i] w fun e w' => e = .returned (.tuple #[.agg #[.int .u8 s[i].toNat, .string (s.extract i (i + 1)), .int .i64 0, .int .i64 i], .int .i64 ((i + 1 : Nat) : Int)]) ∧ Below w.heap.size w w' := by
  have key : ∀ a b c d : Bool, ((s[i].toNat : Int) == 40) = a → ((s[i].toNat : Int) == 41) = b → ((s[i].toNat : Int) == 44) = c → ((s[i].toNat : Int) == 47) = d → (a || b || c || d) = true →
      Calls Tryz.prog 57 #[.string s, .int .i64 i] w fun e w' => e = .returned (.tuple #[.agg #[.int .u8 s[i].toNat, .string (s.extract i (i + 1)), .int .i64 0, .int .i64 i], .int .i64 ((i + 1 : Nat) : Int)]) ∧ Below w.heap.size w w' := by
    intro a b c d ha hb hc' hd hor
    clear hc
    cases a
    · cases b
      · cases c
        · cases d
          · cases hor
          · go_enter Tryz.func57, Tryz.ntmps57
            go_wp2
            exact bodyPost_ret (v := .tuple #[.agg #[.int .u8 s[i].toNat, .string (s.extract i (i + 1)), .int .i64 0, .int .i64 i], .int .i64 ((i + 1 : Nat) : Int)]) (by simp [results, Tryz.results57, go_sem]) rfl ⟨rfl, (Below.refl _ _).alloc (Nat.le_refl _) _⟩
        · go_enter Tryz.func57, Tryz.ntmps57
          go_wp2
          exact bodyPost_ret (v := .tuple #[.agg #[.int .u8 s[i].toNat, .string (s.extract i (i + 1)), .int .i64 0, .int .i64 i], .int .i64 ((i + 1 : Nat) : Int)]) (by simp [results, Tryz.results57, go_sem]) rfl ⟨rfl, (Below.refl _ _).alloc (Nat.le_refl _) _⟩
      · go_enter Tryz.func57, Tryz.ntmps57
        go_wp2
        exact bodyPost_ret (v := .tuple #[.agg #[.int .u8 s[i].toNat, .string (s.extract i (i + 1)), .int .i64 0, .int .i64 i], .int .i64 ((i + 1 : Nat) : Int)]) (by simp [results, Tryz.results57, go_sem]) rfl ⟨rfl, (Below.refl _ _).alloc (Nat.le_refl _) _⟩
    · go_enter Tryz.func57, Tryz.ntmps57
      go_wp2
      exact bodyPost_ret (v := .tuple #[.agg #[.int .u8 s[i].toNat, .string (s.extract i (i + 1)), .int .i64 0, .int .i64 i], .int .i64 ((i + 1 : Nat) : Int)]) (by simp [results, Tryz.results57, go_sem]) rfl ⟨rfl, (Below.refl _ _).alloc (Nat.le_refl _) _⟩
  refine key _ _ _ _ rfl rfl rfl rfl ?_
  simp
  omega

end Go.Proofs.YtkjhhooecopolaaGreatDoor

namespace Go.Proofs.YtkjhhooecopolaaGreatDoor
open Go.RowKit

theorem notSign {c : UInt8} (h : Pl.isLet c = true ∨ Pl.isDig c = true ∨ c.toNat = 45 ∨ ¬ (c.toNat = 40 ∨ c.toNat = 41 ∨ c.toNat = 44 ∨ c.toNat = 47)) :
    ((c.toNat : Int) == 40) = false ∧ ((c.toNat : Int) == 41) = false ∧ ((c.toNat : Int) == 44) = false ∧ ((c.toNat : Int) == 47) = false := by
  have h' : ¬ (c.toNat = 40 ∨ c.toNat = 41 ∨ c.toNat = 44 ∨ c.toNat = 47) := by
    rcases h with h | h | h | h
    · have := of_decide_eq_true h; omega
    · have := of_decide_eq_true h; omega
    · omega
    · exact h
  simp only [beq_eq_false_iff_ne]
  omega

set_option maxRecDepth 100000 in
set_option maxHeartbeats 1000000 in
theorem rToken_word (s : ByteArray) (i k : Nat) (w : World) (hi : i < s.size) (hs : s.size ≤ 400) (hl : Pl.isLet s[i] = true) (hk : k = i + ((s.data.toList.drop i).takeWhile Pl.isLet).length) :
    Calls Tryz.prog 57 #[.string s, .int .i64 i] w fun e w' => e = .returned (.tuple #[.agg #[.int .u8 119, .string (s.extract i k), .int .i64 0, .int .i64 i], .int .i64 k]) ∧ Below w.heap.size w w' := by
  obtain ⟨q1, q2, q3, q4⟩ := notSign (Or.inl hl)
  have hk1 : i ≤ k ∧ k ≤ s.size := by
    have := (List.takeWhile_prefix Pl.isLet (l := s.data.toList.drop i)).length_le
    simp at this; omega
  have HK : Hid (k = i + ((s.data.toList.drop i).takeWhile Pl.isLet).length) := hk
  clear hk
  go_enter Tryz.func57, Tryz.ntmps57
  go_wp2_with (go_at_call 85; refine (rIsLetter_any _ _).mono ?_; rintro e w' ⟨rfl, rfl⟩)
  go_loop [1] (fun t => ∃ j : Nat, i ≤ j ∧ j ≤ s.size ∧ t = .int .i64 j ∧ Hid (j + ((s.data.toList.drop j).takeWhile Pl.isLet).length = k)) (fun t => s.size - (intOf t).toNat)
  case atStart => exact ⟨i, Nat.le_refl _, by omega, rfl, HK.out.symm⟩
  case round =>
    obtain ⟨j, hij, hj, rfl, HE⟩ := hrel
    by_cases hlt : j < s.size
    · by_cases hp : Pl.isLet s[j] = true
      · have HS : Hid (j + 1 + ((s.data.toList.drop (j + 1)).takeWhile Pl.isLet).length = k) := by
          have h1 := takeWhile_drop_yes Pl.isLet s.data.toList j (by simpa using hlt) hp
          have h2 := HE.out
          show _ = _
          omega
        clear HE
        go_wp2_with (go_at_call 85; refine (rIsLetter_any _ _).mono ?_; rintro e w' ⟨rfl, rfl⟩)
        go_round
        case rel => exact ⟨j + 1, by omega, by omega, by go_num, HS⟩
        case measure => simp [intOf]; omega
      · have hp' : Pl.isLet s[j] = false := by simpa using hp
        have hjk : j = k := by
          have h1 := takeWhile_drop_no Pl.isLet s.data.toList j (by simpa using hlt) hp'
          have h2 := HE.out
          omega
        subst hjk
        clear HE hp HK
        go_wp2_with (go_at_call 85; refine (rIsLetter_any _ _).mono ?_; rintro e w' ⟨rfl, rfl⟩)
        exact bodyPost_ret (v := .tuple #[.agg #[.int .u8 119, .string (s.extract i j), .int .i64 0, .int .i64 i], .int .i64 j]) (by simp [results, Tryz.results57, go_sem]) rfl ⟨rfl, (Below.refl _ _).alloc (Nat.le_refl _) _⟩
    · have hjk : j = k := by
        have h2 := HE.out
        rw [List.drop_of_length_le (by simp; omega : s.data.toList.length ≤ j)] at h2
        simpa using h2
      subst hjk
      clear HE HK
      go_wp2_with (go_at_call 85; refine (rIsLetter_any _ _).mono ?_; rintro e w' ⟨rfl, rfl⟩)
      exact bodyPost_ret (v := .tuple #[.agg #[.int .u8 119, .string (s.extract i j), .int .i64 0, .int .i64 i], .int .i64 j]) (by simp [results, Tryz.results57, go_sem]) rfl ⟨rfl, (Below.refl _ _).alloc (Nat.le_refl _) _⟩

theorem decv_snoc (l : List UInt8) (c : UInt8) : Pl.decv (l ++ [c]) = 10 * Pl.decv l + (c.toNat - 48) := by simp [Pl.decv]

theorem decv_lt : ∀ (j : Nat) (l : List UInt8), (∀ c ∈ l, Pl.isDig c = true) → Pl.decv (l.take j) < 10 ^ j
  | 0, l, _ => by simp [Pl.decv]
  | j + 1, l, h => by
    have ih := decv_lt j l h
    by_cases hj : j < l.length
    · rw [List.take_succ_eq_append_getElem hj, decv_snoc]
      have := of_decide_eq_true (h l[j] (List.getElem_mem hj))
      rw [Nat.pow_succ]
      omega
    · have e : l.take (j + 1) = l.take j := by rw [List.take_of_length_le (by omega), List.take_of_length_le (by omega)]
      rw [e, Nat.pow_succ]
      omega

/-- The digits from place d on. -/
def digsAt (s : ByteArray) (d : Nat) : List UInt8 := (s.data.toList.drop d).takeWhile Pl.isDig

theorem digs_get (s : ByteArray) (d j : Nat) (hj : j < (digsAt s d).length) : ∃ h : d + j < s.size, (digsAt s d)[j] = s[d + j] ∧ Pl.isDig s[d + j] = true := by
  have hp := (List.takeWhile_prefix Pl.isDig (l := s.data.toList.drop d))
  have hl := hp.length_le
  simp at hl
  have hd : d + j < s.size := by unfold digsAt at hj; omega
  have e : (digsAt s d)[j] = s[d + j] := by
    have h1 := hp.getElem (i := j) hj
    unfold digsAt
    rw [h1]
    simp
    rfl
  refine ⟨hd, e, ?_⟩
  rw [← e]
  exact dig_mem _ _ (List.getElem_mem hj)

theorem digs_stop (s : ByteArray) (d : Nat) (h : d + (digsAt s d).length < s.size) : Pl.isDig s[d + (digsAt s d).length] = false := by
  have key : ∀ (l : List UInt8) (h : (l.takeWhile Pl.isDig).length < l.length), Pl.isDig l[(l.takeWhile Pl.isDig).length] = false := by
    intro l
    induction l with
    | nil => intro h; simp at h
    | cons a r ih =>
      intro h
      by_cases ha : Pl.isDig a = true
      · have e : ((a :: r).takeWhile Pl.isDig) = a :: r.takeWhile Pl.isDig := by simp [ha]
        simp only [e, List.length_cons] at h ⊢
        exact ih (by simpa using h)
      · have e : ((a :: r).takeWhile Pl.isDig) = [] := by simp [ha]
        simp only [e, List.length_nil]
        simpa using ha
  have h2 := key (s.data.toList.drop d) (by simp; unfold digsAt at h; omega)
  unfold digsAt at h ⊢
  rw [List.getElem_drop] at h2
  exact h2

end Go.Proofs.YtkjhhooecopolaaGreatDoor
