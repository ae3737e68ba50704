import Derived.Test.YtkjhhooecopolaaGreatDoorKj01
import Derived.Test.YtkjhhooecopolaaGreatDoorShelfqK
import Derived.Lib.AtoiErrMem
import Derived.Lib.AtoiTie
namespace Go.Proofs.YtkjhhooecopolaaGreatDoor
open Go.RowKit

theorem atoi_any (s : ByteArray) (hs : s.size ≤ 400) (w : World) (hG : Gl w) :
    Calls Tryz.prog 147 #[.string s] w fun e w' => ∃ v o, e = .returned (.tuple #[.int .i64 v, o]) ∧ Below w.heap.size w w' ∧
      ((Lib.atoiAll s.data.toList = .ok v ∧ o = .nilIface) ∨ ((∀ v, Lib.atoiAll s.data.toList ≠ .ok v) ∧ ∃ t p, o = .iface t p)) := by
  cases h : Lib.atoiAll s.data.toList
  · rename_i v
    refine (Tryz.strconv_Atoi_ok s (by omega) v h w).mono ?_
    rintro e w' ⟨rfl, hw⟩
    refine ⟨v, _, rfl, ?_, Or.inl ⟨rfl, rfl⟩⟩
    rcases hw with rfl | ⟨t, rfl⟩
    · exact Below.refl _ _
    · exact Lib.bytesWorld_below _ _ _
  · obtain ⟨tp, p, hv⟩ := hG.es
    refine (Tryz.strconv_Atoi_syntax_var s (by omega) h tp p w hv).mono ?_
    rintro e w' ⟨N, rfl, _, _, hb⟩
    exact ⟨_, _, rfl, hb, Or.inr ⟨fun v hv => (by cases hv), _, _, rfl⟩⟩
  · obtain ⟨tp, p, hv⟩ := hG.er
    refine (Tryz.strconv_Atoi_range_var s (by omega) h tp p w hv).mono ?_
    rintro e w' ⟨N, rfl, _, _, hb⟩
    exact ⟨_, _, rfl, hb, Or.inr ⟨fun v hv => (by cases hv), _, _, rfl⟩⟩

theorem digitVal_of {c : UInt8} (h : Pl.isDig c = true) : Lib.digitVal c = some (c.toNat - 48) := by
  have h1 := of_decide_eq_true h
  unfold Lib.digitVal
  simp [h1]

theorem decFrom_of : ∀ (l : List UInt8) (acc : Nat), (∀ c ∈ l, Pl.isDig c = true) → Lib.decFrom acc l = some (l.foldl (fun a c => 10 * a + (c.toNat - 48)) acc)
  | [], acc, _ => rfl
  | c :: r, acc, h => by
    have hc := digitVal_of (h c (by simp))
    have ih := decFrom_of r (10 * acc + (c.toNat - 48)) (fun x hx => h x (by simp [hx]))
    simp only [Lib.decFrom, hc, List.foldl_cons]
    rw [← ih]
    simp [Nat.mul_comm]

theorem decNat_of (l : List UInt8) (hl : l ≠ []) (h : ∀ c ∈ l, Pl.isDig c = true) : Lib.decNat l = some (Pl.decv l) := by
  unfold Lib.decNat Pl.decv
  rw [if_neg (by simpa using hl)]
  exact decFrom_of l 0 h

theorem dig_mem (l : List UInt8) : ∀ c ∈ l.takeWhile Pl.isDig, Pl.isDig c = true := by
  induction l with
  | nil => intro c hc; simp at hc
  | cons a r ih =>
    intro c hc
    rw [List.takeWhile_cons] at hc
    split at hc
    · rcases List.mem_cons.1 hc with rfl | h
      · assumption
      · exact ih c h
    · simp at hc

end Go.Proofs.YtkjhhooecopolaaGreatDoor

namespace Go.Proofs.YtkjhhooecopolaaGreatDoor
open Go.RowKit

def strayAt (j : Nat) : Array Value := #[.int .i64 0, .string ⟨#[]⟩, .int .i64 0, .int .i64 j]

/-- A number's bytes: a sign or none, and all digits behind it. -/
def numRaw (neg : Bool) (c : UInt8) (r : List UInt8) : List UInt8 := if neg then c :: r.takeWhile Pl.isDig else (c :: r).takeWhile Pl.isDig
def numDigs (neg : Bool) (c : UInt8) (r : List UInt8) : List UInt8 := if neg then r.takeWhile Pl.isDig else (c :: r).takeWhile Pl.isDig
def numVal (neg : Bool) (c : UInt8) (r : List UInt8) : Int := if neg then - (Pl.decv (numDigs neg c r) : Int) else (Pl.decv (numDigs neg c r) : Int)

theorem atoi_num (neg : Bool) (c : UInt8) (r : List UInt8) (hc : if neg then c.toNat = 45 else Pl.isDig c = true) (hd : numDigs neg c r ≠ []) :
    Lib.atoi (numRaw neg c r) = some (numVal neg c r) := by
  cases neg
  · have h0 : Pl.isDig c = true := by simpa using hc
    have h1 := of_decide_eq_true h0
    have e : numRaw false c r = c :: r.takeWhile Pl.isDig := by simp [numRaw, h0]
    have e2 : numDigs false c r = c :: r.takeWhile Pl.isDig := by simp [numDigs, h0]
    have h45 : (c == 45) = false := by
      rw [beq_eq_false_iff_ne]; intro h; rw [h] at h1; simp at h1
    have h43 : (c == 43) = false := by
      rw [beq_eq_false_iff_ne]; intro h; rw [h] at h1; simp at h1
    have hn := decNat_of (c :: r.takeWhile Pl.isDig) (by simp) (by
      have := dig_mem (c :: r)
      simpa [h0] using this)
    rw [e]
    unfold numVal
    rw [e2]
    simp only [Lib.atoi, h45, h43, hn]
    simp
  · have h0 : c.toNat = 45 := by simpa using hc
    have h45 : (c == 45) = true := by
      rw [beq_iff_eq]; exact UInt8.toNat_inj.1 h0
    have hd' : r.takeWhile Pl.isDig ≠ [] := by simpa [numDigs] using hd
    have hn := decNat_of (r.takeWhile Pl.isDig) hd' (dig_mem r)
    have e : numRaw true c r = c :: r.takeWhile Pl.isDig := rfl
    have e2 : numDigs true c r = r.takeWhile Pl.isDig := rfl
    rw [e]
    unfold numVal
    rw [e2]
    simp only [Lib.atoi, h45, hn]
    simp

theorem raw_len (neg : Bool) (c : UInt8) (r : List UInt8) : (numRaw neg c r).length ≤ (numDigs neg c r).length + 1 := by
  cases neg <;> simp [numRaw, numDigs]

theorem tkBody_num (neg : Bool) (c : UInt8) (r : List UInt8) (j : Nat) (hc : if neg then c.toNat = 45 else Pl.isDig c = true) :
    Pl.tkBody (c :: r) j = if numDigs neg c r = [] ∨ 9 < (numDigs neg c r).length then ⟨120, [], 0, j⟩ else ⟨110, numRaw neg c r, numVal neg c r, j⟩ := by
  cases neg
  · have h0 : Pl.isDig c = true := by simpa using hc
    have h1 := of_decide_eq_true h0
    have h2 : ¬ (Pl.isLet c = true) := by
      intro h; have := of_decide_eq_true h; omega
    simp only [Pl.tkBody]
    rw [if_neg (by omega), if_neg h2, if_neg (by omega)]
    rfl
  · have h0 : c.toNat = 45 := by simpa using hc
    have h2 : ¬ (Pl.isLet c = true) := by
      intro h; have := of_decide_eq_true h; omega
    simp only [Pl.tkBody]
    rw [if_neg (by omega), if_neg h2, if_pos h0]
    rfl

theorem num_ok (neg : Bool) (c : UInt8) (r : List UInt8) (j : Nat) (v : Int) (hc : if neg then c.toNat = 45 else Pl.isDig c = true)
    (h : Lib.atoiAll (numRaw neg c r) = .ok v) (h9 : (numDigs neg c r).length ≤ 9) :
    tokCells (Pl.tkBody (c :: r) j) = #[.int .i64 3, .string ⟨(numRaw neg c r).toArray⟩, .int .i64 v, .int .i64 j] := by
  have hr := raw_len neg c r
  rw [Lib.atoiAll_short _ (by omega)] at h
  rw [tkBody_num neg c r j hc]
  by_cases hd : numDigs neg c r = []
  · exfalso
    cases neg
    · have h0 : Pl.isDig c = true := by simpa using hc
      simp [numDigs, h0] at hd
    · have e : numRaw true c r = [c] := by
        have : r.takeWhile Pl.isDig = [] := hd
        simp [numRaw, this]
      have h0 : c.toNat = 45 := by simpa using hc
      have h45 : (c == 45) = true := by
        rw [beq_iff_eq]; exact UInt8.toNat_inj.1 h0
      rw [e] at h
      simp [Lib.atoi, h45, Lib.decNat, Lib.NumEnd.ofOption] at h
  · rw [atoi_num neg c r hc hd] at h
    rw [if_neg (by rintro (h' | h'); exact hd h'; omega)]
    simp only [Lib.NumEnd.ofOption] at h
    injection h with h
    simp [tokCells, Pl.pk, Pl.praw, h]

theorem num_bad (neg : Bool) (c : UInt8) (r : List UInt8) (j : Nat) (hc : if neg then c.toNat = 45 else Pl.isDig c = true)
    (h : (∀ v, Lib.atoiAll (numRaw neg c r) ≠ .ok v) ∨ 9 < (numDigs neg c r).length) :
    tokCells (Pl.tkBody (c :: r) j) = strayAt j := by
  have hr := raw_len neg c r
  rw [tkBody_num neg c r j hc]
  by_cases hd : numDigs neg c r = [] ∨ 9 < (numDigs neg c r).length
  · rw [if_pos hd]; rfl
  · exfalso
    rcases h with h | h
    · apply h (numVal neg c r)
      rw [Lib.atoiAll_short _ (by omega), atoi_num neg c r hc (fun e => hd (Or.inl e))]
      rfl
    · omega

theorem num_extract (s : ByteArray) (j k : Nat) (neg : Bool) (h : j < s.size) (hc : if neg then s[j].toNat = 45 else Pl.isDig s[j] = true)
    (hk : k = (if neg then j + 1 else j) + ((s.data.toList.drop (if neg then j + 1 else j)).takeWhile Pl.isDig).length) :
    s.extract j k = ⟨(numRaw neg s[j] (s.data.toList.drop (j + 1))).toArray⟩ ∧ (numDigs neg s[j] (s.data.toList.drop (j + 1))).length = k - (if neg then j + 1 else j) := by
  rw [Pl.extract_eq, hk, Pl.drop_cons s j h]
  cases neg
  · simp only [Bool.false_eq_true, if_false, Nat.add_sub_cancel_left]
    rw [Pl.drop_cons s j h, Pl.take_takeWhile]
    exact ⟨rfl, rfl⟩
  · simp only [if_true, Nat.add_sub_cancel_left]
    rw [show j + 1 + ((s.data.toList.drop (j + 1)).takeWhile Pl.isDig).length - j = ((s.data.toList.drop (j + 1)).takeWhile Pl.isDig).length + 1 from by omega, List.take_succ_cons, Pl.take_takeWhile]
    exact ⟨rfl, rfl⟩

set_option maxRecDepth 100000 in
set_option maxHeartbeats 1000000 in
theorem numberAt_false (s : ByteArray) (j : Nat) (w : World) (hlt : j < s.size) (hs : s.size ≤ 400) (hG : Gl w) (hm : ((s[j].toNat : Int) == 45) = false) (hc : if false then s[j].toNat = 45 else Pl.isDig s[j] = true) :
    Calls Tryz.prog 93 #[.string s, .int .i64 j] w fun e w' => e = .returned (.agg (tokCells (Pl.tkBody (s.data.toList.drop j) j))) ∧ Below w.heap.size w w' := by
  obtain ⟨k, hk⟩ : ∃ k, k = j + ((s.data.toList.drop j).takeWhile Pl.isDig).length := ⟨_, rfl⟩
  have hk1 : j ≤ k ∧ k ≤ s.size := by
    have := (List.takeWhile_prefix Pl.isDig (l := s.data.toList.drop j)).length_le
    simp at this; omega
  obtain ⟨hx, hl⟩ := num_extract s j k false hlt hc (by simpa using hk)
  have HK : Hid (k = j + ((s.data.toList.drop j).takeWhile Pl.isDig).length) := hk
  have hl' : (numDigs false s[j] (s.data.toList.drop (j + 1))).length = k - j := by simpa using hl
  have HX : Hid (s.extract j k = ⟨(numRaw false s[j] (s.data.toList.drop (j + 1))).toArray⟩) := hx
  rw [Pl.drop_cons s j hlt]
  have hsz : (s.extract j k).size ≤ 400 := by simp [ByteArray.size_extract]; omega
  have HA : Hid (∀ w1, Gl w1 → Calls Tryz.prog 147 #[.string (s.extract j k)] w1 fun e w' => ∃ v o, e = .returned (.tuple #[.int .i64 v, o]) ∧ Below w1.heap.size w1 w' ∧
      ((k - j ≤ 9 → o = .nilIface → tokCells (Pl.tkBody (s[j] :: s.data.toList.drop (j + 1)) j) = #[.int .i64 3, .string (s.extract j k), .int .i64 v, .int .i64 j]) ∧
       ((o = .nilIface ∨ ∃ t p, o = .iface t p) ∧ ((9 < k - j ∨ ∃ t p, o = .iface t p) → tokCells (Pl.tkBody (s[j] :: s.data.toList.drop (j + 1)) j) = strayAt j)))) := fun w1 g1 => by
    refine (atoi_any _ hsz w1 g1).mono ?_
    rintro e w' ⟨v, o, rfl, hb, ho⟩
    refine ⟨v, o, rfl, hb, ?_⟩
    rw [hx] at ho ⊢
    simp only [] at ho
    rcases ho with ⟨hv, rfl⟩ | ⟨hv, t, p, rfl⟩
    · refine ⟨fun h9 _ => num_ok false s[j] _ j v hc hv (by omega), Or.inl rfl, ?_⟩
      rintro (h | ⟨t, p, h⟩)
      · exact num_bad false s[j] _ j hc (Or.inr (by omega))
      · cases h
    · refine ⟨fun _ h => (by cases h), Or.inr ⟨t, p, rfl⟩, fun _ => num_bad false s[j] _ j hc (Or.inl hv)⟩
  clear hx hl hl' hk hsz HX
  generalize tokCells (Pl.tkBody (s[j] :: s.data.toList.drop (j + 1)) j) = T at *
  clear hc
  go_enter Tryz.func93, Tryz.ntmps93
  go_wp2_with fail
  refine (skip_isDigit_at s j k _ (by omega) hs HK.out).mono ?_
  rintro e w' ⟨rfl, rfl⟩
  go_wp2_with fail
  refine (HA.out _ (hG.alloc _)).mono ?_
  rintro e w1 ⟨v, o, rfl, hb, h1, h2, h3⟩
  have H1 : Hid (k - j ≤ 9 → o = .nilIface → T = #[.int .i64 3, .string (s.extract j k), .int .i64 v, .int .i64 j]) := h1
  have H3 : Hid ((9 < k - j ∨ ∃ t p, o = .iface t p) → T = strayAt j) := h3
  clear h1 h3
  obtain ⟨hcc, hf⟩ := bcell hb
  have hz : w.heap.size < w1.heap.size := by have := hb.size; simp at this; omega
  rcases h2 with rfl | ⟨t, p, rfl⟩
  · by_cases h9 : k - j ≤ 9
    · have hT := H1.out h9 rfl
      subst hT
      clear H1 H3 HA
      go_wp2_with fail
      refine bodyPost_ret (v := .agg #[.int .i64 3, .string (s.extract j k), .int .i64 v, .int .i64 j]) (by simp [results, Tryz.results93, go_sem, hcc]) rfl ⟨rfl, ?_⟩
      exact ((((((Below.refl w.heap.size w).alloc (Nat.le_refl _) _).trans (hb.mono (by simp))).setCell (Nat.le_refl _) _).setCell (Nat.le_refl _) _).setCell (Nat.le_refl _) _).setCell (Nat.le_refl _) _
    · have hT := H3.out (Or.inl (by omega))
      unfold strayAt at hT
      subst hT
      clear H1 H3 HA
      go_wp2_with fail
      refine bodyPost_ret (v := .agg #[.int .i64 0, .string ⟨#[]⟩, .int .i64 0, .int .i64 j]) (by simp [results, Tryz.results93, go_sem, hcc]) rfl ⟨rfl, ?_⟩
      exact ((((((Below.refl w.heap.size w).alloc (Nat.le_refl _) _).trans (hb.mono (by simp))).setCell (Nat.le_refl _) _).setCell (Nat.le_refl _) _).setCell (Nat.le_refl _) _).setCell (Nat.le_refl _) _
  · have hT := H3.out (Or.inr ⟨t, p, rfl⟩)
    unfold strayAt at hT
    subst hT
    clear H1 H3 HA
    go_wp2_with fail
    refine bodyPost_ret (v := .agg #[.int .i64 0, .string ⟨#[]⟩, .int .i64 0, .int .i64 j]) (by simp [results, Tryz.results93, go_sem, hcc]) rfl ⟨rfl, ?_⟩
    exact ((((((Below.refl w.heap.size w).alloc (Nat.le_refl _) _).trans (hb.mono (by simp))).setCell (Nat.le_refl _) _).setCell (Nat.le_refl _) _).setCell (Nat.le_refl _) _).setCell (Nat.le_refl _) _

set_option maxRecDepth 100000 in
set_option maxHeartbeats 1000000 in
theorem numberAt_true (s : ByteArray) (j : Nat) (w : World) (hlt : j < s.size) (hs : s.size ≤ 400) (hG : Gl w) (hm : ((s[j].toNat : Int) == 45) = true) (hc : if true then s[j].toNat = 45 else Pl.isDig s[j] = true) :
    Calls Tryz.prog 93 #[.string s, .int .i64 j] w fun e w' => e = .returned (.agg (tokCells (Pl.tkBody (s.data.toList.drop j) j))) ∧ Below w.heap.size w w' := by
  obtain ⟨k, hk⟩ : ∃ k, k = (j + 1) + ((s.data.toList.drop (j + 1)).takeWhile Pl.isDig).length := ⟨_, rfl⟩
  have hk1 : (j + 1) ≤ k ∧ k ≤ s.size := by
    have := (List.takeWhile_prefix Pl.isDig (l := s.data.toList.drop (j + 1))).length_le
    simp at this; omega
  obtain ⟨hx, hl⟩ := num_extract s j k true hlt hc (by simpa using hk)
  have HK : Hid (k = (j + 1) + ((s.data.toList.drop (j + 1)).takeWhile Pl.isDig).length) := hk
  have hl' : (numDigs true s[j] (s.data.toList.drop (j + 1))).length = k - (j + 1) := by simpa using hl
  have HX : Hid (s.extract j k = ⟨(numRaw true s[j] (s.data.toList.drop (j + 1))).toArray⟩) := hx
  rw [Pl.drop_cons s j hlt]
  have hsz : (s.extract j k).size ≤ 400 := by simp [ByteArray.size_extract]; omega
  have HA : Hid (∀ w1, Gl w1 → Calls Tryz.prog 147 #[.string (s.extract j k)] w1 fun e w' => ∃ v o, e = .returned (.tuple #[.int .i64 v, o]) ∧ Below w1.heap.size w1 w' ∧
      ((k - (j + 1) ≤ 9 → o = .nilIface → tokCells (Pl.tkBody (s[j] :: s.data.toList.drop (j + 1)) j) = #[.int .i64 3, .string (s.extract j k), .int .i64 v, .int .i64 j]) ∧
       ((o = .nilIface ∨ ∃ t p, o = .iface t p) ∧ ((9 < k - (j + 1) ∨ ∃ t p, o = .iface t p) → tokCells (Pl.tkBody (s[j] :: s.data.toList.drop (j + 1)) j) = strayAt j)))) := fun w1 g1 => by
    refine (atoi_any _ hsz w1 g1).mono ?_
    rintro e w' ⟨v, o, rfl, hb, ho⟩
    refine ⟨v, o, rfl, hb, ?_⟩
    rw [hx] at ho ⊢
    simp only [] at ho
    rcases ho with ⟨hv, rfl⟩ | ⟨hv, t, p, rfl⟩
    · refine ⟨fun h9 _ => num_ok true s[j] _ j v hc hv (by omega), Or.inl rfl, ?_⟩
      rintro (h | ⟨t, p, h⟩)
      · exact num_bad true s[j] _ j hc (Or.inr (by omega))
      · cases h
    · refine ⟨fun _ h => (by cases h), Or.inr ⟨t, p, rfl⟩, fun _ => num_bad true s[j] _ j hc (Or.inl hv)⟩
  clear hx hl hl' hk hsz HX
  generalize tokCells (Pl.tkBody (s[j] :: s.data.toList.drop (j + 1)) j) = T at *
  clear hc
  go_enter Tryz.func93, Tryz.ntmps93
  go_wp2_with fail
  refine (skip_isDigit_at s (j + 1) k _ (by omega) hs HK.out).mono ?_
  rintro e w' ⟨rfl, rfl⟩
  go_wp2_with fail
  refine (HA.out _ (hG.alloc _)).mono ?_
  rintro e w1 ⟨v, o, rfl, hb, h1, h2, h3⟩
  have H1 : Hid (k - (j + 1) ≤ 9 → o = .nilIface → T = #[.int .i64 3, .string (s.extract j k), .int .i64 v, .int .i64 j]) := h1
  have H3 : Hid ((9 < k - (j + 1) ∨ ∃ t p, o = .iface t p) → T = strayAt j) := h3
  clear h1 h3
  obtain ⟨hcc, hf⟩ := bcell hb
  have hz : w.heap.size < w1.heap.size := by have := hb.size; simp at this; omega
  rcases h2 with rfl | ⟨t, p, rfl⟩
  · by_cases h9 : k - (j + 1) ≤ 9
    · have hT := H1.out h9 rfl
      subst hT
      clear H1 H3 HA
      go_wp2_with fail
      refine bodyPost_ret (v := .agg #[.int .i64 3, .string (s.extract j k), .int .i64 v, .int .i64 j]) (by simp [results, Tryz.results93, go_sem, hcc]) rfl ⟨rfl, ?_⟩
      exact ((((((Below.refl w.heap.size w).alloc (Nat.le_refl _) _).trans (hb.mono (by simp))).setCell (Nat.le_refl _) _).setCell (Nat.le_refl _) _).setCell (Nat.le_refl _) _).setCell (Nat.le_refl _) _
    · have hT := H3.out (Or.inl (by omega))
      unfold strayAt at hT
      subst hT
      clear H1 H3 HA
      go_wp2_with fail
      refine bodyPost_ret (v := .agg #[.int .i64 0, .string ⟨#[]⟩, .int .i64 0, .int .i64 j]) (by simp [results, Tryz.results93, go_sem, hcc]) rfl ⟨rfl, ?_⟩
      exact ((((((Below.refl w.heap.size w).alloc (Nat.le_refl _) _).trans (hb.mono (by simp))).setCell (Nat.le_refl _) _).setCell (Nat.le_refl _) _).setCell (Nat.le_refl _) _).setCell (Nat.le_refl _) _
  · have hT := H3.out (Or.inr ⟨t, p, rfl⟩)
    unfold strayAt at hT
    subst hT
    clear H1 H3 HA
    go_wp2_with fail
    refine bodyPost_ret (v := .agg #[.int .i64 0, .string ⟨#[]⟩, .int .i64 0, .int .i64 j]) (by simp [results, Tryz.results93, go_sem, hcc]) rfl ⟨rfl, ?_⟩
    exact ((((((Below.refl w.heap.size w).alloc (Nat.le_refl _) _).trans (hb.mono (by simp))).setCell (Nat.le_refl _) _).setCell (Nat.le_refl _) _).setCell (Nat.le_refl _) _).setCell (Nat.le_refl _) _

theorem numberAt_said : NumberAtSaid := by
  intro s j w hlt hs hG hd
  by_cases h : s[j].toNat = 45
  · exact numberAt_true s j w hlt hs hG (by simp; omega) (by simpa using h)
  · exact numberAt_false s j w hlt hs hG (by simp; omega) (by simpa using (hd hlt).resolve_right h)

end Go.Proofs.YtkjhhooecopolaaGreatDoor

namespace Go.Proofs.YtkjhhooecopolaaGreatDoor
open Go.RowKit

set_option maxHeartbeats 400000 in
theorem rIsLetter_any (c : UInt8) (w : World) :
    Calls Tryz.prog 85 #[.int .u8 c.toNat] w fun e w' => e = .returned (.bool (Pl.isLet c)) ∧ w' = w := by
  go_enter Tryz.func85, Tryz.ntmps85
  go_wp2
  all_goals
    go_ret
    refine ⟨ret_bool ?_, rfl⟩
    unfold Pl.isLet
    rw [Bool.eq_iff_iff]; simp; omega

set_option maxHeartbeats 400000 in
theorem rIsDigit_any (c : UInt8) (w : World) :
    Calls Tryz.prog 86 #[.int .u8 c.toNat] w fun e w' => e = .returned (.bool (Pl.isDig c)) ∧ w' = w := by
  go_enter Tryz.func86, Tryz.ntmps86
  go_wp2
  all_goals
    go_ret
    refine ⟨ret_bool ?_, rfl⟩
    unfold Pl.isDig
    rw [Bool.eq_iff_iff]; simp; omega

/-- How the reference lays a token: its kind, the bytes of a word or a sign, its number, its place. -/
def Pl.rS (t : Pl.Tk) : List UInt8 := if t.k = 110 then [] else t.raw
def refCells (t : Pl.Tk) : Array Value := #[.int .u8 t.k, .string ⟨(Pl.rS t).toArray⟩, .int .i64 t.n, .int .i64 t.pl]

set_option maxRecDepth 100000 in
set_option maxHeartbeats 1000000 in
theorem rToken_end (s : ByteArray) (i : Nat) (w : World) (hi : s.size ≤ i) (_hi2 : i ≤ 400) (_hs : s.size ≤ 400) :
    Calls Tryz.prog 57 #[.string s, .int .i64 i] w fun e w' => e = .returned (.tuple #[.agg (refCells ⟨101, [], 0, i⟩), .int .i64 i]) ∧ Below w.heap.size w w' := by
  go_enter Tryz.func57, Tryz.ntmps57
  go_wp2
  exact bodyPost_ret (v := .tuple #[.agg #[.int .u8 101, .string ⟨#[]⟩, .int .i64 0, .int .i64 i], .int .i64 i]) (by simp [results, Tryz.results57, go_sem]) rfl ⟨rfl, (Below.refl _ _).alloc (Nat.le_refl _) _⟩

set_option maxRecDepth 100000 in
set_option maxHeartbeats 1000000 in
theorem rToken_sign (s : ByteArray) (i : Nat) (w : World) (hi : i < s.size) (hs : s.size ≤ 400) (hc : s[i].toNat = 40 ∨ s[i].toNat = 41 ∨ s[i].toNat = 44 ∨ s[i].toNat = 47) :
    Calls Tryz.prog 57 #[.string s, .int .i64 i] w fun e w' => e = .returned (.tuple #[.agg #[.int .u8 s[i].toNat, .string (s.extract i (i + 1)), .int .i64 0, .int .i64 i], .int .i64 ((i + 1 : Nat) : Int)]) ∧ Below w.heap.size w w' := by
  have key : ∀ a b c d : Bool, ((s[i].toNat : Int) == 40) = a → ((s[i].toNat : Int) == 41) = b → ((s[i].toNat : Int) == 44) = c → ((s[i].toNat : Int) == 47) = d → (a || b || c || d) = true →
      Calls Tryz.prog 57 #[.string s, .int .i64 i] w fun e w' => e = .returned (.tuple #[.agg #[.int .u8 s[i].toNat, .string (s.extract i (i + 1)), .int .i64 0, .int .i64 i], .int .i64 ((i + 1 : Nat) : Int)]) ∧ Below w.heap.size w w' := by
    intro a b c d ha hb hc' hd hor
    clear hc
    cases a
    · cases b
      · cases c
        · cases d
          · cases hor
          · go_enter Tryz.func57, Tryz.ntmps57
            go_wp2
            exact bodyPost_ret (v := .tuple #[.agg #[.int .u8 s[i].toNat, .string (s.extract i (i + 1)), .int .i64 0, .int .i64 i], .int .i64 ((i + 1 : Nat) : Int)]) (by simp [results, Tryz.results57, go_sem]) rfl ⟨rfl, (Below.refl _ _).alloc (Nat.le_refl _) _⟩
        · go_enter Tryz.func57, Tryz.ntmps57
          go_wp2
          exact bodyPost_ret (v := .tuple #[.agg #[.int .u8 s[i].toNat, .string (s.extract i (i + 1)), .int .i64 0, .int .i64 i], .int .i64 ((i + 1 : Nat) : Int)]) (by simp [results, Tryz.results57, go_sem]) rfl ⟨rfl, (Below.refl _ _).alloc (Nat.le_refl _) _⟩
      · go_enter Tryz.func57, Tryz.ntmps57
        go_wp2
        exact bodyPost_ret (v := .tuple #[.agg #[.int .u8 s[i].toNat, .string (s.extract i (i + 1)), .int .i64 0, .int .i64 i], .int .i64 ((i + 1 : Nat) : Int)]) (by simp [results, Tryz.results57, go_sem]) rfl ⟨rfl, (Below.refl _ _).alloc (Nat.le_refl _) _⟩
    · go_enter Tryz.func57, Tryz.ntmps57
      go_wp2
      exact bodyPost_ret (v := .tuple #[.agg #[.int .u8 s[i].toNat, .string (s.extract i (i + 1)), .int .i64 0, .int .i64 i], .int .i64 ((i + 1 : Nat) : Int)]) (by simp [results, Tryz.results57, go_sem]) rfl ⟨rfl, (Below.refl _ _).alloc (Nat.le_refl _) _⟩
  refine key _ _ _ _ rfl rfl rfl rfl ?_
  simp
  omega

end Go.Proofs.YtkjhhooecopolaaGreatDoor
