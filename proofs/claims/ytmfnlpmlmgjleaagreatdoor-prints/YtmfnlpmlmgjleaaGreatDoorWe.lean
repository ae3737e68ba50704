import Derived.Test.YtmfnlpmlmgjleaaGreatDoorWd
import Derived.Test.YtmfnlpmlmgjleaaGreatDoorShelf
import Derived.Lib.AtoiErrMem
import Derived.Lib.AtoiTie
namespace Go.Proofs.YtmfnlpmlmgjleaaGreatDoor
open Go.RowKit

theorem atoi_any (s : ByteArray) (hs : s.size ≤ 400) (w : World) (hG : Gl w) :
    Calls Tryz.prog 110 #[.string s] w fun e w' => ∃ v o, e = .returned (.tuple #[.int .i64 v, o]) ∧ Below w.heap.size w w' ∧
      ((Lib.atoiAll s.data.toList = .ok v ∧ o = .nilIface) ∨ ((∀ v, Lib.atoiAll s.data.toList ≠ .ok v) ∧ ∃ t p, o = .iface t p)) := by
  cases h : Lib.atoiAll s.data.toList
  · rename_i v
    refine (Tryz.strconv_Atoi_ok s (by omega) v h w).mono ?_
    rintro e w' ⟨rfl, hw⟩
    refine ⟨v, _, rfl, ?_, Or.inl ⟨rfl, rfl⟩⟩
    rcases hw with rfl | ⟨t, rfl⟩
    · exact Below.refl _ _
    · exact Lib.bytesWorld_below _ _ _
  · obtain ⟨tp, p, hv⟩ := hG.es
    refine (Tryz.strconv_Atoi_syntax_var s (by omega) h tp p w hv).mono ?_
    rintro e w' ⟨N, rfl, _, _, hb⟩
    exact ⟨_, _, rfl, hb, Or.inr ⟨fun v hv => (by cases hv), _, _, rfl⟩⟩
  · obtain ⟨tp, p, hv⟩ := hG.er
    refine (Tryz.strconv_Atoi_range_var s (by omega) h tp p w hv).mono ?_
    rintro e w' ⟨N, rfl, _, _, hb⟩
    exact ⟨_, _, rfl, hb, Or.inr ⟨fun v hv => (by cases hv), _, _, rfl⟩⟩

theorem digitVal_of {c : UInt8} (h : Pl.isDig c = true) : Lib.digitVal c = some (c.toNat - 48) := by
  have h1 := of_decide_eq_true h
  unfold Lib.digitVal
  simp [h1]

theorem decFrom_of : ∀ (l : List UInt8) (acc : Nat), (∀ c ∈ l, Pl.isDig c = true) → Lib.decFrom acc l = some (l.foldl (fun a c => 10 * a + (c.toNat - 48)) acc)
  | [], acc, _ => rfl
  | c :: r, acc, h => by
    have hc := digitVal_of (h c (by simp))
    have ih := decFrom_of r (10 * acc + (c.toNat - 48)) (fun x hx => h x (by simp [hx]))
    simp only [Lib.decFrom, hc, List.foldl_cons]
    rw [← ih]
    simp [Nat.mul_comm]

theorem decNat_of (l : List UInt8) (hl : l ≠ []) (h : ∀ c ∈ l, Pl.isDig c = true) : Lib.decNat l = some (Pl.decv l) := by
  unfold Lib.decNat Pl.decv
  rw [if_neg (by simpa using hl)]
  exact decFrom_of l 0 h

theorem dig_mem (l : List UInt8) : ∀ c ∈ l.takeWhile Pl.isDig, Pl.isDig c = true := by
  induction l with
  | nil => intro c hc; simp at hc
  | cons a r ih =>
    intro c hc
    rw [List.takeWhile_cons] at hc
    split at hc
    · rcases List.mem_cons.1 hc with rfl | h
      · assumption
      · exact ih c h
    · simp at hc

end Go.Proofs.YtmfnlpmlmgjleaaGreatDoor
