import Derived.Test.YtmfnlpmlmgjleaaGreatDoorRe
import Derived.Deep.RegionHeld3
namespace Go.Proofs.YtmfnlpmlmgjleaaGreatDoor
open Go.RowKit

theorem Fp.alloc {pb : Nat} {a w : World} (h : Fp pb a w) (o : Obj) : Fp pb a (w.alloc o) :=
  ⟨h.os, h.tape, h.output, by simp; exact Nat.le_succ_of_le h.size, fun k hk hne => (Below.heap_alloc _ _ _ (Nat.lt_of_lt_of_le hk h.size)).trans (h.block k hk hne)⟩
theorem Fp.drew {pb : Nat} {a w : World} (h : Fp pb a w) : Fp pb a w.drew := ⟨h.os, h.tape, h.output, h.size, h.block⟩

set_option maxRecDepth 100000 in
set_option maxHeartbeats 1000000 in
theorem word_yes (pb tb cap : Nat) (A r : List Pl.Tk) (t : Pl.Tk) (w : World) (q : ByteArray) (hP : PS pb tb cap A (t :: r) false w) (hl : A.length ≤ 402) (hk : t.k = 119) (hq : (⟨t.raw.toArray⟩ : ByteArray) = q) :
    Calls Tryz.prog 39 #[.pointer (some ⟨pb, 0, none⟩), .string q] w fun e w' => e = .returned (.bool true) ∧ PS pb tb cap A r false w' ∧ Fp pb w w' := by
  obtain ⟨c, hc, hb, e0, e1, e2, e3, hcl, htb⟩ := hP.cells
  have HC : Hid (c ++ t :: r = A) := hc
  have c0 : w.cell? ⟨pb, 0, none⟩ = some (.slice (some ⟨tb, 0, none⟩) A.length cap) := cell_of hb 0
  have c1 : w.cell? ⟨pb, 1, none⟩ = some (.int .i64 c.length) := cell_of hb 1
  have c2 : w.cell? ⟨pb, 2, none⟩ = some (.bool false) := cell_of hb 2
  have c3 : w.cell? ⟨pb, 3, none⟩ = some (.int .i64 (outOf c)) := cell_of hb 3
  have f1 : w.frozen? ⟨pb, 1, none⟩ = false := frozen_of hb 1
  have f2 : w.frozen? ⟨pb, 2, none⟩ = false := frozen_of hb 2
  have f3 : w.frozen? ⟨pb, 3, none⟩ = false := frozen_of hb 3
  have hib : (c.length : Int) < (A.length : Int) := by omega
  have hpb : pb < w.heap.size := lt_of_heap hb
  clear hc
  have HO : Hid (outOf (c ++ [t]) = outOf c) := outOf_snoc c t (by omega)
  have hrs : Pl.rS t = t.raw := by unfold Pl.rS; rw [if_neg (by omega)]
  rw [hrs, hq] at e1
  rw [hk] at e0
  clear hk hq hrs
  go_enter Tryz.func39, Tryz.ntmps39
  go_wp2_with fail
  go_quiet (fail)
  go_wp2_with fail
  go_ret
  refine ⟨rfl, hP.put (c ++ [t]) (by rw [← HC.out]; simp) (fun k hk hne => heap_set_ne hne _) ?_, ((Fp.refl pb w).drewN nq).set 1 _⟩
  have q := heap_set (w := w.drewN nq) (o := 1) hb (.int .i64 ((c.length : Int) + 1))
  rw [HO.out]
  simpa using q

set_option maxRecDepth 100000 in
set_option maxHeartbeats 1000000 in
theorem word_no1 (pb tb cap : Nat) (A r : List Pl.Tk) (t : Pl.Tk) (w : World) (q : ByteArray) (hP : PS pb tb cap A (t :: r) false w) (_hl : A.length ≤ 402) (hk : t.k ≠ 119) :
    Calls Tryz.prog 39 #[.pointer (some ⟨pb, 0, none⟩), .string q] w fun e w' => e = .returned (.bool false) ∧ ∃ n, w' = w.drewN n := by
  obtain ⟨c, hc, hb, e0, e1, e2, e3, hcl, htb⟩ := hP.cells
  have HC : Hid (c ++ t :: r = A) := hc
  have c0 : w.cell? ⟨pb, 0, none⟩ = some (.slice (some ⟨tb, 0, none⟩) A.length cap) := cell_of hb 0
  have c1 : w.cell? ⟨pb, 1, none⟩ = some (.int .i64 c.length) := cell_of hb 1
  have c2 : w.cell? ⟨pb, 2, none⟩ = some (.bool false) := cell_of hb 2
  have c3 : w.cell? ⟨pb, 3, none⟩ = some (.int .i64 (outOf c)) := cell_of hb 3
  have f1 : w.frozen? ⟨pb, 1, none⟩ = false := frozen_of hb 1
  have f2 : w.frozen? ⟨pb, 2, none⟩ = false := frozen_of hb 2
  have f3 : w.frozen? ⟨pb, 3, none⟩ = false := frozen_of hb 3
  have hib : (c.length : Int) < (A.length : Int) := by omega
  have hpb : pb < w.heap.size := lt_of_heap hb
  clear hc
  have hkb : ((t.k : Int) == 119) = false := by rw [beq_eq_false_iff_ne]; omega
  clear hk
  go_enter Tryz.func39, Tryz.ntmps39
  go_wp2_with fail
  go_quiet (fail)
  go_wp2_with fail
  go_ret
  exact ⟨rfl, _, rfl⟩

set_option maxRecDepth 100000 in
set_option maxHeartbeats 1000000 in
theorem word_no2 (pb tb cap : Nat) (A r : List Pl.Tk) (t : Pl.Tk) (w : World) (q : ByteArray) (hP : PS pb tb cap A (t :: r) false w) (_hl : A.length ≤ 402) (hk : t.k = 119) (hq : ((⟨t.raw.toArray⟩ : ByteArray).toList == q.toList) = false) :
    Calls Tryz.prog 39 #[.pointer (some ⟨pb, 0, none⟩), .string q] w fun e w' => e = .returned (.bool false) ∧ ∃ n, w' = w.drewN n := by
  obtain ⟨c, hc, hb, e0, e1, e2, e3, hcl, htb⟩ := hP.cells
  have HC : Hid (c ++ t :: r = A) := hc
  have c0 : w.cell? ⟨pb, 0, none⟩ = some (.slice (some ⟨tb, 0, none⟩) A.length cap) := cell_of hb 0
  have c1 : w.cell? ⟨pb, 1, none⟩ = some (.int .i64 c.length) := cell_of hb 1
  have c2 : w.cell? ⟨pb, 2, none⟩ = some (.bool false) := cell_of hb 2
  have c3 : w.cell? ⟨pb, 3, none⟩ = some (.int .i64 (outOf c)) := cell_of hb 3
  have f1 : w.frozen? ⟨pb, 1, none⟩ = false := frozen_of hb 1
  have f2 : w.frozen? ⟨pb, 2, none⟩ = false := frozen_of hb 2
  have f3 : w.frozen? ⟨pb, 3, none⟩ = false := frozen_of hb 3
  have hib : (c.length : Int) < (A.length : Int) := by omega
  have hpb : pb < w.heap.size := lt_of_heap hb
  clear hc
  have hrs : Pl.rS t = t.raw := by unfold Pl.rS; rw [if_neg (by omega)]
  rw [hrs] at e1
  rw [hk] at e0
  clear hk hrs
  generalize (⟨t.raw.toArray⟩ : ByteArray) = rw' at *
  go_enter Tryz.func39, Tryz.ntmps39
  go_wp2_with fail
  go_quiet (fail)
  go_wp2_with fail
  go_ret
  exact ⟨rfl, _, rfl⟩

set_option maxRecDepth 100000 in
set_option maxHeartbeats 1000000 in
theorem number_bad (pb tb cap : Nat) (A r : List Pl.Tk) (t : Pl.Tk) (w : World) (hP : PS pb tb cap A (t :: r) true w) (_hl : A.length ≤ 402) :
    Calls Tryz.prog 128 #[.pointer (some ⟨pb, 0, none⟩)] w fun e w' => e = .returned (.int .i64 0) ∧ PS pb tb cap A (t :: r) true w' ∧ Fp pb w w' := by
  obtain ⟨c, hc, hb, e0, e1, e2, e3, hcl, htb⟩ := hP.cells
  have HC : Hid (c ++ t :: r = A) := hc
  have c0 : w.cell? ⟨pb, 0, none⟩ = some (.slice (some ⟨tb, 0, none⟩) A.length cap) := cell_of hb 0
  have c1 : w.cell? ⟨pb, 1, none⟩ = some (.int .i64 c.length) := cell_of hb 1
  have c2 : w.cell? ⟨pb, 2, none⟩ = some (.bool true) := cell_of hb 2
  have c3 : w.cell? ⟨pb, 3, none⟩ = some (.int .i64 (outOf c)) := cell_of hb 3
  have f1 : w.frozen? ⟨pb, 1, none⟩ = false := frozen_of hb 1
  have f2 : w.frozen? ⟨pb, 2, none⟩ = false := frozen_of hb 2
  have f3 : w.frozen? ⟨pb, 3, none⟩ = false := frozen_of hb 3
  have hib : (c.length : Int) < (A.length : Int) := by omega
  have hpb : pb < w.heap.size := lt_of_heap hb
  clear hc
  have n0 := World.new_ne w _ c0
  have n1 := World.new_ne w _ c1
  have n2 := World.new_ne w _ e0
  have n3 := World.new_ne w _ e1
  have n4 := World.new_ne w _ e2
  have n5 := World.new_ne w _ e3
  go_enter Tryz.func128, Tryz.ntmps128
  go_wp2_with fail
  go_region_held3 (fun w' => w'.cell? ⟨pb, 0, none⟩ = some (.slice (some ⟨tb, 0, none⟩) A.length cap) ∧ w'.cell? ⟨pb, 1, none⟩ = some (.int .i64 c.length) ∧ w'.cell? ⟨tb, c.length * 4, none⟩ = some (.int .u8 t.k) ∧ w'.cell? ⟨tb, c.length * 4 + 1, none⟩ = some (.string ⟨(Pl.rS t).toArray⟩) ∧ w'.cell? ⟨tb, c.length * 4 + 2, none⟩ = some (.int .i64 t.n) ∧ w'.cell? ⟨tb, c.length * 4 + 3, none⟩ = some (.int .i64 t.pl)) (go_keep) (fail)
  go_wp2_with fail
  go_ret
  refine ⟨rfl, hP.put c HC.out (fun k hk hne => (Below.heap_alloc _ _ _ (by simp; exact hk)).trans (heap_set_ne hne _)) ?_, (((Fp.refl pb w).set 2 _).alloc _).drew⟩
  exact (Below.heap_alloc _ _ _ (by simp; exact hpb)).trans (heap_set (o := 2) hb (.bool true))

set_option maxRecDepth 100000 in
set_option maxHeartbeats 1000000 in
theorem number_no (pb tb cap : Nat) (A r : List Pl.Tk) (t : Pl.Tk) (w : World) (hP : PS pb tb cap A (t :: r) false w) (_hl : A.length ≤ 402) (hk : t.k ≠ 110) :
    Calls Tryz.prog 128 #[.pointer (some ⟨pb, 0, none⟩)] w fun e w' => e = .returned (.int .i64 0) ∧ PS pb tb cap A (t :: r) true w' ∧ Fp pb w w' := by
  obtain ⟨c, hc, hb, e0, e1, e2, e3, hcl, htb⟩ := hP.cells
  have HC : Hid (c ++ t :: r = A) := hc
  have c0 : w.cell? ⟨pb, 0, none⟩ = some (.slice (some ⟨tb, 0, none⟩) A.length cap) := cell_of hb 0
  have c1 : w.cell? ⟨pb, 1, none⟩ = some (.int .i64 c.length) := cell_of hb 1
  have c2 : w.cell? ⟨pb, 2, none⟩ = some (.bool false) := cell_of hb 2
  have c3 : w.cell? ⟨pb, 3, none⟩ = some (.int .i64 (outOf c)) := cell_of hb 3
  have f1 : w.frozen? ⟨pb, 1, none⟩ = false := frozen_of hb 1
  have f2 : w.frozen? ⟨pb, 2, none⟩ = false := frozen_of hb 2
  have f3 : w.frozen? ⟨pb, 3, none⟩ = false := frozen_of hb 3
  have hib : (c.length : Int) < (A.length : Int) := by omega
  have hpb : pb < w.heap.size := lt_of_heap hb
  clear hc
  have hkb : ((t.k : Int) != 110) = true := by rw [bne_iff_ne]; omega
  clear hk
  have n0 := World.new_ne w _ c0
  have n1 := World.new_ne w _ c1
  have n2 := World.new_ne w _ e0
  have n3 := World.new_ne w _ e1
  have n4 := World.new_ne w _ e2
  have n5 := World.new_ne w _ e3
  go_enter Tryz.func128, Tryz.ntmps128
  go_wp2_with fail
  go_region_held3 (fun w' => w'.cell? ⟨pb, 0, none⟩ = some (.slice (some ⟨tb, 0, none⟩) A.length cap) ∧ w'.cell? ⟨pb, 1, none⟩ = some (.int .i64 c.length) ∧ w'.cell? ⟨tb, c.length * 4, none⟩ = some (.int .u8 t.k) ∧ w'.cell? ⟨tb, c.length * 4 + 1, none⟩ = some (.string ⟨(Pl.rS t).toArray⟩) ∧ w'.cell? ⟨tb, c.length * 4 + 2, none⟩ = some (.int .i64 t.n) ∧ w'.cell? ⟨tb, c.length * 4 + 3, none⟩ = some (.int .i64 t.pl)) (go_keep) (fail)
  go_wp2_with fail
  go_ret
  refine ⟨rfl, hP.put c HC.out (fun k hk hne => (Below.heap_alloc _ _ _ (by simp; exact hk)).trans (heap_set_ne hne _)) ?_, (((Fp.refl pb w).set 2 _).alloc _).drew⟩
  exact (Below.heap_alloc _ _ _ (by simp; exact hpb)).trans (heap_set (o := 2) hb (.bool true))

set_option maxRecDepth 100000 in
set_option maxHeartbeats 1000000 in
theorem number_yesA (pb tb cap : Nat) (A r : List Pl.Tk) (t : Pl.Tk) (w : World) (hP : PS pb tb cap A (t :: r) false w) (hl : A.length ≤ 402) (hk : t.k = 110) (ho : ∀ c : List Pl.Tk, c ++ t :: r = A → 0 ≤ outOf c) :
    Calls Tryz.prog 128 #[.pointer (some ⟨pb, 0, none⟩)] w fun e w' => e = .returned (.int .i64 t.n) ∧ PS pb tb cap A r false w' ∧ Fp pb w w' := by
  obtain ⟨c, hc, hb, e0, e1, e2, e3, hcl, htb⟩ := hP.cells
  have HC : Hid (c ++ t :: r = A) := hc
  have c0 : w.cell? ⟨pb, 0, none⟩ = some (.slice (some ⟨tb, 0, none⟩) A.length cap) := cell_of hb 0
  have c1 : w.cell? ⟨pb, 1, none⟩ = some (.int .i64 c.length) := cell_of hb 1
  have c2 : w.cell? ⟨pb, 2, none⟩ = some (.bool false) := cell_of hb 2
  have c3 : w.cell? ⟨pb, 3, none⟩ = some (.int .i64 (outOf c)) := cell_of hb 3
  have f1 : w.frozen? ⟨pb, 1, none⟩ = false := frozen_of hb 1
  have f2 : w.frozen? ⟨pb, 2, none⟩ = false := frozen_of hb 2
  have f3 : w.frozen? ⟨pb, 3, none⟩ = false := frozen_of hb 3
  have hib : (c.length : Int) < (A.length : Int) := by omega
  have hpb : pb < w.heap.size := lt_of_heap hb
  clear hc
  rw [hk] at e0
  have hoc := ho c HC.out
  have hd : decide (outOf c < 0) = false := by simp; omega
  have HO : Hid (outOf (c ++ [t]) = outOf c) := by
    show _ = _
    unfold outOf at hoc ⊢
    rw [List.find?_append]
    cases h1 : c.find? outT with
    | some u => rfl
    | none => rw [h1] at hoc; simp at hoc
  generalize outOf c = oc at *
  clear hk
  have n0 := World.new_ne w _ c0
  have n1 := World.new_ne w _ c1
  have n2 := World.new_ne w _ e0
  have n3 := World.new_ne w _ e1
  have n4 := World.new_ne w _ e2
  have n5 := World.new_ne w _ e3
  go_enter Tryz.func128, Tryz.ntmps128
  go_wp2_with fail
  go_region_held3 (fun w' => w'.cell? ⟨pb, 0, none⟩ = some (.slice (some ⟨tb, 0, none⟩) A.length cap) ∧ w'.cell? ⟨pb, 1, none⟩ = some (.int .i64 c.length) ∧ w'.cell? ⟨tb, c.length * 4, none⟩ = some (.int .u8 110) ∧ w'.cell? ⟨tb, c.length * 4 + 1, none⟩ = some (.string ⟨(Pl.rS t).toArray⟩) ∧ w'.cell? ⟨tb, c.length * 4 + 2, none⟩ = some (.int .i64 t.n) ∧ w'.cell? ⟨tb, c.length * 4 + 3, none⟩ = some (.int .i64 t.pl)) (go_keep) (fail)
  go_wp2_with fail
  go_ret
  refine ⟨rfl, hP.put (c ++ [t]) (by rw [← HC.out]; simp) (fun k hk hne => (Below.heap_alloc _ _ _ (by simp; exact hk)).trans (heap_set_ne hne _)) ?_, (((Fp.refl pb w).set 1 _).alloc _).drew⟩
  have q := (Below.heap_alloc _ (.cells #[.int .u8 110, .string ⟨(Pl.rS t).toArray⟩, .int .i64 t.n, .int .i64 t.pl] 102) _ (by simp; exact hpb)).trans (heap_set (w := w) (o := 1) hb (.int .i64 ((c.length : Int) + 1)))
  rw [HO.out]
  simp only [List.length_append, List.length_cons, List.length_nil]
  exact q

set_option maxRecDepth 100000 in
set_option maxHeartbeats 1000000 in
theorem number_yesB (pb tb cap : Nat) (A r : List Pl.Tk) (t : Pl.Tk) (w : World) (hP : PS pb tb cap A (t :: r) false w) (hl : A.length ≤ 402) (hk : t.k = 110) (ho : ∀ c : List Pl.Tk, c ++ t :: r = A → outOf c < 0) (hin : inR 50 t.n = true) :
    Calls Tryz.prog 128 #[.pointer (some ⟨pb, 0, none⟩)] w fun e w' => e = .returned (.int .i64 t.n) ∧ PS pb tb cap A r false w' ∧ Fp pb w w' := by
  obtain ⟨c, hc, hb, e0, e1, e2, e3, hcl, htb⟩ := hP.cells
  have HC : Hid (c ++ t :: r = A) := hc
  have c0 : w.cell? ⟨pb, 0, none⟩ = some (.slice (some ⟨tb, 0, none⟩) A.length cap) := cell_of hb 0
  have c1 : w.cell? ⟨pb, 1, none⟩ = some (.int .i64 c.length) := cell_of hb 1
  have c2 : w.cell? ⟨pb, 2, none⟩ = some (.bool false) := cell_of hb 2
  have c3 : w.cell? ⟨pb, 3, none⟩ = some (.int .i64 (outOf c)) := cell_of hb 3
  have f1 : w.frozen? ⟨pb, 1, none⟩ = false := frozen_of hb 1
  have f2 : w.frozen? ⟨pb, 2, none⟩ = false := frozen_of hb 2
  have f3 : w.frozen? ⟨pb, 3, none⟩ = false := frozen_of hb 3
  have hib : (c.length : Int) < (A.length : Int) := by omega
  have hpb : pb < w.heap.size := lt_of_heap hb
  clear hc
  rw [hk] at e0
  have hoc := ho c HC.out
  have hr := of_decide_eq_true hin
  obtain ⟨hr1, hr2⟩ := hr
  have HO : Hid (outOf (c ++ [t]) = outOf c) := by
    show _ = _
    unfold outOf at hoc ⊢
    rw [List.find?_append]
    cases h1 : c.find? outT with
    | some u => rfl
    | none => simp [outT, hin]
  generalize outOf c = oc at *
  clear hin
  clear hk
  have n0 := World.new_ne w _ c0
  have n1 := World.new_ne w _ c1
  have n2 := World.new_ne w _ e0
  have n3 := World.new_ne w _ e1
  have n4 := World.new_ne w _ e2
  have n5 := World.new_ne w _ e3
  go_enter Tryz.func128, Tryz.ntmps128
  go_wp2_with fail
  go_region_held3 (fun w' => w'.cell? ⟨pb, 0, none⟩ = some (.slice (some ⟨tb, 0, none⟩) A.length cap) ∧ w'.cell? ⟨pb, 1, none⟩ = some (.int .i64 c.length) ∧ w'.cell? ⟨tb, c.length * 4, none⟩ = some (.int .u8 110) ∧ w'.cell? ⟨tb, c.length * 4 + 1, none⟩ = some (.string ⟨(Pl.rS t).toArray⟩) ∧ w'.cell? ⟨tb, c.length * 4 + 2, none⟩ = some (.int .i64 t.n) ∧ w'.cell? ⟨tb, c.length * 4 + 3, none⟩ = some (.int .i64 t.pl)) (go_keep) (fail)
  go_wp2_with fail
  go_ret
  refine ⟨rfl, hP.put (c ++ [t]) (by rw [← HC.out]; simp) (fun k hk hne => (Below.heap_alloc _ _ _ (by simp; exact hk)).trans (heap_set_ne hne _)) ?_, (((Fp.refl pb w).set 1 _).alloc _).drew⟩
  have q := (Below.heap_alloc _ (.cells #[.int .u8 110, .string ⟨(Pl.rS t).toArray⟩, .int .i64 t.n, .int .i64 t.pl] 102) _ (by simp; exact hpb)).trans (heap_set (w := w) (o := 1) hb (.int .i64 ((c.length : Int) + 1)))
  rw [HO.out]
  simp only [List.length_append, List.length_cons, List.length_nil]
  exact q

set_option maxRecDepth 100000 in
set_option maxHeartbeats 1000000 in
theorem number_yesC (pb tb cap : Nat) (A r : List Pl.Tk) (t : Pl.Tk) (w : World) (hP : PS pb tb cap A (t :: r) false w) (hl : A.length ≤ 402) (hk : t.k = 110) (ho : ∀ c : List Pl.Tk, c ++ t :: r = A → outOf c < 0) (hin : 50 < t.n) :
    Calls Tryz.prog 128 #[.pointer (some ⟨pb, 0, none⟩)] w fun e w' => e = .returned (.int .i64 t.n) ∧ PS pb tb cap A r false w' ∧ Fp pb w w' := by
  obtain ⟨c, hc, hb, e0, e1, e2, e3, hcl, htb⟩ := hP.cells
  have HC : Hid (c ++ t :: r = A) := hc
  have c0 : w.cell? ⟨pb, 0, none⟩ = some (.slice (some ⟨tb, 0, none⟩) A.length cap) := cell_of hb 0
  have c1 : w.cell? ⟨pb, 1, none⟩ = some (.int .i64 c.length) := cell_of hb 1
  have c2 : w.cell? ⟨pb, 2, none⟩ = some (.bool false) := cell_of hb 2
  have c3 : w.cell? ⟨pb, 3, none⟩ = some (.int .i64 (outOf c)) := cell_of hb 3
  have f1 : w.frozen? ⟨pb, 1, none⟩ = false := frozen_of hb 1
  have f2 : w.frozen? ⟨pb, 2, none⟩ = false := frozen_of hb 2
  have f3 : w.frozen? ⟨pb, 3, none⟩ = false := frozen_of hb 3
  have hib : (c.length : Int) < (A.length : Int) := by omega
  have hpb : pb < w.heap.size := lt_of_heap hb
  clear hc
  rw [hk] at e0
  have hoc := ho c HC.out
  have HO : Hid (outOf (c ++ [t]) = t.pl) := by
    show _ = _
    unfold outOf at hoc ⊢
    rw [List.find?_append]
    cases h1 : c.find? outT with
    | some u => rw [h1] at hoc; simp at hoc; omega
    | none =>
      have : outT t = true := by unfold outT inR; simp [hk]; omega
      simp [this]
  generalize outOf c = oc at *
  clear hk
  have n0 := World.new_ne w _ c0
  have n1 := World.new_ne w _ c1
  have n2 := World.new_ne w _ e0
  have n3 := World.new_ne w _ e1
  have n4 := World.new_ne w _ e2
  have n5 := World.new_ne w _ e3
  go_enter Tryz.func128, Tryz.ntmps128
  go_wp2_with fail
  go_region_held3 (fun w' => w'.cell? ⟨pb, 0, none⟩ = some (.slice (some ⟨tb, 0, none⟩) A.length cap) ∧ w'.cell? ⟨pb, 1, none⟩ = some (.int .i64 c.length) ∧ w'.cell? ⟨tb, c.length * 4, none⟩ = some (.int .u8 110) ∧ w'.cell? ⟨tb, c.length * 4 + 1, none⟩ = some (.string ⟨(Pl.rS t).toArray⟩) ∧ w'.cell? ⟨tb, c.length * 4 + 2, none⟩ = some (.int .i64 t.n) ∧ w'.cell? ⟨tb, c.length * 4 + 3, none⟩ = some (.int .i64 t.pl)) (go_keep) (fail)
  go_wp2_with fail
  go_ret
  refine ⟨rfl, hP.put (c ++ [t]) (by rw [← HC.out]; simp) (fun k hk hne => (Below.heap_alloc _ _ _ (by simp; exact hk)).trans ((heap_set_ne hne _).trans (heap_set_ne hne _))) ?_, ((((Fp.refl pb w).set 1 _).set 3 _).alloc _).drew⟩
  have q := (Below.heap_alloc _ (.cells #[.int .u8 110, .string ⟨(Pl.rS t).toArray⟩, .int .i64 t.n, .int .i64 t.pl] 102) _ (by simp; exact hpb)).trans (heap_set (o := 3) (heap_set (w := w) (o := 1) hb (.int .i64 ((c.length : Int) + 1))) (.int .i64 t.pl))
  rw [HO.out]
  simp only [List.length_append, List.length_cons, List.length_nil]
  exact q

set_option maxRecDepth 100000 in
set_option maxHeartbeats 1000000 in
theorem number_yesD (pb tb cap : Nat) (A r : List Pl.Tk) (t : Pl.Tk) (w : World) (hP : PS pb tb cap A (t :: r) false w) (hl : A.length ≤ 402) (hk : t.k = 110) (ho : ∀ c : List Pl.Tk, c ++ t :: r = A → outOf c < 0) (hin : t.n < -50) :
    Calls Tryz.prog 128 #[.pointer (some ⟨pb, 0, none⟩)] w fun e w' => e = .returned (.int .i64 t.n) ∧ PS pb tb cap A r false w' ∧ Fp pb w w' := by
  obtain ⟨c, hc, hb, e0, e1, e2, e3, hcl, htb⟩ := hP.cells
  have HC : Hid (c ++ t :: r = A) := hc
  have c0 : w.cell? ⟨pb, 0, none⟩ = some (.slice (some ⟨tb, 0, none⟩) A.length cap) := cell_of hb 0
  have c1 : w.cell? ⟨pb, 1, none⟩ = some (.int .i64 c.length) := cell_of hb 1
  have c2 : w.cell? ⟨pb, 2, none⟩ = some (.bool false) := cell_of hb 2
  have c3 : w.cell? ⟨pb, 3, none⟩ = some (.int .i64 (outOf c)) := cell_of hb 3
  have f1 : w.frozen? ⟨pb, 1, none⟩ = false := frozen_of hb 1
  have f2 : w.frozen? ⟨pb, 2, none⟩ = false := frozen_of hb 2
  have f3 : w.frozen? ⟨pb, 3, none⟩ = false := frozen_of hb 3
  have hib : (c.length : Int) < (A.length : Int) := by omega
  have hpb : pb < w.heap.size := lt_of_heap hb
  clear hc
  rw [hk] at e0
  have hoc := ho c HC.out
  have hin2 : decide (50 < t.n) = false := by simp; omega
  have HO : Hid (outOf (c ++ [t]) = t.pl) := by
    show _ = _
    unfold outOf at hoc ⊢
    rw [List.find?_append]
    cases h1 : c.find? outT with
    | some u => rw [h1] at hoc; simp at hoc; omega
    | none =>
      have : outT t = true := by unfold outT inR; simp [hk]; omega
      simp [this]
  generalize outOf c = oc at *
  clear hk
  have n0 := World.new_ne w _ c0
  have n1 := World.new_ne w _ c1
  have n2 := World.new_ne w _ e0
  have n3 := World.new_ne w _ e1
  have n4 := World.new_ne w _ e2
  have n5 := World.new_ne w _ e3
  go_enter Tryz.func128, Tryz.ntmps128
  go_wp2_with fail
  go_region_held3 (fun w' => w'.cell? ⟨pb, 0, none⟩ = some (.slice (some ⟨tb, 0, none⟩) A.length cap) ∧ w'.cell? ⟨pb, 1, none⟩ = some (.int .i64 c.length) ∧ w'.cell? ⟨tb, c.length * 4, none⟩ = some (.int .u8 110) ∧ w'.cell? ⟨tb, c.length * 4 + 1, none⟩ = some (.string ⟨(Pl.rS t).toArray⟩) ∧ w'.cell? ⟨tb, c.length * 4 + 2, none⟩ = some (.int .i64 t.n) ∧ w'.cell? ⟨tb, c.length * 4 + 3, none⟩ = some (.int .i64 t.pl)) (go_keep) (fail)
  go_wp2_with fail
  go_ret
  refine ⟨rfl, hP.put (c ++ [t]) (by rw [← HC.out]; simp) (fun k hk hne => (Below.heap_alloc _ _ _ (by simp; exact hk)).trans ((heap_set_ne hne _).trans (heap_set_ne hne _))) ?_, ((((Fp.refl pb w).set 1 _).set 3 _).alloc _).drew⟩
  have q := (Below.heap_alloc _ (.cells #[.int .u8 110, .string ⟨(Pl.rS t).toArray⟩, .int .i64 t.n, .int .i64 t.pl] 102) _ (by simp; exact hpb)).trans (heap_set (o := 3) (heap_set (w := w) (o := 1) hb (.int .i64 ((c.length : Int) + 1))) (.int .i64 t.pl))
  rw [HO.out]
  simp only [List.length_append, List.length_cons, List.length_nil]
  exact q

theorem number_yes (pb tb cap : Nat) (A r : List Pl.Tk) (t : Pl.Tk) (w : World) (hP : PS pb tb cap A (t :: r) false w) (hl : A.length ≤ 402) (hk : t.k = 110) :
    Calls Tryz.prog 128 #[.pointer (some ⟨pb, 0, none⟩)] w fun e w' => e = .returned (.int .i64 t.n) ∧ PS pb tb cap A r false w' ∧ Fp pb w w' := by
  obtain ⟨c, hc, _⟩ := hP.cells
  have huniq : ∀ c' : List Pl.Tk, c' ++ t :: r = A → c' = c := fun c' h => List.append_cancel_right (h.trans hc.symm)
  by_cases h0 : 0 ≤ outOf c
  · exact number_yesA pb tb cap A r t w hP hl hk (fun c' h => by rw [huniq c' h]; exact h0)
  · have hn : ∀ c' : List Pl.Tk, c' ++ t :: r = A → outOf c' < 0 := fun c' h => by rw [huniq c' h]; omega
    by_cases h1 : 50 < t.n
    · exact number_yesC pb tb cap A r t w hP hl hk hn h1
    · by_cases h2 : t.n < -50
      · exact number_yesD pb tb cap A r t w hP hl hk hn h2
      · exact number_yesB pb tb cap A r t w hP hl hk hn (by unfold inR; simp; omega)

end Go.Proofs.YtmfnlpmlmgjleaaGreatDoor
