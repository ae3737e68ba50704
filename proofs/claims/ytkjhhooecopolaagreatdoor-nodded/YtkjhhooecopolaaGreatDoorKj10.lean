import Derived.Test.YtkjhhooecopolaaGreatDoorKj09
import Derived.Deep.RegionHeld3
import Derived.Test.YtkjhhooecopolaaGreatDoorKj06
import Derived.Lib.AppendStr
import Derived.Lib.OthersKept
import Derived.Laws.Externs
namespace Go.Proofs.YtkjhhooecopolaaGreatDoor
open Go.RowKit

theorem Fp.alloc {pb : Nat} {a w : World} (h : Fp pb a w) (o : Obj) : Fp pb a (w.alloc o) :=
  ⟨h.os, h.tape, h.output, by simp; exact Nat.le_succ_of_le h.size, fun k hk hne => (Below.heap_alloc _ _ _ (Nat.lt_of_lt_of_le hk h.size)).trans (h.block k hk hne)⟩
theorem Fp.drew {pb : Nat} {a w : World} (h : Fp pb a w) : Fp pb a w.drew := ⟨h.os, h.tape, h.output, h.size, h.block⟩

set_option maxRecDepth 100000 in
set_option maxHeartbeats 1000000 in
theorem word_yes (pb tb cap : Nat) (A r : List Pl.Tk) (t : Pl.Tk) (w : World) (q : ByteArray) (hP : PS pb tb cap A (t :: r) false w) (hl : A.length ≤ 402) (hk : t.k = 119) (hq : (⟨t.raw.toArray⟩ : ByteArray) = q) :
    Calls Tryz.prog 29 #[.pointer (some ⟨pb, 0, none⟩), .string q] w fun e w' => e = .returned (.bool true) ∧ PS pb tb cap A r false w' ∧ Fp pb w w' := by
  obtain ⟨c, hc, hb, e0, e1, e2, e3, hcl, htb⟩ := hP.cells
  have HC : Hid (c ++ t :: r = A) := hc
  have c0 : w.cell? ⟨pb, 0, none⟩ = some (.slice (some ⟨tb, 0, none⟩) A.length cap) := cell_of hb 0
  have c1 : w.cell? ⟨pb, 1, none⟩ = some (.int .i64 c.length) := cell_of hb 1
  have c2 : w.cell? ⟨pb, 2, none⟩ = some (.bool false) := cell_of hb 2
  have c3 : w.cell? ⟨pb, 3, none⟩ = some (.int .i64 (outOf c)) := cell_of hb 3
  have f1 : w.frozen? ⟨pb, 1, none⟩ = false := frozen_of hb 1
  have f2 : w.frozen? ⟨pb, 2, none⟩ = false := frozen_of hb 2
  have f3 : w.frozen? ⟨pb, 3, none⟩ = false := frozen_of hb 3
  have hib : (c.length : Int) < (A.length : Int) := by omega
  have hpb : pb < w.heap.size := lt_of_heap hb
  clear hc
  have HO : Hid (outOf (c ++ [t]) = outOf c) := outOf_snoc c t (by omega)
  have hrs : Pl.rS t = t.raw := by unfold Pl.rS; rw [if_neg (by omega)]
  rw [hrs, hq] at e1
  rw [hk] at e0
  clear hk hq hrs
  go_enter Tryz.func29, Tryz.ntmps29
  go_wp2_with fail
  go_quiet (fail)
  go_wp2_with fail
  go_ret
  refine ⟨rfl, hP.put (c ++ [t]) (by rw [← HC.out]; simp) (fun k hk hne => heap_set_ne hne _) ?_, ((Fp.refl pb w).drewN nq).set 1 _⟩
  have q := heap_set (w := w.drewN nq) (o := 1) hb (.int .i64 ((c.length : Int) + 1))
  rw [HO.out]
  simpa using q

set_option maxRecDepth 100000 in
set_option maxHeartbeats 1000000 in
theorem word_no1 (pb tb cap : Nat) (A r : List Pl.Tk) (t : Pl.Tk) (w : World) (q : ByteArray) (hP : PS pb tb cap A (t :: r) false w) (_hl : A.length ≤ 402) (hk : t.k ≠ 119) :
    Calls Tryz.prog 29 #[.pointer (some ⟨pb, 0, none⟩), .string q] w fun e w' => e = .returned (.bool false) ∧ ∃ n, w' = w.drewN n := by
  obtain ⟨c, hc, hb, e0, e1, e2, e3, hcl, htb⟩ := hP.cells
  have HC : Hid (c ++ t :: r = A) := hc
  have c0 : w.cell? ⟨pb, 0, none⟩ = some (.slice (some ⟨tb, 0, none⟩) A.length cap) := cell_of hb 0
  have c1 : w.cell? ⟨pb, 1, none⟩ = some (.int .i64 c.length) := cell_of hb 1
  have c2 : w.cell? ⟨pb, 2, none⟩ = some (.bool false) := cell_of hb 2
  have c3 : w.cell? ⟨pb, 3, none⟩ = some (.int .i64 (outOf c)) := cell_of hb 3
  have f1 : w.frozen? ⟨pb, 1, none⟩ = false := frozen_of hb 1
  have f2 : w.frozen? ⟨pb, 2, none⟩ = false := frozen_of hb 2
  have f3 : w.frozen? ⟨pb, 3, none⟩ = false := frozen_of hb 3
  have hib : (c.length : Int) < (A.length : Int) := by omega
  have hpb : pb < w.heap.size := lt_of_heap hb
  clear hc
  have hkb : ((t.k : Int) == 119) = false := by rw [beq_eq_false_iff_ne]; omega
  clear hk
  go_enter Tryz.func29, Tryz.ntmps29
  go_wp2_with fail
  go_quiet (fail)
  go_wp2_with fail
  go_ret
  exact ⟨rfl, _, rfl⟩

set_option maxRecDepth 100000 in
set_option maxHeartbeats 1000000 in
theorem word_no2 (pb tb cap : Nat) (A r : List Pl.Tk) (t : Pl.Tk) (w : World) (q : ByteArray) (hP : PS pb tb cap A (t :: r) false w) (_hl : A.length ≤ 402) (hk : t.k = 119) (hq : ((⟨t.raw.toArray⟩ : ByteArray).toList == q.toList) = false) :
    Calls Tryz.prog 29 #[.pointer (some ⟨pb, 0, none⟩), .string q] w fun e w' => e = .returned (.bool false) ∧ ∃ n, w' = w.drewN n := by
  obtain ⟨c, hc, hb, e0, e1, e2, e3, hcl, htb⟩ := hP.cells
  have HC : Hid (c ++ t :: r = A) := hc
  have c0 : w.cell? ⟨pb, 0, none⟩ = some (.slice (some ⟨tb, 0, none⟩) A.length cap) := cell_of hb 0
  have c1 : w.cell? ⟨pb, 1, none⟩ = some (.int .i64 c.length) := cell_of hb 1
  have c2 : w.cell? ⟨pb, 2, none⟩ = some (.bool false) := cell_of hb 2
  have c3 : w.cell? ⟨pb, 3, none⟩ = some (.int .i64 (outOf c)) := cell_of hb 3
  have f1 : w.frozen? ⟨pb, 1, none⟩ = false := frozen_of hb 1
  have f2 : w.frozen? ⟨pb, 2, none⟩ = false := frozen_of hb 2
  have f3 : w.frozen? ⟨pb, 3, none⟩ = false := frozen_of hb 3
  have hib : (c.length : Int) < (A.length : Int) := by omega
  have hpb : pb < w.heap.size := lt_of_heap hb
  clear hc
  have hrs : Pl.rS t = t.raw := by unfold Pl.rS; rw [if_neg (by omega)]
  rw [hrs] at e1
  rw [hk] at e0
  clear hk hrs
  generalize (⟨t.raw.toArray⟩ : ByteArray) = rw' at *
  go_enter Tryz.func29, Tryz.ntmps29
  go_wp2_with fail
  go_quiet (fail)
  go_wp2_with fail
  go_ret
  exact ⟨rfl, _, rfl⟩

set_option maxRecDepth 100000 in
set_option maxHeartbeats 1000000 in
theorem number_bad (pb tb cap : Nat) (A r : List Pl.Tk) (t : Pl.Tk) (w : World) (hP : PS pb tb cap A (t :: r) true w) (_hl : A.length ≤ 402) :
    Calls Tryz.prog 145 #[.pointer (some ⟨pb, 0, none⟩)] w fun e w' => e = .returned (.int .i64 0) ∧ PS pb tb cap A (t :: r) true w' ∧ Fp pb w w' := by
  obtain ⟨c, hc, hb, e0, e1, e2, e3, hcl, htb⟩ := hP.cells
  have HC : Hid (c ++ t :: r = A) := hc
  have c0 : w.cell? ⟨pb, 0, none⟩ = some (.slice (some ⟨tb, 0, none⟩) A.length cap) := cell_of hb 0
  have c1 : w.cell? ⟨pb, 1, none⟩ = some (.int .i64 c.length) := cell_of hb 1
  have c2 : w.cell? ⟨pb, 2, none⟩ = some (.bool true) := cell_of hb 2
  have c3 : w.cell? ⟨pb, 3, none⟩ = some (.int .i64 (outOf c)) := cell_of hb 3
  have f1 : w.frozen? ⟨pb, 1, none⟩ = false := frozen_of hb 1
  have f2 : w.frozen? ⟨pb, 2, none⟩ = false := frozen_of hb 2
  have f3 : w.frozen? ⟨pb, 3, none⟩ = false := frozen_of hb 3
  have hib : (c.length : Int) < (A.length : Int) := by omega
  have hpb : pb < w.heap.size := lt_of_heap hb
  clear hc
  have n0 := World.new_ne w _ c0
  have n1 := World.new_ne w _ c1
  have n2 := World.new_ne w _ e0
  have n3 := World.new_ne w _ e1
  have n4 := World.new_ne w _ e2
  have n5 := World.new_ne w _ e3
  go_enter Tryz.func145, Tryz.ntmps145
  go_wp2_with fail
  go_region_held3 (fun w' => w'.cell? ⟨pb, 0, none⟩ = some (.slice (some ⟨tb, 0, none⟩) A.length cap) ∧ w'.cell? ⟨pb, 1, none⟩ = some (.int .i64 c.length) ∧ w'.cell? ⟨tb, c.length * 4, none⟩ = some (.int .u8 t.k) ∧ w'.cell? ⟨tb, c.length * 4 + 1, none⟩ = some (.string ⟨(Pl.rS t).toArray⟩) ∧ w'.cell? ⟨tb, c.length * 4 + 2, none⟩ = some (.int .i64 t.n) ∧ w'.cell? ⟨tb, c.length * 4 + 3, none⟩ = some (.int .i64 t.pl)) (go_keep) (fail)
  go_wp2_with fail
  go_ret
  refine ⟨rfl, hP.put c HC.out (fun k hk hne => (Below.heap_alloc _ _ _ (by simp; exact hk)).trans (heap_set_ne hne _)) ?_, (((Fp.refl pb w).set 2 _).alloc _).drew⟩
  exact (Below.heap_alloc _ _ _ (by simp; exact hpb)).trans (heap_set (o := 2) hb (.bool true))

set_option maxRecDepth 100000 in
set_option maxHeartbeats 1000000 in
theorem number_no (pb tb cap : Nat) (A r : List Pl.Tk) (t : Pl.Tk) (w : World) (hP : PS pb tb cap A (t :: r) false w) (_hl : A.length ≤ 402) (hk : t.k ≠ 110) :
    Calls Tryz.prog 145 #[.pointer (some ⟨pb, 0, none⟩)] w fun e w' => e = .returned (.int .i64 0) ∧ PS pb tb cap A (t :: r) true w' ∧ Fp pb w w' := by
  obtain ⟨c, hc, hb, e0, e1, e2, e3, hcl, htb⟩ := hP.cells
  have HC : Hid (c ++ t :: r = A) := hc
  have c0 : w.cell? ⟨pb, 0, none⟩ = some (.slice (some ⟨tb, 0, none⟩) A.length cap) := cell_of hb 0
  have c1 : w.cell? ⟨pb, 1, none⟩ = some (.int .i64 c.length) := cell_of hb 1
  have c2 : w.cell? ⟨pb, 2, none⟩ = some (.bool false) := cell_of hb 2
  have c3 : w.cell? ⟨pb, 3, none⟩ = some (.int .i64 (outOf c)) := cell_of hb 3
  have f1 : w.frozen? ⟨pb, 1, none⟩ = false := frozen_of hb 1
  have f2 : w.frozen? ⟨pb, 2, none⟩ = false := frozen_of hb 2
  have f3 : w.frozen? ⟨pb, 3, none⟩ = false := frozen_of hb 3
  have hib : (c.length : Int) < (A.length : Int) := by omega
  have hpb : pb < w.heap.size := lt_of_heap hb
  clear hc
  have hkb : ((t.k : Int) != 110) = true := by rw [bne_iff_ne]; omega
  clear hk
  have n0 := World.new_ne w _ c0
  have n1 := World.new_ne w _ c1
  have n2 := World.new_ne w _ e0
  have n3 := World.new_ne w _ e1
  have n4 := World.new_ne w _ e2
  have n5 := World.new_ne w _ e3
  go_enter Tryz.func145, Tryz.ntmps145
  go_wp2_with fail
  go_region_held3 (fun w' => w'.cell? ⟨pb, 0, none⟩ = some (.slice (some ⟨tb, 0, none⟩) A.length cap) ∧ w'.cell? ⟨pb, 1, none⟩ = some (.int .i64 c.length) ∧ w'.cell? ⟨tb, c.length * 4, none⟩ = some (.int .u8 t.k) ∧ w'.cell? ⟨tb, c.length * 4 + 1, none⟩ = some (.string ⟨(Pl.rS t).toArray⟩) ∧ w'.cell? ⟨tb, c.length * 4 + 2, none⟩ = some (.int .i64 t.n) ∧ w'.cell? ⟨tb, c.length * 4 + 3, none⟩ = some (.int .i64 t.pl)) (go_keep) (fail)
  go_wp2_with fail
  go_ret
  refine ⟨rfl, hP.put c HC.out (fun k hk hne => (Below.heap_alloc _ _ _ (by simp; exact hk)).trans (heap_set_ne hne _)) ?_, (((Fp.refl pb w).set 2 _).alloc _).drew⟩
  exact (Below.heap_alloc _ _ _ (by simp; exact hpb)).trans (heap_set (o := 2) hb (.bool true))

set_option maxRecDepth 100000 in
set_option maxHeartbeats 1000000 in
theorem number_yesA (pb tb cap : Nat) (A r : List Pl.Tk) (t : Pl.Tk) (w : World) (hP : PS pb tb cap A (t :: r) false w) (hl : A.length ≤ 402) (hk : t.k = 110) (ho : ∀ c : List Pl.Tk, c ++ t :: r = A → 0 ≤ outOf c) :
    Calls Tryz.prog 145 #[.pointer (some ⟨pb, 0, none⟩)] w fun e w' => e = .returned (.int .i64 t.n) ∧ PS pb tb cap A r false w' ∧ Fp pb w w' := by
  obtain ⟨c, hc, hb, e0, e1, e2, e3, hcl, htb⟩ := hP.cells
  have HC : Hid (c ++ t :: r = A) := hc
  have c0 : w.cell? ⟨pb, 0, none⟩ = some (.slice (some ⟨tb, 0, none⟩) A.length cap) := cell_of hb 0
  have c1 : w.cell? ⟨pb, 1, none⟩ = some (.int .i64 c.length) := cell_of hb 1
  have c2 : w.cell? ⟨pb, 2, none⟩ = some (.bool false) := cell_of hb 2
  have c3 : w.cell? ⟨pb, 3, none⟩ = some (.int .i64 (outOf c)) := cell_of hb 3
  have f1 : w.frozen? ⟨pb, 1, none⟩ = false := frozen_of hb 1
  have f2 : w.frozen? ⟨pb, 2, none⟩ = false := frozen_of hb 2
  have f3 : w.frozen? ⟨pb, 3, none⟩ = false := frozen_of hb 3
  have hib : (c.length : Int) < (A.length : Int) := by omega
  have hpb : pb < w.heap.size := lt_of_heap hb
  clear hc
  rw [hk] at e0
  have hoc := ho c HC.out
  have hd : decide (outOf c < 0) = false := by simp; omega
  have HO : Hid (outOf (c ++ [t]) = outOf c) := by
    show _ = _
    unfold outOf at hoc ⊢
    rw [List.find?_append]
    cases h1 : c.find? outT with
    | some u => rfl
    | none => rw [h1] at hoc; simp at hoc
  generalize outOf c = oc at *
  clear hk
  have n0 := World.new_ne w _ c0
  have n1 := World.new_ne w _ c1
  have n2 := World.new_ne w _ e0
  have n3 := World.new_ne w _ e1
  have n4 := World.new_ne w _ e2
  have n5 := World.new_ne w _ e3
  go_enter Tryz.func145, Tryz.ntmps145
  go_wp2_with fail
  go_region_held3 (fun w' => w'.cell? ⟨pb, 0, none⟩ = some (.slice (some ⟨tb, 0, none⟩) A.length cap) ∧ w'.cell? ⟨pb, 1, none⟩ = some (.int .i64 c.length) ∧ w'.cell? ⟨tb, c.length * 4, none⟩ = some (.int .u8 110) ∧ w'.cell? ⟨tb, c.length * 4 + 1, none⟩ = some (.string ⟨(Pl.rS t).toArray⟩) ∧ w'.cell? ⟨tb, c.length * 4 + 2, none⟩ = some (.int .i64 t.n) ∧ w'.cell? ⟨tb, c.length * 4 + 3, none⟩ = some (.int .i64 t.pl)) (go_keep) (fail)
  go_wp2_with fail
  go_ret
  refine ⟨rfl, hP.put (c ++ [t]) (by rw [← HC.out]; simp) (fun k hk hne => (Below.heap_alloc _ _ _ (by simp; exact hk)).trans (heap_set_ne hne _)) ?_, (((Fp.refl pb w).set 1 _).alloc _).drew⟩
  have q := (Below.heap_alloc _ (.cells #[.int .u8 110, .string ⟨(Pl.rS t).toArray⟩, .int .i64 t.n, .int .i64 t.pl] 61) _ (by simp; exact hpb)).trans (heap_set (w := w) (o := 1) hb (.int .i64 ((c.length : Int) + 1)))
  rw [HO.out]
  simp only [List.length_append, List.length_cons, List.length_nil]
  exact q

set_option maxRecDepth 100000 in
set_option maxHeartbeats 1000000 in
theorem number_yesB (pb tb cap : Nat) (A r : List Pl.Tk) (t : Pl.Tk) (w : World) (hP : PS pb tb cap A (t :: r) false w) (hl : A.length ≤ 402) (hk : t.k = 110) (ho : ∀ c : List Pl.Tk, c ++ t :: r = A → outOf c < 0) (hin : inR 50 t.n = true) :
    Calls Tryz.prog 145 #[.pointer (some ⟨pb, 0, none⟩)] w fun e w' => e = .returned (.int .i64 t.n) ∧ PS pb tb cap A r false w' ∧ Fp pb w w' := by
  obtain ⟨c, hc, hb, e0, e1, e2, e3, hcl, htb⟩ := hP.cells
  have HC : Hid (c ++ t :: r = A) := hc
  have c0 : w.cell? ⟨pb, 0, none⟩ = some (.slice (some ⟨tb, 0, none⟩) A.length cap) := cell_of hb 0
  have c1 : w.cell? ⟨pb, 1, none⟩ = some (.int .i64 c.length) := cell_of hb 1
  have c2 : w.cell? ⟨pb, 2, none⟩ = some (.bool false) := cell_of hb 2
  have c3 : w.cell? ⟨pb, 3, none⟩ = some (.int .i64 (outOf c)) := cell_of hb 3
  have f1 : w.frozen? ⟨pb, 1, none⟩ = false := frozen_of hb 1
  have f2 : w.frozen? ⟨pb, 2, none⟩ = false := frozen_of hb 2
  have f3 : w.frozen? ⟨pb, 3, none⟩ = false := frozen_of hb 3
  have hib : (c.length : Int) < (A.length : Int) := by omega
  have hpb : pb < w.heap.size := lt_of_heap hb
  clear hc
  rw [hk] at e0
  have hoc := ho c HC.out
  have hr := of_decide_eq_true hin
  obtain ⟨hr1, hr2⟩ := hr
  have HO : Hid (outOf (c ++ [t]) = outOf c) := by
    show _ = _
    unfold outOf at hoc ⊢
    rw [List.find?_append]
    cases h1 : c.find? outT with
    | some u => rfl
    | none => simp [outT, hin]
  generalize outOf c = oc at *
  clear hin
  clear hk
  have n0 := World.new_ne w _ c0
  have n1 := World.new_ne w _ c1
  have n2 := World.new_ne w _ e0
  have n3 := World.new_ne w _ e1
  have n4 := World.new_ne w _ e2
  have n5 := World.new_ne w _ e3
  go_enter Tryz.func145, Tryz.ntmps145
  go_wp2_with fail
  go_region_held3 (fun w' => w'.cell? ⟨pb, 0, none⟩ = some (.slice (some ⟨tb, 0, none⟩) A.length cap) ∧ w'.cell? ⟨pb, 1, none⟩ = some (.int .i64 c.length) ∧ w'.cell? ⟨tb, c.length * 4, none⟩ = some (.int .u8 110) ∧ w'.cell? ⟨tb, c.length * 4 + 1, none⟩ = some (.string ⟨(Pl.rS t).toArray⟩) ∧ w'.cell? ⟨tb, c.length * 4 + 2, none⟩ = some (.int .i64 t.n) ∧ w'.cell? ⟨tb, c.length * 4 + 3, none⟩ = some (.int .i64 t.pl)) (go_keep) (fail)
  go_wp2_with fail
  go_ret
  refine ⟨rfl, hP.put (c ++ [t]) (by rw [← HC.out]; simp) (fun k hk hne => (Below.heap_alloc _ _ _ (by simp; exact hk)).trans (heap_set_ne hne _)) ?_, (((Fp.refl pb w).set 1 _).alloc _).drew⟩
  have q := (Below.heap_alloc _ (.cells #[.int .u8 110, .string ⟨(Pl.rS t).toArray⟩, .int .i64 t.n, .int .i64 t.pl] 61) _ (by simp; exact hpb)).trans (heap_set (w := w) (o := 1) hb (.int .i64 ((c.length : Int) + 1)))
  rw [HO.out]
  simp only [List.length_append, List.length_cons, List.length_nil]
  exact q

set_option maxRecDepth 100000 in
set_option maxHeartbeats 1000000 in
theorem number_yesC (pb tb cap : Nat) (A r : List Pl.Tk) (t : Pl.Tk) (w : World) (hP : PS pb tb cap A (t :: r) false w) (hl : A.length ≤ 402) (hk : t.k = 110) (ho : ∀ c : List Pl.Tk, c ++ t :: r = A → outOf c < 0) (hin : 50 < t.n) :
    Calls Tryz.prog 145 #[.pointer (some ⟨pb, 0, none⟩)] w fun e w' => e = .returned (.int .i64 t.n) ∧ PS pb tb cap A r false w' ∧ Fp pb w w' := by
  obtain ⟨c, hc, hb, e0, e1, e2, e3, hcl, htb⟩ := hP.cells
  have HC : Hid (c ++ t :: r = A) := hc
  have c0 : w.cell? ⟨pb, 0, none⟩ = some (.slice (some ⟨tb, 0, none⟩) A.length cap) := cell_of hb 0
  have c1 : w.cell? ⟨pb, 1, none⟩ = some (.int .i64 c.length) := cell_of hb 1
  have c2 : w.cell? ⟨pb, 2, none⟩ = some (.bool false) := cell_of hb 2
  have c3 : w.cell? ⟨pb, 3, none⟩ = some (.int .i64 (outOf c)) := cell_of hb 3
  have f1 : w.frozen? ⟨pb, 1, none⟩ = false := frozen_of hb 1
  have f2 : w.frozen? ⟨pb, 2, none⟩ = false := frozen_of hb 2
  have f3 : w.frozen? ⟨pb, 3, none⟩ = false := frozen_of hb 3
  have hib : (c.length : Int) < (A.length : Int) := by omega
  have hpb : pb < w.heap.size := lt_of_heap hb
  clear hc
  rw [hk] at e0
  have hoc := ho c HC.out
  have HO : Hid (outOf (c ++ [t]) = t.pl) := by
    show _ = _
    unfold outOf at hoc ⊢
    rw [List.find?_append]
    cases h1 : c.find? outT with
    | some u => rw [h1] at hoc; simp at hoc; omega
    | none =>
      have : outT t = true := by unfold outT inR; simp [hk]; omega
      simp [this]
  generalize outOf c = oc at *
  clear hk
  have n0 := World.new_ne w _ c0
  have n1 := World.new_ne w _ c1
  have n2 := World.new_ne w _ e0
  have n3 := World.new_ne w _ e1
  have n4 := World.new_ne w _ e2
  have n5 := World.new_ne w _ e3
  go_enter Tryz.func145, Tryz.ntmps145
  go_wp2_with fail
  go_region_held3 (fun w' => w'.cell? ⟨pb, 0, none⟩ = some (.slice (some ⟨tb, 0, none⟩) A.length cap) ∧ w'.cell? ⟨pb, 1, none⟩ = some (.int .i64 c.length) ∧ w'.cell? ⟨tb, c.length * 4, none⟩ = some (.int .u8 110) ∧ w'.cell? ⟨tb, c.length * 4 + 1, none⟩ = some (.string ⟨(Pl.rS t).toArray⟩) ∧ w'.cell? ⟨tb, c.length * 4 + 2, none⟩ = some (.int .i64 t.n) ∧ w'.cell? ⟨tb, c.length * 4 + 3, none⟩ = some (.int .i64 t.pl)) (go_keep) (fail)
  go_wp2_with fail
  go_ret
  refine ⟨rfl, hP.put (c ++ [t]) (by rw [← HC.out]; simp) (fun k hk hne => (Below.heap_alloc _ _ _ (by simp; exact hk)).trans ((heap_set_ne hne _).trans (heap_set_ne hne _))) ?_, ((((Fp.refl pb w).set 1 _).set 3 _).alloc _).drew⟩
  have q := (Below.heap_alloc _ (.cells #[.int .u8 110, .string ⟨(Pl.rS t).toArray⟩, .int .i64 t.n, .int .i64 t.pl] 61) _ (by simp; exact hpb)).trans (heap_set (o := 3) (heap_set (w := w) (o := 1) hb (.int .i64 ((c.length : Int) + 1))) (.int .i64 t.pl))
  rw [HO.out]
  simp only [List.length_append, List.length_cons, List.length_nil]
  exact q

set_option maxRecDepth 100000 in
set_option maxHeartbeats 1000000 in
theorem number_yesD (pb tb cap : Nat) (A r : List Pl.Tk) (t : Pl.Tk) (w : World) (hP : PS pb tb cap A (t :: r) false w) (hl : A.length ≤ 402) (hk : t.k = 110) (ho : ∀ c : List Pl.Tk, c ++ t :: r = A → outOf c < 0) (hin : t.n < -50) :
    Calls Tryz.prog 145 #[.pointer (some ⟨pb, 0, none⟩)] w fun e w' => e = .returned (.int .i64 t.n) ∧ PS pb tb cap A r false w' ∧ Fp pb w w' := by
  obtain ⟨c, hc, hb, e0, e1, e2, e3, hcl, htb⟩ := hP.cells
  have HC : Hid (c ++ t :: r = A) := hc
  have c0 : w.cell? ⟨pb, 0, none⟩ = some (.slice (some ⟨tb, 0, none⟩) A.length cap) := cell_of hb 0
  have c1 : w.cell? ⟨pb, 1, none⟩ = some (.int .i64 c.length) := cell_of hb 1
  have c2 : w.cell? ⟨pb, 2, none⟩ = some (.bool false) := cell_of hb 2
  have c3 : w.cell? ⟨pb, 3, none⟩ = some (.int .i64 (outOf c)) := cell_of hb 3
  have f1 : w.frozen? ⟨pb, 1, none⟩ = false := frozen_of hb 1
  have f2 : w.frozen? ⟨pb, 2, none⟩ = false := frozen_of hb 2
  have f3 : w.frozen? ⟨pb, 3, none⟩ = false := frozen_of hb 3
  have hib : (c.length : Int) < (A.length : Int) := by omega
  have hpb : pb < w.heap.size := lt_of_heap hb
  clear hc
  rw [hk] at e0
  have hoc := ho c HC.out
  have hin2 : decide (50 < t.n) = false := by simp; omega
  have HO : Hid (outOf (c ++ [t]) = t.pl) := by
    show _ = _
    unfold outOf at hoc ⊢
    rw [List.find?_append]
    cases h1 : c.find? outT with
    | some u => rw [h1] at hoc; simp at hoc; omega
    | none =>
      have : outT t = true := by unfold outT inR; simp [hk]; omega
      simp [this]
  generalize outOf c = oc at *
  clear hk
  have n0 := World.new_ne w _ c0
  have n1 := World.new_ne w _ c1
  have n2 := World.new_ne w _ e0
  have n3 := World.new_ne w _ e1
  have n4 := World.new_ne w _ e2
  have n5 := World.new_ne w _ e3
  go_enter Tryz.func145, Tryz.ntmps145
  go_wp2_with fail
  go_region_held3 (fun w' => w'.cell? ⟨pb, 0, none⟩ = some (.slice (some ⟨tb, 0, none⟩) A.length cap) ∧ w'.cell? ⟨pb, 1, none⟩ = some (.int .i64 c.length) ∧ w'.cell? ⟨tb, c.length * 4, none⟩ = some (.int .u8 110) ∧ w'.cell? ⟨tb, c.length * 4 + 1, none⟩ = some (.string ⟨(Pl.rS t).toArray⟩) ∧ w'.cell? ⟨tb, c.length * 4 + 2, none⟩ = some (.int .i64 t.n) ∧ w'.cell? ⟨tb, c.length * 4 + 3, none⟩ = some (.int .i64 t.pl)) (go_keep) (fail)
  go_wp2_with fail
  go_ret
  refine ⟨rfl, hP.put (c ++ [t]) (by rw [← HC.out]; simp) (fun k hk hne => (Below.heap_alloc _ _ _ (by simp; exact hk)).trans ((heap_set_ne hne _).trans (heap_set_ne hne _))) ?_, ((((Fp.refl pb w).set 1 _).set 3 _).alloc _).drew⟩
  have q := (Below.heap_alloc _ (.cells #[.int .u8 110, .string ⟨(Pl.rS t).toArray⟩, .int .i64 t.n, .int .i64 t.pl] 61) _ (by simp; exact hpb)).trans (heap_set (o := 3) (heap_set (w := w) (o := 1) hb (.int .i64 ((c.length : Int) + 1))) (.int .i64 t.pl))
  rw [HO.out]
  simp only [List.length_append, List.length_cons, List.length_nil]
  exact q

theorem number_yes (pb tb cap : Nat) (A r : List Pl.Tk) (t : Pl.Tk) (w : World) (hP : PS pb tb cap A (t :: r) false w) (hl : A.length ≤ 402) (hk : t.k = 110) :
    Calls Tryz.prog 145 #[.pointer (some ⟨pb, 0, none⟩)] w fun e w' => e = .returned (.int .i64 t.n) ∧ PS pb tb cap A r false w' ∧ Fp pb w w' := by
  obtain ⟨c, hc, _⟩ := hP.cells
  have huniq : ∀ c' : List Pl.Tk, c' ++ t :: r = A → c' = c := fun c' h => List.append_cancel_right (h.trans hc.symm)
  by_cases h0 : 0 ≤ outOf c
  · exact number_yesA pb tb cap A r t w hP hl hk (fun c' h => by rw [huniq c' h]; exact h0)
  · have hn : ∀ c' : List Pl.Tk, c' ++ t :: r = A → outOf c' < 0 := fun c' h => by rw [huniq c' h]; omega
    by_cases h1 : 50 < t.n
    · exact number_yesC pb tb cap A r t w hP hl hk hn h1
    · by_cases h2 : t.n < -50
      · exact number_yesD pb tb cap A r t w hP hl hk hn h2
      · exact number_yesB pb tb cap A r t w hP hl hk hn (by unfold inR; simp; omega)

end Go.Proofs.YtkjhhooecopolaaGreatDoor

namespace Go.Proofs.YtkjhhooecopolaaGreatDoor
open Go.RowKit

theorem bldSize : (Tryz.prog.info? 196).map (·.size) = some 2 := by kernel_rfl
theorem bldLies : liesAt Tryz.prog Tryz.prog.depth 196 (2 / Tryz.prog.cellsOf 196) 0 196 1 = true := by kernel_rfl

set_option maxRecDepth 100000 in
set_option maxHeartbeats 400000 in
theorem copyCheck_new (_B b : Nat) (v : Value) (w : World) (hbk : w.heap[b]? = some (.cells #[.pointer none, v] 196 (0, 0))) :
    Calls Tryz.prog 177 #[.pointer (some ⟨b, 0, none⟩)] w fun e w' => e = .returned (.tuple #[]) ∧ w' = w.setCell ⟨b, 0, none⟩ (.pointer (some ⟨b, 0, none⟩)) := by
  have c0 : w.cell? ⟨b, 0, none⟩ = some (.pointer none) := cell_of hbk 0
  have f0 : w.frozen? ⟨b, 0, none⟩ = false := frozen_of hbk 0
  go_enter Tryz.func177, Tryz.ntmps177
  have hsh : w.shape? b = some (196, 2) := by simp [World.shape?, hbk]
  obtain ⟨j, hj, hjs⟩ := Option.map_eq_some_iff.1 bldSize
  go_wp2
  rw [Lib.run_to_unsafe w ⟨b, 0, none⟩ Tryz.underlying193 Tryz.underlying290 hj (by rw [hjs]; decide) hsh (Nat.zero_lt_succ 1)]
  simp only [Result.andThen]
  rw [Oper.upon_value]
  go_wp2
  rw [run_callFunc_extern Tryz.func218 (by kernel_rfl) (by kernel_rfl) (by kernel_rfl) (e := Extern.AbiNoEscape.same) (by kernel_rfl)]
  rw [Lib.run_noEscape]
  simp only [Result.andThen]
  rw [Oper.upon_value]
  go_wp2
  rw [Lib.run_from_unsafe w ⟨b, 0, none⟩ Tryz.underlying290 Tryz.underlying193 hj hsh bldLies]
  simp only [Result.andThen]
  rw [Oper.upon_value]
  go_wp2
  go_end0
  exact ⟨rfl, rfl⟩

set_option maxRecDepth 100000 in
set_option maxHeartbeats 400000 in
theorem copyCheck_old (b : Nat) (v : Value) (w : World) (hbk : w.heap[b]? = some (.cells #[.pointer (some ⟨b, 0, none⟩), v] 196 (0, 0))) :
    Calls Tryz.prog 177 #[.pointer (some ⟨b, 0, none⟩)] w fun e w' => e = .returned (.tuple #[]) ∧ w' = w := by
  have c0 : w.cell? ⟨b, 0, none⟩ = some (.pointer (some ⟨b, 0, none⟩)) := cell_of hbk 0
  go_enter Tryz.func177, Tryz.ntmps177
  obtain ⟨j, hj, _⟩ := Option.map_eq_some_iff.1 bldSize
  go_wp2
  rw [Lib.run_neq_ptr_same w _ Tryz.underlying193 hj]
  go_wp2
  go_end0
  exact ⟨rfl, rfl⟩

/-- Behind the check the builder knows its own place. -/
theorem copyCheck_any (B b : Nat) (bs : List Value) (w : World) (h : Lib.IsBuilder 196 5 B b bs w) :
    Calls Tryz.prog 177 #[.pointer (some ⟨b, 0, none⟩)] w fun e w' => e = .returned (.tuple #[]) ∧ Lib.BuilderAt 196 5 B b (.pointer (some ⟨b, 0, none⟩)) bs w' ∧ Below B w w' ∧ Lib.OthersKept 5 (some b) w w' ∧ w'.heap.size = w.heap.size := by
  rcases h with ⟨hB, v, hbk, hown, hne⟩ | ⟨hB, v, hbk, hown, hne⟩
  · refine (copyCheck_new B b v w hbk).mono ?_
    rintro e w' ⟨rfl, rfl⟩
    refine ⟨rfl, ⟨hB, v, heap_set hbk _, own_kept hown fun k hk => heap_set_ne (fun e => hne (by rw [hk, e])) _, hne⟩, (Below.refl _ _).setCell hB _, (Lib.OthersKept.refl _ _ _).setCell ⟨b, 0, none⟩ rfl _, by simp⟩
  · refine (copyCheck_old b v w hbk).mono ?_
    rintro e w' ⟨rfl, rfl⟩
    exact ⟨rfl, ⟨hB, v, hbk, hown, hne⟩, Below.refl _ _, Lib.OthersKept.refl _ _ _, rfl⟩

theorem byteInfo : (Tryz.prog.info? 5).map (fun i => (i.zero, i.size, i.bytes)) = some (some (.int .u8 0), 1, 1) := by kernel_rfl

theorem own_kind {w : World} {B : Nat} {e : TypeId} {size : Nat} {v : Value} {n : Nat} {xs : List Value} (h : w.ownsRow B e size v n xs) : ∀ g, v.ownBlock = some g → ∃ c fz, w.heap[g]? = some (.cells c e fz) := fun g hg => by
  obtain ⟨c, hc⟩ := heap_of_own h hg
  exact ⟨c, _, hc⟩

set_option maxRecDepth 100000 in
set_option maxHeartbeats 1000000 in
theorem writeByte_any (B b : Nat) (bs : List Value) (c : Int) (w : World) (h : Lib.IsBuilder 196 5 B b bs w) (hBw : B ≤ w.heap.size) (hlen : bs.length ≤ 1000000) :
    Calls Tryz.prog 118 #[.pointer (some ⟨b, 0, none⟩), .int .u8 c] w fun e w' => e = .returned .nilIface ∧ Lib.IsBuilder 196 5 B b (bs ++ [.int .u8 c]) w' ∧ Below B w w' ∧ Lib.OthersKept 5 (some b) w w' := by
  obtain ⟨i0, hi, hz0, hz1, hz2⟩ := info_parts byteInfo
  go_enter Tryz.func118, Tryz.ntmps118
  go_wp2_with fail
  refine (copyCheck_any B b bs _ h).mono ?_
  rintro e w1 ⟨rfl, ⟨hB, v, hbk, hown, hne⟩, hb1, hk1, hsz⟩
  have c1 : w1.cell? ⟨b, 1, none⟩ = some v := cell_of hbk 1
  have hlt := lt_of_heap hbk
  have HSZ : Hid (w1.heap.size = w.heap.size) := hsz
  have hBw1 : B ≤ w1.heap.size := by omega
  clear hsz
  go_wp2_with (at_builtin; refine wpList_append_lies _ rfl (.tmp 11) (.tmp 13) 194 rfl B 5 i0 _ 1 1 Tryz.underlying194 hi hz0 hz1 hz2 rfl (by decide) v bs.length bs rfl (own_kept hown (fun k hk => Below.heap_alloc _ _ _ (own_lt hown k hk).2)) ⟨w1.heap.size, 0, none⟩ 1 1 [.int .u8 c] rfl rfl (World.news_of_block (cs := #[.int .u8 c]) (t := 5) (fr := (0, 0)) (heap_alloc_new w1 _)) (by simp [Value.oneCell']) (by decide) (by unfold maxLen; omega) (by omega) (by simp; omega) (w1.heap.size + 1) (by simp) ?_; intro g cap w2 ho hgrow hat hlt2; have hb2 := (grown_heap hgrow b hlt hne).trans hbk; have d1 : w2.cell? ⟨b, 1, none⟩ = some v := cell_of hb2 1; have f1 : w2.frozen? ⟨b, 1, none⟩ = false := frozen_of hb2 1)
  go_ret
  have hgb : g ≠ b := fun e => by
    rcases hat with h | h
    · exact hne (by rw [h, e])
    · omega
  refine ⟨rfl, Or.inr ⟨hB, _, heap_set hb2 _, ?_, fun e => hgb (by simpa [Value.ownBlock] using e)⟩, ?_, ?_⟩
  · simp only [List.length_append, List.length_cons, List.length_nil, Nat.zero_add]
    exact own_kept ho fun k hk => heap_set_ne (fun e => hgb (by rw [← e]; simpa [Value.ownBlock] using hk)) _
  · exact (((hb1.alloc hBw1 _).grown hgrow (by simp; omega) (fun k hk => (own_lt hown k hk).1))).setCell hB _
  · exact ((hk1.alloc _).grown hgrow (fun g hg => by
      obtain ⟨c, fz, hc⟩ := own_kind hown g hg
      exact ⟨c, fz, (Below.heap_alloc _ _ _ (lt_of_heap hc)).trans hc⟩)).setCell ⟨b, 1, none⟩ rfl _

set_option maxRecDepth 100000 in
set_option maxHeartbeats 1000000 in
theorem writeString_any (B b : Nat) (bs : List Value) (s : ByteArray) (w : World) (h : Lib.IsBuilder 196 5 B b bs w) (hBw : B ≤ w.heap.size) (hlen : bs.length ≤ 1000000) (hs : s.size ≤ 1000000) :
    Calls Tryz.prog 119 #[.pointer (some ⟨b, 0, none⟩), .string s] w fun e w' => e = .returned (.tuple #[.int .i64 s.size, .nilIface]) ∧ Lib.IsBuilder 196 5 B b (bs ++ Lib.strCells s) w' ∧ Below B w w' ∧ Lib.OthersKept 5 (some b) w w' := by
  obtain ⟨i0, hi, hz0, hz1, hz2⟩ := info_parts byteInfo
  go_enter Tryz.func119, Tryz.ntmps119
  go_wp2_with fail
  refine (copyCheck_any B b bs _ h).mono ?_
  rintro e w1 ⟨rfl, ⟨hB, v, hbk, hown, hne⟩, hb1, hk1, hsz⟩
  have c1 : w1.cell? ⟨b, 1, none⟩ = some v := cell_of hbk 1
  have hlt := lt_of_heap hbk
  have hBw1 : B ≤ w1.heap.size := by omega
  clear hsz
  go_wp2_with (at_builtin; refine Lib.wpList_append_own_string _ rfl (.tmp 12) (.tmp 13) 194 9 rfl B 5 i0 Tryz.underlying194 Tryz.underlying9 hi hz0 hz1 hz2 v bs.length bs rfl hown s rfl (by unfold maxLen; omega) (by omega) hBw1 ?_)
  intro v' w2 hown' hgrow _
  have hb2 := (hgrow.block b hlt (fun e => hne e.symm)).trans hbk
  have d1 : w2.cell? ⟨b, 1, none⟩ = some v := cell_of hb2 1
  have f1 : w2.frozen? ⟨b, 1, none⟩ = false := frozen_of hb2 1
  obtain ⟨ao, n', cap, rfl⟩ : ∃ ao n' cap, v' = .slice ao n' cap := by
    rcases hown'.2 with ⟨hv, _⟩ | ⟨g, cap, cur, hv, _⟩
    · exact ⟨_, _, _, hv⟩
    · exact ⟨_, _, _, hv⟩
  go_wp2
  go_ret2
  have hnb : (Value.slice ao n' cap).ownBlock ≠ some b := own_elem hown' hb2 (by decide)
  refine ⟨rfl, Or.inr ⟨hB, _, heap_set hb2 _, ?_, hnb⟩, ?_, ?_⟩
  · have e : (bs ++ Lib.strCells s).length = bs.length + s.size := by
      have := hown'.1
      omega
    rw [e]
    exact own_kept hown' fun k hk => heap_set_ne (fun e => hnb (by rw [hk, e])) _
  · exact (hb1.grown hgrow hBw1 (fun k hk => (own_lt hown k hk).1)).setCell hB _
  · exact (hk1.grown hgrow (own_kind hown)).setCell ⟨b, 1, none⟩ rfl _

end Go.Proofs.YtkjhhooecopolaaGreatDoor

namespace Go.Proofs.YtkjhhooecopolaaGreatDoor
open Go.RowKit

theorem addr_add (g j : Nat) : (⟨g, 0, none⟩ : Addr).add j = ⟨g, j, none⟩ := by
  unfold Addr.add; split <;> simp_all

/-- What readText answers where the text is of the grammar. -/
def OkPost (s : ByteArray) (l' : List Pl.Tk) (v : List (List (List (Int × Int)))) (w : World) (o : Option Pl.Tk) (e : Ending) (w' : World) : Prop :=
  Below w.heap.size w w' ∧ ((∃ u, o = some u ∧ e = .returned (.tuple #[.pointer none, .int .i64 3, .int .i64 u.pl])) ∨
    (o = none ∧ ∃ rb, e = .returned (.tuple #[.pointer (some ⟨rb, 0, none⟩), .int .i64 0, .int .i64 0]) ∧ w.heap.size ≤ rb ∧ RD rb s (Pl.all s.data.toList) l' v.flatten w'))

theorem find_take {α : Type} (p : α → Bool) (c : List α) (k : Nat) (a : α) (h : c[k]? = some a) (hn : (c.take k).find? p = none) :
    (p a = false → (c.take (k + 1)).find? p = none) ∧ (p a = true → c.find? p = some a) := by
  have hk := (List.getElem?_eq_some_iff.1 h).1
  have ha : c[k] = a := (List.getElem?_eq_some_iff.1 h).2
  have e : c.take (k + 1) = c.take k ++ [a] := by rw [List.take_succ_eq_append_getElem hk, ha]
  constructor
  · intro hp
    rw [e, List.find?_append, hn]
    simp [hp]
  · intro hp
    have e2 : c = (c.take k ++ [a]) ++ c.drop (k + 1) := by rw [← e, List.take_append_drop]
    rw [e2, List.find?_append, List.find?_append, hn]
    simp [hp]

set_option maxRecDepth 100000 in
set_option maxHeartbeats 2000000 in
theorem readText_ok (s : ByteArray) (w : World) (hs : s.size ≤ 400) (hG : Gl w) (t : Pl.Tk) (r c : List Pl.Tk) (v : List (List (List (Int × Int))))
    (hp : Pl.pWhole (Pl.all s.data.toList) = (true, t :: r, v)) (ht : t.k = 101) (hc : c ++ t :: r = Pl.all s.data.toList) (hc0 : 0 < c.length) :
    Calls Tryz.prog 33 #[.string s] w (OkPost s (t :: r) v w (c.find? outT)) := by
  have HP : Hid (Pl.pWhole (Pl.all s.data.toList) = (true, t :: r, v)) := hp
  have HT : Hid (∀ w1, Gl w1 → Calls Tryz.prog 60 #[.string s, .int .i64 0] w1 fun e w' => e = .returned (.agg (tokCells (Pl.tk s.data.toList 0))) ∧ Below w1.heap.size w1 w') := fun w1 g1 => tokenFrom_zero s w1 hs g1
  have hk1 : (Pl.pk t != 1) = false := by rw [Pl.pk_end.2 ht]; rfl
  have HC : Hid (c ++ t :: r = Pl.all s.data.toList) := hc
  have hcl : c.length ≤ 402 := by
    have := Pl.all_length s.data.toList
    rw [← hc] at this
    simp at this; omega
  clear hp hc ht
  generalize hk : Pl.tk s.data.toList 0 = t0 at *
  have HK : Hid (Pl.tk s.data.toList 0 = t0) := hk
  unfold tokCells at HT
  clear hk
  generalize hF : c.find? outT = F
  have HF : Hid (c.find? outT = F) := hF
  clear hF
  go_enter Tryz.func33, Tryz.ntmps33
  go_wp2_with fail
  refine (HT.out _ hG).mono ?_
  rintro e w1 ⟨rfl, hb1⟩
  have hG1 : Gl w1 := hG.below hb1 hG.sz
  go_wp2_with fail
  have hRD : RD w1.heap.size s (Pl.all s.data.toList) (Pl.all s.data.toList) [] (w1.alloc (.cells (rdCells s t0 (.slice none 0 0) (.slice none 0 0)) 80)) := RD.fresh (by rw [HK.out])
  have cx : Cx w1.heap.size s (Pl.all s.data.toList) := Cx.mk' hs hG1.sz
  refine (readWhole_any goOn_said w1.heap.size s _ _ _ cx hRD (hG1.alloc _)).mono ?_
  rintro e w2 ⟨rfl, ⟨rg2, hR2, hrg2⟩, hb2⟩
  rw [HP.out] at hR2 hrg2 ⊢
  simp only at hR2 hrg2 ⊢
  have hrg := hrg2 trivial
  subst hrg
  clear hrg2 hRD
  obtain ⟨c', t', r', tv, rv, hc', hl, hbk, hown, hrgs⟩ := id hR2
  injection hl with h1 h2
  subst h1 h2
  have hcc : c' = c := by
    have := HC.out
    rw [← hc'] at this
    exact (List.append_cancel_right this).symm
  subst hcc
  obtain ⟨g, cap, rfl, hg1, hg2⟩ := hown.form hc0
  have c1 : w2.cell? ⟨w1.heap.size, 1, none⟩ = some (.int .i64 (Pl.pk t)) := cell_of hbk 1
  have c5 : w2.cell? ⟨w1.heap.size, 5, none⟩ = some (.slice (some ⟨g, 0, none⟩) c'.length cap) := cell_of hbk 5
  have hrow := hown.cells (g := g) rfl
  have HROW : Hid (∀ j u, (tokRow c')[j]? = some u → w2.cell? ⟨g, j, none⟩ = some u) := fun j u h => by
    have := hrow j u h
    rwa [addr_add] at this
  have hbel : Below w.heap.size w w2 := ((hb1.alloc hb1.size _).trans (hb2.mono hb1.size))
  have hw1 : w.heap.size ≤ w1.heap.size := hb1.size
  clear hrow hown hrgs hbk hc' HT HP HK
  go_wp2_with fail
  go_loopg [37] c'.length (fun n i wr => ∃ k : Nat, k + n = c'.length ∧ i = .int .i64 k ∧ Hid ((c'.take k).find? outT = none) ∧ Below w2.heap.size w2 wr)
  case atStart => exact ⟨0, by omega, rfl, by show _ = _; simp, Below.refl _ _⟩
  case round =>
    obtain ⟨k, hkn, rfl, hnone, hbr⟩ := hrel
    by_cases hlt : k < c'.length
    · obtain ⟨u, hu⟩ : ∃ u, c'[k]? = some u := ⟨_, List.getElem?_eq_getElem hlt⟩
      have HU : Hid (c'[k]? = some u) := hu
      have e0 : wr.cell? ⟨g, k * 4, none⟩ = some (.int .i64 (Pl.pk u)) := by
        rw [hbr.cell (p := ⟨g, k * 4, none⟩) hg2]
        exact HROW.out (k * 4) (.int .i64 (Pl.pk u)) (by have := tokRow_get c' k u hu 0 (by omega); rw [Nat.add_zero] at this; rw [this]; rfl)
      have e1 : wr.cell? ⟨g, k * 4 + 1, none⟩ = some (.string ⟨(Pl.praw u).toArray⟩) := by
        rw [hbr.cell (p := ⟨g, k * 4 + 1, none⟩) hg2]
        exact HROW.out (k * 4 + 1) (.string ⟨(Pl.praw u).toArray⟩) (by rw [tokRow_get c' k u hu 1 (by omega)]; rfl)
      have e2 : wr.cell? ⟨g, k * 4 + 2, none⟩ = some (.int .i64 u.n) := by
        rw [hbr.cell (p := ⟨g, k * 4 + 2, none⟩) hg2]
        exact HROW.out (k * 4 + 2) (.int .i64 u.n) (by rw [tokRow_get c' k u hu 2 (by omega)]; rfl)
      have e3 : wr.cell? ⟨g, k * 4 + 3, none⟩ = some (.int .i64 u.pl) := by
        rw [hbr.cell (p := ⟨g, k * 4 + 3, none⟩) hg2]
        exact HROW.out (k * 4 + 3) (.int .i64 u.pl) (by rw [tokRow_get c' k u hu 3 (by omega)]; rfl)
      clear hu
      by_cases hnum : u.k = 110
      · have hp3 : Pl.pk u = 3 := Pl.pk_num.2 hnum
        rw [hp3] at e0
        cases hin : inR 50 u.n
        · have ho : F = some u := by
            rw [← HF.out]
            exact (find_take outT c' k u HU.out hnone.out).2 (by unfold outT; simp [hnum, hin])
          subst ho
          go_wp2_with fail
          refine (within_any u.n 50 _ (by omega) (by omega)).mono ?_
          rintro e w3 ⟨rfl, rfl⟩
          go_wp2_with fail
          go_quiet (fail)
          go_wp2_with fail
          go_ret3
          refine ⟨?_, Or.inl ⟨u, rfl, rfl⟩⟩
          have q : Below w.heap.size w (wr.alloc (.cells #[.int .i64 3, .string ⟨(Pl.praw u).toArray⟩, .int .i64 u.n, .int .i64 u.pl] 76)) := (hbel.trans (hbr.mono hbel.size)).alloc (Nat.le_trans hbel.size hbr.size) _
          exact ⟨q.os, q.tape, q.output, q.size, q.block⟩
        · have hn : Hid ((c'.take (k + 1)).find? outT = none) := (find_take outT c' k u HU.out hnone.out).1 (by unfold outT; simp [hin])
          go_wp2_with fail
          refine (within_any u.n 50 _ (by omega) (by omega)).mono ?_
          rintro e w3 ⟨rfl, rfl⟩
          go_wp2_with fail
          go_roundg (gk - 1)
          case measure => omega
          case rel => exact ⟨k + 1, by omega, by go_num, hn, hbr.alloc hbr.size _⟩
      · have hn : Hid ((c'.take (k + 1)).find? outT = none) := (find_take outT c' k u HU.out hnone.out).1 (by unfold outT; simp [hnum])
        have hp3 : (Pl.pk u == 3) = false := by
          rw [beq_eq_false_iff_ne]; intro h; exact hnum (Pl.pk_num.1 h)
        generalize Pl.pk u = pku at *
        go_wp2_with fail
        go_roundg (gk - 1)
        case measure => omega
        case rel => exact ⟨k + 1, by omega, by go_num, hn, hbr.alloc hbr.size _⟩
    · have ho : F = none := by
        rw [← HF.out]
        have := hnone.out
        rwa [List.take_of_length_le (by omega)] at this
      subst ho
      go_wp2_with fail
      go_ret3
      exact ⟨hbel.trans (hbr.mono hbel.size), Or.inr ⟨rfl, w1.heap.size, rfl, hw1, hR2.below hbr⟩⟩

end Go.Proofs.YtkjhhooecopolaaGreatDoor
