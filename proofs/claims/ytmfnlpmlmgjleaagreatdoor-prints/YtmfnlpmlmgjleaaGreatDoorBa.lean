import Derived.Test.YtmfnlpmlmgjleaaGreatDoorMg
import Derived.Lib.AppendStr
import Derived.Lib.OthersKept
import Derived.Laws.Externs
namespace Go.Proofs.YtmfnlpmlmgjleaaGreatDoor
open Go.RowKit

theorem bldSize : (Tryz.prog.info? 149).map (·.size) = some 2 := by kernel_rfl
theorem bldLies : liesAt Tryz.prog Tryz.prog.depth 149 (2 / Tryz.prog.cellsOf 149) 0 149 1 = true := by kernel_rfl

set_option maxRecDepth 100000 in
set_option maxHeartbeats 400000 in
theorem copyCheck_new (_B b : Nat) (v : Value) (w : World) (hbk : w.heap[b]? = some (.cells #[.pointer none, v] 149 (0, 0))) :
    Calls Tryz.prog 108 #[.pointer (some ⟨b, 0, none⟩)] w fun e w' => e = .returned (.tuple #[]) ∧ w' = w.setCell ⟨b, 0, none⟩ (.pointer (some ⟨b, 0, none⟩)) := by
  have c0 : w.cell? ⟨b, 0, none⟩ = some (.pointer none) := cell_of hbk 0
  have f0 : w.frozen? ⟨b, 0, none⟩ = false := frozen_of hbk 0
  go_enter Tryz.func108, Tryz.ntmps108
  have hsh : w.shape? b = some (149, 2) := by simp [World.shape?, hbk]
  obtain ⟨j, hj, hjs⟩ := Option.map_eq_some_iff.1 bldSize
  go_wp2
  rw [Lib.run_to_unsafe w ⟨b, 0, none⟩ Tryz.underlying146 Tryz.underlying197 hj (by rw [hjs]; decide) hsh (Nat.zero_lt_succ 1)]
  simp only [Result.andThen]
  rw [Oper.upon_value]
  go_wp2
  rw [run_callFunc_extern Tryz.func129 (by kernel_rfl) (by kernel_rfl) (by kernel_rfl) (e := Extern.AbiNoEscape.same) (by kernel_rfl)]
  rw [Lib.run_noEscape]
  simp only [Result.andThen]
  rw [Oper.upon_value]
  go_wp2
  rw [Lib.run_from_unsafe w ⟨b, 0, none⟩ Tryz.underlying197 Tryz.underlying146 hj hsh bldLies]
  simp only [Result.andThen]
  rw [Oper.upon_value]
  go_wp2
  go_end0
  exact ⟨rfl, rfl⟩

set_option maxRecDepth 100000 in
set_option maxHeartbeats 400000 in
theorem copyCheck_old (b : Nat) (v : Value) (w : World) (hbk : w.heap[b]? = some (.cells #[.pointer (some ⟨b, 0, none⟩), v] 149 (0, 0))) :
    Calls Tryz.prog 108 #[.pointer (some ⟨b, 0, none⟩)] w fun e w' => e = .returned (.tuple #[]) ∧ w' = w := by
  have c0 : w.cell? ⟨b, 0, none⟩ = some (.pointer (some ⟨b, 0, none⟩)) := cell_of hbk 0
  go_enter Tryz.func108, Tryz.ntmps108
  obtain ⟨j, hj, _⟩ := Option.map_eq_some_iff.1 bldSize
  go_wp2
  rw [Lib.run_neq_ptr_same w _ Tryz.underlying146 hj]
  go_wp2
  go_end0
  exact ⟨rfl, rfl⟩

/-- Behind the check the builder knows its own place. -/
theorem copyCheck_any (B b : Nat) (bs : List Value) (w : World) (h : Lib.IsBuilder 149 5 B b bs w) :
    Calls Tryz.prog 108 #[.pointer (some ⟨b, 0, none⟩)] w fun e w' => e = .returned (.tuple #[]) ∧ Lib.BuilderAt 149 5 B b (.pointer (some ⟨b, 0, none⟩)) bs w' ∧ Below B w w' ∧ Lib.OthersKept 5 (some b) w w' ∧ w'.heap.size = w.heap.size := by
  rcases h with ⟨hB, v, hbk, hown, hne⟩ | ⟨hB, v, hbk, hown, hne⟩
  · refine (copyCheck_new B b v w hbk).mono ?_
    rintro e w' ⟨rfl, rfl⟩
    refine ⟨rfl, ⟨hB, v, heap_set hbk _, own_kept hown fun k hk => heap_set_ne (fun e => hne (by rw [hk, e])) _, hne⟩, (Below.refl _ _).setCell hB _, (Lib.OthersKept.refl _ _ _).setCell ⟨b, 0, none⟩ rfl _, by simp⟩
  · refine (copyCheck_old b v w hbk).mono ?_
    rintro e w' ⟨rfl, rfl⟩
    exact ⟨rfl, ⟨hB, v, hbk, hown, hne⟩, Below.refl _ _, Lib.OthersKept.refl _ _ _, rfl⟩

theorem byteInfo : (Tryz.prog.info? 5).map (fun i => (i.zero, i.size, i.bytes)) = some (some (.int .u8 0), 1, 1) := by kernel_rfl

theorem own_kind {w : World} {B : Nat} {e : TypeId} {size : Nat} {v : Value} {n : Nat} {xs : List Value} (h : w.ownsRow B e size v n xs) : ∀ g, v.ownBlock = some g → ∃ c fz, w.heap[g]? = some (.cells c e fz) := fun g hg => by
  obtain ⟨c, hc⟩ := heap_of_own h hg
  exact ⟨c, _, hc⟩

set_option maxRecDepth 100000 in
set_option maxHeartbeats 1000000 in
theorem writeByte_any (B b : Nat) (bs : List Value) (c : Int) (w : World) (h : Lib.IsBuilder 149 5 B b bs w) (hBw : B ≤ w.heap.size) (hlen : bs.length ≤ 1000000) :
    Calls Tryz.prog 74 #[.pointer (some ⟨b, 0, none⟩), .int .u8 c] w fun e w' => e = .returned .nilIface ∧ Lib.IsBuilder 149 5 B b (bs ++ [.int .u8 c]) w' ∧ Below B w w' ∧ Lib.OthersKept 5 (some b) w w' := by
  obtain ⟨i0, hi, hz0, hz1, hz2⟩ := info_parts byteInfo
  go_enter Tryz.func74, Tryz.ntmps74
  go_wp2_with fail
  refine (copyCheck_any B b bs _ h).mono ?_
  rintro e w1 ⟨rfl, ⟨hB, v, hbk, hown, hne⟩, hb1, hk1, hsz⟩
  have c1 : w1.cell? ⟨b, 1, none⟩ = some v := cell_of hbk 1
  have hlt := lt_of_heap hbk
  have HSZ : Hid (w1.heap.size = w.heap.size) := hsz
  have hBw1 : B ≤ w1.heap.size := by omega
  clear hsz
  go_wp2_with (at_builtin; refine wpList_append_lies _ rfl (.tmp 11) (.tmp 13) 147 rfl B 5 i0 _ 1 1 Tryz.underlying147 hi hz0 hz1 hz2 rfl (by decide) v bs.length bs rfl (own_kept hown (fun k hk => Below.heap_alloc _ _ _ (own_lt hown k hk).2)) ⟨w1.heap.size, 0, none⟩ 1 1 [.int .u8 c] rfl rfl (World.news_of_block (cs := #[.int .u8 c]) (t := 5) (fr := (0, 0)) (heap_alloc_new w1 _)) (by simp [Value.oneCell']) (by decide) (by unfold maxLen; omega) (by omega) (by simp; omega) (w1.heap.size + 1) (by simp) ?_; intro g cap w2 ho hgrow hat hlt2; have hb2 := (grown_heap hgrow b hlt hne).trans hbk; have d1 : w2.cell? ⟨b, 1, none⟩ = some v := cell_of hb2 1; have f1 : w2.frozen? ⟨b, 1, none⟩ = false := frozen_of hb2 1)
  go_ret
  have hgb : g ≠ b := fun e => by
    rcases hat with h | h
    · exact hne (by rw [h, e])
    · omega
  refine ⟨rfl, Or.inr ⟨hB, _, heap_set hb2 _, ?_, fun e => hgb (by simpa [Value.ownBlock] using e)⟩, ?_, ?_⟩
  · simp only [List.length_append, List.length_cons, List.length_nil, Nat.zero_add]
    exact own_kept ho fun k hk => heap_set_ne (fun e => hgb (by rw [← e]; simpa [Value.ownBlock] using hk)) _
  · exact (((hb1.alloc hBw1 _).grown hgrow (by simp; omega) (fun k hk => (own_lt hown k hk).1))).setCell hB _
  · exact ((hk1.alloc _).grown hgrow (fun g hg => by
      obtain ⟨c, fz, hc⟩ := own_kind hown g hg
      exact ⟨c, fz, (Below.heap_alloc _ _ _ (lt_of_heap hc)).trans hc⟩)).setCell ⟨b, 1, none⟩ rfl _

set_option maxRecDepth 100000 in
set_option maxHeartbeats 1000000 in
theorem writeString_any (B b : Nat) (bs : List Value) (s : ByteArray) (w : World) (h : Lib.IsBuilder 149 5 B b bs w) (hBw : B ≤ w.heap.size) (hlen : bs.length ≤ 1000000) (hs : s.size ≤ 1000000) :
    Calls Tryz.prog 75 #[.pointer (some ⟨b, 0, none⟩), .string s] w fun e w' => e = .returned (.tuple #[.int .i64 s.size, .nilIface]) ∧ Lib.IsBuilder 149 5 B b (bs ++ Lib.strCells s) w' ∧ Below B w w' ∧ Lib.OthersKept 5 (some b) w w' := by
  obtain ⟨i0, hi, hz0, hz1, hz2⟩ := info_parts byteInfo
  go_enter Tryz.func75, Tryz.ntmps75
  go_wp2_with fail
  refine (copyCheck_any B b bs _ h).mono ?_
  rintro e w1 ⟨rfl, ⟨hB, v, hbk, hown, hne⟩, hb1, hk1, hsz⟩
  have c1 : w1.cell? ⟨b, 1, none⟩ = some v := cell_of hbk 1
  have hlt := lt_of_heap hbk
  have hBw1 : B ≤ w1.heap.size := by omega
  clear hsz
  go_wp2_with (at_builtin; refine Lib.wpList_append_own_string _ rfl (.tmp 12) (.tmp 13) 147 9 rfl B 5 i0 Tryz.underlying147 Tryz.underlying9 hi hz0 hz1 hz2 v bs.length bs rfl hown s rfl (by unfold maxLen; omega) (by omega) hBw1 ?_)
  intro v' w2 hown' hgrow _
  have hb2 := (hgrow.block b hlt (fun e => hne e.symm)).trans hbk
  have d1 : w2.cell? ⟨b, 1, none⟩ = some v := cell_of hb2 1
  have f1 : w2.frozen? ⟨b, 1, none⟩ = false := frozen_of hb2 1
  obtain ⟨ao, n', cap, rfl⟩ : ∃ ao n' cap, v' = .slice ao n' cap := by
    rcases hown'.2 with ⟨hv, _⟩ | ⟨g, cap, cur, hv, _⟩
    · exact ⟨_, _, _, hv⟩
    · exact ⟨_, _, _, hv⟩
  go_wp2
  go_ret2
  have hnb : (Value.slice ao n' cap).ownBlock ≠ some b := own_elem hown' hb2 (by decide)
  refine ⟨rfl, Or.inr ⟨hB, _, heap_set hb2 _, ?_, hnb⟩, ?_, ?_⟩
  · have e : (bs ++ Lib.strCells s).length = bs.length + s.size := by
      have := hown'.1
      omega
    rw [e]
    exact own_kept hown' fun k hk => heap_set_ne (fun e => hnb (by rw [hk, e])) _
  · exact (hb1.grown hgrow hBw1 (fun k hk => (own_lt hown k hk).1)).setCell hB _
  · exact (hk1.grown hgrow (own_kind hown)).setCell ⟨b, 1, none⟩ rfl _

end Go.Proofs.YtmfnlpmlmgjleaaGreatDoor
