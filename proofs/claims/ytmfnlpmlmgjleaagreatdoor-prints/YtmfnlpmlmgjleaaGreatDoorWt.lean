import Derived.Test.YtmfnlpmlmgjleaaGreatDoorWs
namespace Go.Proofs.YtmfnlpmlmgjleaaGreatDoor
open Go.RowKit

def Pl.ptext (s : List UInt8) : List UInt8 := if (Pl.err s).1 = 0 then Pl.wt (Pl.took s) else []

theorem err_zero {s : List UInt8} (h : (Pl.err s).1 = 0) : s.length ≤ 400 ∧ (Pl.err s).2 = 0 ∧ (Pl.pWhole (Pl.all s)).1 = true ∧ Pl.hk (Pl.pWhole (Pl.all s)).2.1 = 101 ∧ (Pl.took s).find? outT = none := by
  unfold Pl.err at h ⊢
  by_cases h1 : 400 < s.length
  · rw [if_pos h1] at h; cases h
  · rw [if_neg h1] at h ⊢
    by_cases h2 : (Pl.pWhole (Pl.all s)).1 = true ∧ Pl.hk (Pl.pWhole (Pl.all s)).2.1 = 101
    · rw [if_pos h2] at h ⊢
      cases h3 : (Pl.took s).find? outT with
      | some u => rw [h3] at h; cases h
      | none => exact ⟨by omega, rfl, h2.1, h2.2, rfl⟩
    · rw [if_neg h2] at h; cases h

theorem took_mem {s : List UInt8} {t : Pl.Tk} (h : t ∈ Pl.took s) : t ∈ Pl.all s := by
  unfold Pl.took at h
  exact List.mem_of_mem_take h

theorem took_bounds {s : List UInt8} (h : (Pl.err s).1 = 0) : (∀ t ∈ Pl.took s, (Pl.wr t).length ≤ 400) ∧ (∀ t ∈ Pl.took s, t.k = 110 → -50 ≤ t.n ∧ t.n ≤ 50) ∧ (Pl.took s).length ≤ 402 := by
  obtain ⟨h1, _, _, _, h5⟩ := err_zero h
  have hr : ∀ t ∈ Pl.took s, t.k = 110 → -50 ≤ t.n ∧ t.n ≤ 50 := fun t ht hk => by
    have := List.find?_eq_none.1 h5 t ht
    unfold outT inR at this
    simp [hk] at this
    omega
  refine ⟨fun t ht => ?_, hr, ?_⟩
  · unfold Pl.wr
    by_cases hk : t.k = 110
    · rw [if_pos hk]
      have := hr t ht hk
      have := Lib.itoa_length_le t.n (by omega) (by omega)
      omega
    · rw [if_neg hk]
      have hp := (Pl.all_place s t (took_mem ht)).1
      unfold Pl.praw
      split
      · simp
      · omega
  · have := Pl.all_length s
    unfold Pl.took
    rw [List.length_take]
    omega

set_option maxRecDepth 100000 in
set_option maxHeartbeats 1000000 in
theorem print_any (s : ByteArray) (w : World) (hm : s.size ≤ maxLen) (hG : Gl w) :
    Calls Tryz.prog 19 #[.string s] w fun e w' => e = .returned (.tuple #[.string ⟨(Pl.ptext s.data.toList).toArray⟩, .int .i64 (Pl.err s.data.toList).1, .int .i64 (Pl.err s.data.toList).2]) ∧ Below w.heap.size w w' := by
  by_cases h0 : (Pl.err s.data.toList).1 = 0
  · have hp2 := (err_zero h0).2.1
    have hpt : Pl.ptext s.data.toList = Pl.wt (Pl.took s.data.toList) := by unfold Pl.ptext; rw [if_pos h0]
    obtain ⟨hw, hn', hl⟩ := took_bounds h0
    have hn : ∀ t ∈ Pl.took s.data.toList, t.k = 110 → -9223372036854775808 ≤ t.n ∧ t.n ≤ 9223372036854775807 := fun t ht hk => by have := hn' t ht hk; omega
    have happ := Pl.took_append s.data.toList
    have hlt := Pl.pWhole_lt _ (err_zero h0).2.2.1
    have HR : Hid (∀ w1, Gl w1 → Calls Tryz.prog 20 #[.string s] w1 fun e w' => Below w1.heap.size w1 w' ∧ ∃ rb g cap, e = .returned (.tuple #[.pointer (some ⟨rb, 0, none⟩), .int .i64 0, .int .i64 0]) ∧
        w'.cell? ⟨rb, 5, none⟩ = some (.slice (some ⟨g, 0, none⟩) (Pl.took s.data.toList).length cap) ∧ g < w'.heap.size ∧ (∀ j u, (tokRow (Pl.took s.data.toList))[j]? = some u → w'.cell? ⟨g, j, none⟩ = some u)) := fun w1 g1 => by
      refine (readText_any s w1 hm g1).mono ?_
      rintro e w' ⟨hb, pv, rfl, hrd⟩
      obtain ⟨rb, rfl, _, hR⟩ := hrd h0
      obtain ⟨c, t, r, tv, rv, hc, hl', hbk, hown, _⟩ := hR
      have hcc : c = Pl.took s.data.toList := List.append_cancel_right (hc.trans happ.symm)
      subst hcc
      have h0' : 0 < (Pl.took s.data.toList).length := by
        have h2 := congrArg List.length happ
        simp only [List.length_append] at h2
        omega
      obtain ⟨g, cap, rfl, _, hg2⟩ := hown.form h0'
      refine ⟨hb, rb, g, cap, by rw [h0, hp2]; rfl, cell_of hbk 5, hg2, fun j u hu => ?_⟩
      have := hown.cells (g := g) rfl j u hu
      rwa [addr_add] at this
    rw [hpt, h0, hp2]
    clear hp2 hpt h0 happ hlt
    go_enter Tryz.func19, Tryz.ntmps19
    go_wp2_with fail
    refine (HR.out _ hG).mono ?_
    rintro e w1 ⟨hb1, rb, g, cap, rfl, c5, hg2, hrow⟩
    have HROW : Hid (∀ j u, (tokRow (Pl.took s.data.toList))[j]? = some u → w1.cell? ⟨g, j, none⟩ = some u) := hrow
    have hG1 : Gl w1 := hG.below hb1 hG.sz
    clear hrow HR
    go_wp2_with fail
    refine (writeTokens_any (Pl.took s.data.toList) g cap w1 hG1 hg2 HROW.out hl hw hn).mono ?_
    rintro e w2 ⟨rfl, hb2⟩
    go_wp2_with fail
    go_ret3
    exact ⟨rfl, hb1.trans (hb2.mono hb1.size)⟩
  · have hpt : Pl.ptext s.data.toList = [] := by unfold Pl.ptext; rw [if_neg h0]
    have HR : Hid (∀ w1, Gl w1 → Calls Tryz.prog 20 #[.string s] w1 fun e w' => Below w1.heap.size w1 w' ∧ ∃ pv, e = .returned (.tuple #[.pointer pv, .int .i64 (Pl.err s.data.toList).1, .int .i64 (Pl.err s.data.toList).2])) := fun w1 g1 => by
      refine (readText_any s w1 hm g1).mono ?_
      rintro e w' ⟨hb, pv, rfl, hrd⟩
      exact ⟨hb, pv, rfl⟩
    rw [hpt]
    have hne : (((Pl.err s.data.toList).1 : Int) != 0) = true := by rw [bne_iff_ne]; omega
    generalize (Pl.err s.data.toList).1 = E at *
    generalize (Pl.err s.data.toList).2 = Pp at *
    clear hpt h0
    go_enter Tryz.func19, Tryz.ntmps19
    go_wp2_with fail
    refine (HR.out _ hG).mono ?_
    rintro e w1 ⟨hb1, pv, rfl⟩
    go_wp2_with fail
    go_ret3
    exact ⟨rfl, hb1⟩

end Go.Proofs.YtmfnlpmlmgjleaaGreatDoor
