import Derived.Test.YtkjhhooecopolaaGreatDoorPj17
import Derived.Test.YtkjhhooecopolaaGreatDoorPj20
namespace Go.Proofs.YtkjhhooecopolaaGreatDoor
open Go.RowKit

def Pl.ptext (s : List UInt8) : List UInt8 := if (Pl.err s).1 = 0 then Pl.wt (Pl.took s) else []

theorem err_zero {s : List UInt8} (h : (Pl.err s).1 = 0) : s.length ≤ 400 ∧ (Pl.err s).2 = 0 ∧ (Pl.pWhole (Pl.all s)).1 = true ∧ Pl.hk (Pl.pWhole (Pl.all s)).2.1 = 101 ∧ (Pl.took s).find? outT = none := by
  unfold Pl.err at h ⊢
  by_cases h1 : 400 < s.length
  · rw [if_pos h1] at h; cases h
  · rw [if_neg h1] at h ⊢
    by_cases h2 : (Pl.pWhole (Pl.all s)).1 = true ∧ Pl.hk (Pl.pWhole (Pl.all s)).2.1 = 101
    · rw [if_pos h2] at h ⊢
      cases h3 : (Pl.took s).find? outT with
      | some u => rw [h3] at h; cases h
      | none => exact ⟨by omega, rfl, h2.1, h2.2, rfl⟩
    · rw [if_neg h2] at h; cases h

theorem took_mem {s : List UInt8} {t : Pl.Tk} (h : t ∈ Pl.took s) : t ∈ Pl.all s := by
  unfold Pl.took at h
  exact List.mem_of_mem_take h

theorem took_bounds {s : List UInt8} (h : (Pl.err s).1 = 0) : (∀ t ∈ Pl.took s, (Pl.wr t).length ≤ 400) ∧ (∀ t ∈ Pl.took s, t.k = 110 → -50 ≤ t.n ∧ t.n ≤ 50) ∧ (Pl.took s).length ≤ 402 := by
  obtain ⟨h1, _, _, _, h5⟩ := err_zero h
  have hr : ∀ t ∈ Pl.took s, t.k = 110 → -50 ≤ t.n ∧ t.n ≤ 50 := fun t ht hk => by
    have := List.find?_eq_none.1 h5 t ht
    unfold outT inR at this
    simp [hk] at this
    omega
  refine ⟨fun t ht => ?_, hr, ?_⟩
  · unfold Pl.wr
    by_cases hk : t.k = 110
    · rw [if_pos hk]
      have := hr t ht hk
      have := Lib.itoa_length_le t.n (by omega) (by omega)
      omega
    · rw [if_neg hk]
      have hp := (Pl.all_place s t (took_mem ht)).1
      unfold Pl.praw
      split
      · simp
      · omega
  · have := Pl.all_length s
    unfold Pl.took
    rw [List.length_take]
    omega

set_option maxRecDepth 100000 in
set_option maxHeartbeats 1000000 in
theorem print_any (s : ByteArray) (w : World) (hm : s.size ≤ maxLen) (hG : Gl w) :
    Calls Tryz.prog 40 #[.string s] w fun e w' => e = .returned (.tuple #[.string ⟨(Pl.ptext s.data.toList).toArray⟩, .int .i64 (Pl.err s.data.toList).1, .int .i64 (Pl.err s.data.toList).2]) ∧ Below w.heap.size w w' := by
  by_cases h0 : (Pl.err s.data.toList).1 = 0
  · have hp2 := (err_zero h0).2.1
    have hpt : Pl.ptext s.data.toList = Pl.wt (Pl.took s.data.toList) := by unfold Pl.ptext; rw [if_pos h0]
    obtain ⟨hw, hn', hl⟩ := took_bounds h0
    have hn : ∀ t ∈ Pl.took s.data.toList, t.k = 110 → -9223372036854775808 ≤ t.n ∧ t.n ≤ 9223372036854775807 := fun t ht hk => by have := hn' t ht hk; omega
    have happ := Pl.took_append s.data.toList
    have hlt := Pl.pWhole_lt _ (err_zero h0).2.2.1
    have HR : Hid (∀ w1, Gl w1 → Calls Tryz.prog 33 #[.string s] w1 fun e w' => Below w1.heap.size w1 w' ∧ ∃ rb g cap, e = .returned (.tuple #[.pointer (some ⟨rb, 0, none⟩), .int .i64 0, .int .i64 0]) ∧
        w'.cell? ⟨rb, 5, none⟩ = some (.slice (some ⟨g, 0, none⟩) (Pl.took s.data.toList).length cap) ∧ g < w'.heap.size ∧ (∀ j u, (tokRow (Pl.took s.data.toList))[j]? = some u → w'.cell? ⟨g, j, none⟩ = some u)) := fun w1 g1 => by
      refine (readText_any s w1 hm g1).mono ?_
      rintro e w' ⟨hb, pv, rfl, hrd⟩
      obtain ⟨rb, rfl, _, hR⟩ := hrd h0
      obtain ⟨c, t, r, tv, rv, hc, hl', hbk, hown, _⟩ := hR
      have hcc : c = Pl.took s.data.toList := List.append_cancel_right (hc.trans happ.symm)
      subst hcc
      have h0' : 0 < (Pl.took s.data.toList).length := by
        have h2 := congrArg List.length happ
        simp only [List.length_append] at h2
        omega
      obtain ⟨g, cap, rfl, _, hg2⟩ := hown.form h0'
      refine ⟨hb, rb, g, cap, by rw [h0, hp2]; rfl, cell_of hbk 5, hg2, fun j u hu => ?_⟩
      have := hown.cells (g := g) rfl j u hu
      rwa [addr_add] at this
    rw [hpt, h0, hp2]
    clear hp2 hpt h0 happ hlt
    go_enter Tryz.func40, Tryz.ntmps40
    go_wp2_with fail
    refine (HR.out _ hG).mono ?_
    rintro e w1 ⟨hb1, rb, g, cap, rfl, c5, hg2, hrow⟩
    have HROW : Hid (∀ j u, (tokRow (Pl.took s.data.toList))[j]? = some u → w1.cell? ⟨g, j, none⟩ = some u) := hrow
    have hG1 : Gl w1 := hG.below hb1 hG.sz
    clear hrow HR
    go_wp2_with fail
    refine (writeTokens_any (Pl.took s.data.toList) g cap w1 hG1 hg2 HROW.out hl hw hn).mono ?_
    rintro e w2 ⟨rfl, hb2⟩
    go_wp2_with fail
    go_ret3
    exact ⟨rfl, hb1.trans (hb2.mono hb1.size)⟩
  · have hpt : Pl.ptext s.data.toList = [] := by unfold Pl.ptext; rw [if_neg h0]
    have HR : Hid (∀ w1, Gl w1 → Calls Tryz.prog 33 #[.string s] w1 fun e w' => Below w1.heap.size w1 w' ∧ ∃ pv, e = .returned (.tuple #[.pointer pv, .int .i64 (Pl.err s.data.toList).1, .int .i64 (Pl.err s.data.toList).2])) := fun w1 g1 => by
      refine (readText_any s w1 hm g1).mono ?_
      rintro e w' ⟨hb, pv, rfl, hrd⟩
      exact ⟨hb, pv, rfl⟩
    rw [hpt]
    have hne : (((Pl.err s.data.toList).1 : Int) != 0) = true := by rw [bne_iff_ne]; omega
    generalize (Pl.err s.data.toList).1 = E at *
    generalize (Pl.err s.data.toList).2 = Pp at *
    clear hpt h0
    go_enter Tryz.func40, Tryz.ntmps40
    go_wp2_with fail
    refine (HR.out _ hG).mono ?_
    rintro e w1 ⟨hb1, pv, rfl⟩
    go_wp2_with fail
    go_ret3
    exact ⟨rfl, hb1⟩

end Go.Proofs.YtkjhhooecopolaaGreatDoor

namespace Go.Proofs.YtkjhhooecopolaaGreatDoor
open Go.RowKit

namespace Pl

theorem Tx.bracket {α β : Type} {ok1 : α → Prop} {ok2 : β → Prop} {txt1 : α → List UInt8} {txt2 : β → List UInt8} {c : List Tk} {x : α} {y : β} {t : Tk} (T : Tx ok1 txt1 c x) (ft : Form t) (hk : t.k = 40)
    (ho : ok1 x → ok2 y) (ht : txt2 y = [40] ++ txt1 x) : Tx ok2 txt2 (t :: c) y := by
  obtain ⟨s1, _, s3⟩ := wr_sign ft 40 (by decide) hk
  refine ⟨by simp, fun p fp hp => ?_, fun p fp hp => ?_, fun p u d fu hu => ?_, fun hn hl => ?_⟩
  · rw [wtail_40 fp hp, T.br t ft hk, s1, ht]
  · rw [wtail_44 fp hp, T.br t ft hk, s1, ht]
  · show (if bb p t = true then [32] else []) ++ (wr t ++ wtail t (c ++ u :: d)) = ((if bb p t = true then [32] else []) ++ (wr t ++ wtail t c)) ++ _
    rw [T.cl t u d fu hu]
    simp [List.append_assoc]
  · have hl' : c.length + 1 ≤ 402 := by simpa using hl
    exact ho (T.okc (fun t ht => hn t (by simp [ht])) (by omega))

theorem tx_close {α : Type} {ok : List α → Prop} {txt : α → List UInt8} {t : Tk} (ft : Form t) (hk : t.k = 41) (ho : ok []) : Tx ok (fun xs => joinT txt xs ++ [41]) [t] [] := by
  obtain ⟨s1, _, s3⟩ := wr_sign ft 41 (by decide) hk
  refine ⟨by simp, fun p fp hp => ?_, fun p fp hp => ?_, fun p u d fu hu => ?_, fun _ _ => ho⟩
  · rw [wtail_40 fp hp, s1]; rfl
  · rw [wtail_44 fp hp, s1]; rfl
  · show (if bb p t = true then [32] else []) ++ (wr t ++ wtail t (u :: d)) = ((if bb p t = true then [32] else []) ++ (wr t ++ [])) ++ _
    rw [wtail_41 ft hk]
    simp [List.append_assoc]

theorem tx_word {α : Type} {ok : α → Prop} {txt : α → List UInt8} {t : Tk} {y : α} (hk : t.k = 119) (hr : t.raw = EMPTY) (ht : txt y = EMPTY) (ho : ok y) : Tx ok txt [t] y := by
  have hp : praw t = EMPTY := by unfold praw; rw [if_neg (by rw [hk]; decide), hr]
  have s1 : wr t = EMPTY := by unfold wr; rw [if_neg (by rw [hk]; decide), hp]
  refine ⟨by simp, fun p fp hp => ?_, fun p fp hp => ?_, fun p u d fu hu => ?_, fun _ _ => ho⟩
  · rw [wtail_40 fp hp, s1, ht]; rfl
  · rw [wtail_44 fp hp, s1, ht]; rfl
  · show (if bb p t = true then [32] else []) ++ (wr t ++ wtail t (u :: d)) = ((if bb p t = true then [32] else []) ++ (wr t ++ [])) ++ _
    rw [wtail_no (bb_no (by rw [hp]; decide) (Or.inl (by rw [hk]; decide)))]
    simp [List.append_assoc]

theorem says_ring : Says (fun g => okRing g ∧ g.length ≤ 402) ringT pRing := by
  intro l hf h
  unfold pRing at h ⊢
  by_cases h1 : (mk 40 l).1 = true
  · rw [if_pos h1] at h ⊢
    obtain ⟨t, ht, hk⟩ := mk_true h1
    have ft : Form t := hf t (by rw [ht]; simp)
    have hf1 : ∀ u ∈ (mk 40 l).2, Form u := fun u hu => hf u (by rw [ht]; simp [hu])
    by_cases h2 : (mk 41 (mk 40 l).2).1 = true
    · rw [if_pos h2]
      obtain ⟨t2, ht2, hk2⟩ := mk_true h2
      have ft2 : Form t2 := hf1 t2 (by rw [ht2]; simp)
      refine ⟨[t, t2], ?_, (tx_close (ok := fun g => okRing g ∧ g.length ≤ 402) (txt := ptT) ft2 hk2 ⟨fun p hp => by simp at hp, by simp⟩).bracket ft hk id rfl⟩
      show t :: t2 :: (mk 41 (mk 40 l).2).2 = l
      rw [← ht2, ← ht]
    · rw [if_neg h2] at h ⊢
      obtain ⟨c, xs, hc, hv, _, T, _⟩ := says_row says_pt l.length (mk 40 l).2 [] hf1 h
      rw [List.nil_append] at hv
      rw [hv]
      exact ⟨t :: c, by rw [List.cons_append, hc, ← ht], T.bracket ft hk (fun o => ⟨fun p hp => o.2 p hp, o.1⟩) rfl⟩
  · rw [if_neg h1] at h; cases h

def multiT (ps : List (List (List (Int × Int)))) : List UInt8 := if ps.length = 0 then EMPTY else [40] ++ (joinT polyT ps ++ [41])

theorem bodyT_eq (ps : List (List (List (Int × Int)))) : bodyT ps = MULTI ++ ([32] ++ multiT ps) := by
  unfold bodyT multiT
  by_cases h : ps.length = 0
  · rw [if_pos h, if_pos h]
  · rw [if_neg h, if_neg h]; simp

theorem says_poly : Says okPoly polyT pPoly := by
  intro l hf h
  unfold pPoly at h ⊢
  by_cases h0 : (wd EMPTY l).1 = true
  · rw [if_pos h0]
    obtain ⟨t, ht, hk, hr⟩ := wd_true h0
    exact ⟨[t], by rw [List.singleton_append, ← ht], tx_word hk hr rfl ⟨by simp, fun p hp => by simp at hp⟩⟩
  · rw [if_neg h0] at h ⊢
    by_cases h1 : (mk 40 l).1 = true
    · rw [if_pos h1] at h ⊢
      obtain ⟨t, ht, hk⟩ := mk_true h1
      have ft : Form t := hf t (by rw [ht]; simp)
      have hf1 : ∀ u ∈ (mk 40 l).2, Form u := fun u hu => hf u (by rw [ht]; simp [hu])
      obtain ⟨c, xs, hc, hv, hne, T, _⟩ := says_row says_ring l.length (mk 40 l).2 [] hf1 h
      rw [List.nil_append] at hv
      rw [hv]
      have hl : ¬ xs.length = 0 := fun e => hne (List.length_eq_zero_iff.1 e)
      exact ⟨t :: c, by rw [List.cons_append, hc, ← ht], T.bracket ft hk (fun o => ⟨o.1, fun p hp => o.2 p hp⟩) (if_neg hl)⟩
    · rw [if_neg h1] at h; cases h

theorem says_multi : Says okMulti multiT pMulti := by
  intro l hf h
  unfold pMulti at h ⊢
  by_cases h0 : (wd EMPTY l).1 = true
  · rw [if_pos h0]
    obtain ⟨t, ht, hk, hr⟩ := wd_true h0
    exact ⟨[t], by rw [List.singleton_append, ← ht], tx_word hk hr rfl ⟨by simp, fun p hp => by simp at hp⟩⟩
  · rw [if_neg h0] at h ⊢
    by_cases h1 : (mk 40 l).1 = true
    · rw [if_pos h1] at h ⊢
      obtain ⟨t, ht, hk⟩ := mk_true h1
      have ft : Form t := hf t (by rw [ht]; simp)
      have hf1 : ∀ u ∈ (mk 40 l).2, Form u := fun u hu => hf u (by rw [ht]; simp [hu])
      obtain ⟨c, xs, hc, hv, hne, T, _⟩ := says_row says_poly l.length (mk 40 l).2 [] hf1 h
      rw [List.nil_append] at hv
      rw [hv]
      have hl : ¬ xs.length = 0 := fun e => hne (List.length_eq_zero_iff.1 e)
      exact ⟨t :: c, by rw [List.cons_append, hc, ← ht], T.bracket ft hk (fun o => ⟨o.1, fun p hp => o.2 p hp⟩) (if_neg hl)⟩
    · rw [if_neg h1] at h; cases h


theorem wt_word {α : Type} {ok : α → Prop} {txt : α → List UInt8} {c : List Tk} {x : α} {a : Tk} {q : List UInt8} (T : Tx ok txt c x) (hk : a.k = 119) (hr : a.raw = q) : wt (a :: c) = q ++ ([32] ++ txt x) := by
  have h := T.br ⟨40, [40], 0, 0⟩ (Or.inr (Or.inl ⟨40, rfl, rfl, by decide⟩)) rfl
  have hne := T.ne
  cases c with
  | nil => exact absurd rfl hne
  | cons b r =>
    rw [wtail_40 (Or.inr (Or.inl ⟨40, rfl, rfl, by decide⟩)) rfl] at h
    have hp : praw a = q := by unfold praw; rw [if_neg (by rw [hk]; decide), hr]
    have s1 : wr a = q := by unfold wr; rw [if_neg (by rw [hk]; decide), hp]
    show wr a ++ ([32] ++ (wr b ++ wtail b r)) = _
    rw [h, s1]

/-- What a good text is written as, by its value. -/
theorem text_poly {s : List UInt8} (h : (err s).1 = 0) (hw : (wd POLYGON (all s)).1 = true) :
    ∃ gs, (pWhole (all s)).2.2 = [gs] ∧ okPoly gs ∧ wt (took s) = POLYGON ++ ([32] ++ polyT gs) := by
  obtain ⟨_, _, h1, _⟩ := err_zero h
  obtain ⟨_, hn, hl⟩ := took_bounds h
  have happ := took_append s
  have hpw : pWhole (all s) = ((pPoly (wd POLYGON (all s)).2).1, (pPoly (wd POLYGON (all s)).2).2.1, [(pPoly (wd POLYGON (all s)).2).2.2]) := by
    unfold pWhole; rw [if_pos hw]
  rw [hpw] at h1 happ
  obtain ⟨a, ha, hk, hr⟩ := wd_true hw
  have hf : ∀ t ∈ all s, Form t := fun t ht => place_form (all_place s t ht)
  obtain ⟨c, hc, T⟩ := says_poly (wd POLYGON (all s)).2 (fun t ht => hf t (by rw [ha]; simp [ht])) h1
  have ht : took s = a :: c := by
    refine List.append_cancel_right (happ.trans (ha.trans ?_))
    show a :: _ = a :: (c ++ _)
    rw [hc]
  rw [ht] at hn hl
  exact ⟨_, by rw [hpw], T.okc (fun t h => hn t (by simp [h])) (by simp at hl; omega), by rw [ht]; exact wt_word T hk hr⟩

theorem text_multi {s : List UInt8} (h : (err s).1 = 0) (hw0 : (wd POLYGON (all s)).1 = false) :
    (wd MULTI (all s)).1 = true ∧ okMulti (pWhole (all s)).2.2 ∧ wt (took s) = bodyT (pWhole (all s)).2.2 := by
  obtain ⟨_, _, h1, _⟩ := err_zero h
  obtain ⟨_, hn, hl⟩ := took_bounds h
  have happ := took_append s
  by_cases hw : (wd MULTI (all s)).1 = true
  · have hpw : pWhole (all s) = pMulti (wd MULTI (all s)).2 := by
      unfold pWhole; rw [if_neg (by rw [hw0]; simp), if_pos hw]
    rw [hpw] at h1 happ ⊢
    obtain ⟨a, ha, hk, hr⟩ := wd_true hw
    have hf : ∀ t ∈ all s, Form t := fun t ht => place_form (all_place s t ht)
    obtain ⟨c, hc, T⟩ := says_multi (wd MULTI (all s)).2 (fun t ht => hf t (by rw [ha]; simp [ht])) h1
    have ht : took s = a :: c := by
      refine List.append_cancel_right (happ.trans (ha.trans ?_))
      show a :: _ = a :: (c ++ _)
      rw [hc]
    rw [ht] at hn hl
    exact ⟨hw, T.okc (fun t h => hn t (by simp [h])) (by simp at hl; omega), by rw [ht, bodyT_eq]; exact wt_word T hk hr⟩
  · have hpw : pWhole (all s) = (false, all s, []) := by
      unfold pWhole; rw [if_neg (by rw [hw0]; simp), if_neg hw]
    rw [hpw] at h1
    cases h1

end Pl
end Go.Proofs.YtkjhhooecopolaaGreatDoor
