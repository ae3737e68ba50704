import Derived.Test.YtmfnlpmlmgjleaaGreatDoorRq
import Derived.Test.YtmfnlpmlmgjleaaGreatDoorWt
namespace Go.Proofs.YtmfnlpmlmgjleaaGreatDoor
open Go.RowKit

namespace Pl

theorem Tx.bracket {α β : Type} {ok1 : α → Prop} {ok2 : β → Prop} {txt1 : α → List UInt8} {txt2 : β → List UInt8} {c : List Tk} {x : α} {y : β} {t : Tk} (T : Tx ok1 txt1 c x) (ft : Form t) (hk : t.k = 40)
    (ho : ok1 x → ok2 y) (ht : txt2 y = [40] ++ txt1 x) : Tx ok2 txt2 (t :: c) y := by
  obtain ⟨s1, _, s3⟩ := wr_sign ft 40 (by decide) hk
  refine ⟨by simp, fun p fp hp => ?_, fun p fp hp => ?_, fun p u d fu hu => ?_, fun hn hl => ?_⟩
  · rw [wtail_40 fp hp, T.br t ft hk, s1, ht]
  · rw [wtail_44 fp hp, T.br t ft hk, s1, ht]
  · show (if bb p t = true then [32] else []) ++ (wr t ++ wtail t (c ++ u :: d)) = ((if bb p t = true then [32] else []) ++ (wr t ++ wtail t c)) ++ _
    rw [T.cl t u d fu hu]
    simp [List.append_assoc]
  · have hl' : c.length + 1 ≤ 402 := by simpa using hl
    exact ho (T.okc (fun t ht => hn t (by simp [ht])) (by omega))

theorem tx_close {α : Type} {ok : List α → Prop} {txt : α → List UInt8} {t : Tk} (ft : Form t) (hk : t.k = 41) (ho : ok []) : Tx ok (fun xs => joinT txt xs ++ [41]) [t] [] := by
  obtain ⟨s1, _, s3⟩ := wr_sign ft 41 (by decide) hk
  refine ⟨by simp, fun p fp hp => ?_, fun p fp hp => ?_, fun p u d fu hu => ?_, fun _ _ => ho⟩
  · rw [wtail_40 fp hp, s1]; rfl
  · rw [wtail_44 fp hp, s1]; rfl
  · show (if bb p t = true then [32] else []) ++ (wr t ++ wtail t (u :: d)) = ((if bb p t = true then [32] else []) ++ (wr t ++ [])) ++ _
    rw [wtail_41 ft hk]
    simp [List.append_assoc]

theorem tx_word {α : Type} {ok : α → Prop} {txt : α → List UInt8} {t : Tk} {y : α} (hk : t.k = 119) (hr : t.raw = EMPTY) (ht : txt y = EMPTY) (ho : ok y) : Tx ok txt [t] y := by
  have hp : praw t = EMPTY := by unfold praw; rw [if_neg (by rw [hk]; decide), hr]
  have s1 : wr t = EMPTY := by unfold wr; rw [if_neg (by rw [hk]; decide), hp]
  refine ⟨by simp, fun p fp hp => ?_, fun p fp hp => ?_, fun p u d fu hu => ?_, fun _ _ => ho⟩
  · rw [wtail_40 fp hp, s1, ht]; rfl
  · rw [wtail_44 fp hp, s1, ht]; rfl
  · show (if bb p t = true then [32] else []) ++ (wr t ++ wtail t (u :: d)) = ((if bb p t = true then [32] else []) ++ (wr t ++ [])) ++ _
    rw [wtail_no (bb_no (by rw [hp]; decide) (Or.inl (by rw [hk]; decide)))]
    simp [List.append_assoc]

theorem says_ring : Says (fun g => okRing g ∧ g.length ≤ 402) ringT pRing := by
  intro l hf h
  unfold pRing at h ⊢
  by_cases h1 : (mk 40 l).1 = true
  · rw [if_pos h1] at h ⊢
    obtain ⟨t, ht, hk⟩ := mk_true h1
    have ft : Form t := hf t (by rw [ht]; simp)
    have hf1 : ∀ u ∈ (mk 40 l).2, Form u := fun u hu => hf u (by rw [ht]; simp [hu])
    by_cases h2 : (mk 41 (mk 40 l).2).1 = true
    · rw [if_pos h2]
      obtain ⟨t2, ht2, hk2⟩ := mk_true h2
      have ft2 : Form t2 := hf1 t2 (by rw [ht2]; simp)
      refine ⟨[t, t2], ?_, (tx_close (ok := fun g => okRing g ∧ g.length ≤ 402) (txt := ptT) ft2 hk2 ⟨fun p hp => by simp at hp, by simp⟩).bracket ft hk id rfl⟩
      show t :: t2 :: (mk 41 (mk 40 l).2).2 = l
      rw [← ht2, ← ht]
    · rw [if_neg h2] at h ⊢
      obtain ⟨c, xs, hc, hv, _, T, _⟩ := says_row says_pt l.length (mk 40 l).2 [] hf1 h
      rw [List.nil_append] at hv
      rw [hv]
      exact ⟨t :: c, by rw [List.cons_append, hc, ← ht], T.bracket ft hk (fun o => ⟨fun p hp => o.2 p hp, o.1⟩) rfl⟩
  · rw [if_neg h1] at h; cases h

def multiT (ps : List (List (List (Int × Int)))) : List UInt8 := if ps.length = 0 then EMPTY else [40] ++ (joinT polyT ps ++ [41])

theorem bodyT_eq (ps : List (List (List (Int × Int)))) : bodyT ps = MULTI ++ ([32] ++ multiT ps) := by
  unfold bodyT multiT
  by_cases h : ps.length = 0
  · rw [if_pos h, if_pos h]
  · rw [if_neg h, if_neg h]; simp

theorem says_poly : Says okPoly polyT pPoly := by
  intro l hf h
  unfold pPoly at h ⊢
  by_cases h0 : (wd EMPTY l).1 = true
  · rw [if_pos h0]
    obtain ⟨t, ht, hk, hr⟩ := wd_true h0
    exact ⟨[t], by rw [List.singleton_append, ← ht], tx_word hk hr rfl ⟨by simp, fun p hp => by simp at hp⟩⟩
  · rw [if_neg h0] at h ⊢
    by_cases h1 : (mk 40 l).1 = true
    · rw [if_pos h1] at h ⊢
      obtain ⟨t, ht, hk⟩ := mk_true h1
      have ft : Form t := hf t (by rw [ht]; simp)
      have hf1 : ∀ u ∈ (mk 40 l).2, Form u := fun u hu => hf u (by rw [ht]; simp [hu])
      obtain ⟨c, xs, hc, hv, hne, T, _⟩ := says_row says_ring l.length (mk 40 l).2 [] hf1 h
      rw [List.nil_append] at hv
      rw [hv]
      have hl : ¬ xs.length = 0 := fun e => hne (List.length_eq_zero_iff.1 e)
      exact ⟨t :: c, by rw [List.cons_append, hc, ← ht], T.bracket ft hk (fun o => ⟨o.1, fun p hp => o.2 p hp⟩) (if_neg hl)⟩
    · rw [if_neg h1] at h; cases h

theorem says_multi : Says okMulti multiT pMulti := by
  intro l hf h
  unfold pMulti at h ⊢
  by_cases h0 : (wd EMPTY l).1 = true
  · rw [if_pos h0]
    obtain ⟨t, ht, hk, hr⟩ := wd_true h0
    exact ⟨[t], by rw [List.singleton_append, ← ht], tx_word hk hr rfl ⟨by simp, fun p hp => by simp at hp⟩⟩
  · rw [if_neg h0] at h ⊢
    by_cases h1 : (mk 40 l).1 = true
    · rw [if_pos h1] at h ⊢
      obtain ⟨t, ht, hk⟩ := mk_true h1
      have ft : Form t := hf t (by rw [ht]; simp)
      have hf1 : ∀ u ∈ (mk 40 l).2, Form u := fun u hu => hf u (by rw [ht]; simp [hu])
      obtain ⟨c, xs, hc, hv, hne, T, _⟩ := says_row says_poly l.length (mk 40 l).2 [] hf1 h
      rw [List.nil_append] at hv
      rw [hv]
      have hl : ¬ xs.length = 0 := fun e => hne (List.length_eq_zero_iff.1 e)
      exact ⟨t :: c, by rw [List.cons_append, hc, ← ht], T.bracket ft hk (fun o => ⟨o.1, fun p hp => o.2 p hp⟩) (if_neg hl)⟩
    · rw [if_neg h1] at h; cases h


theorem wt_word {α : Type} {ok : α → Prop} {txt : α → List UInt8} {c : List Tk} {x : α} {a : Tk} {q : List UInt8} (T : Tx ok txt c x) (hk : a.k = 119) (hr : a.raw = q) : wt (a :: c) = q ++ ([32] ++ txt x) := by
  have h := T.br ⟨40, [40], 0, 0⟩ (Or.inr (Or.inl ⟨40, rfl, rfl, by decide⟩)) rfl
  have hne := T.ne
  cases c with
  | nil => exact absurd rfl hne
  | cons b r =>
    rw [wtail_40 (Or.inr (Or.inl ⟨40, rfl, rfl, by decide⟩)) rfl] at h
    have hp : praw a = q := by unfold praw; rw [if_neg (by rw [hk]; decide), hr]
    have s1 : wr a = q := by unfold wr; rw [if_neg (by rw [hk]; decide), hp]
    show wr a ++ ([32] ++ (wr b ++ wtail b r)) = _
    rw [h, s1]

/-- What a good text is written as, by its value. -/
theorem text_poly {s : List UInt8} (h : (err s).1 = 0) (hw : (wd POLYGON (all s)).1 = true) :
    ∃ gs, (pWhole (all s)).2.2 = [gs] ∧ okPoly gs ∧ wt (took s) = POLYGON ++ ([32] ++ polyT gs) := by
  obtain ⟨_, _, h1, _⟩ := err_zero h
  obtain ⟨_, hn, hl⟩ := took_bounds h
  have happ := took_append s
  have hpw : pWhole (all s) = ((pPoly (wd POLYGON (all s)).2).1, (pPoly (wd POLYGON (all s)).2).2.1, [(pPoly (wd POLYGON (all s)).2).2.2]) := by
    unfold pWhole; rw [if_pos hw]
  rw [hpw] at h1 happ
  obtain ⟨a, ha, hk, hr⟩ := wd_true hw
  have hf : ∀ t ∈ all s, Form t := fun t ht => place_form (all_place s t ht)
  obtain ⟨c, hc, T⟩ := says_poly (wd POLYGON (all s)).2 (fun t ht => hf t (by rw [ha]; simp [ht])) h1
  have ht : took s = a :: c := by
    refine List.append_cancel_right (happ.trans (ha.trans ?_))
    show a :: _ = a :: (c ++ _)
    rw [hc]
  rw [ht] at hn hl
  exact ⟨_, by rw [hpw], T.okc (fun t h => hn t (by simp [h])) (by simp at hl; omega), by rw [ht]; exact wt_word T hk hr⟩

theorem text_multi {s : List UInt8} (h : (err s).1 = 0) (hw0 : (wd POLYGON (all s)).1 = false) :
    (wd MULTI (all s)).1 = true ∧ okMulti (pWhole (all s)).2.2 ∧ wt (took s) = bodyT (pWhole (all s)).2.2 := by
  obtain ⟨_, _, h1, _⟩ := err_zero h
  obtain ⟨_, hn, hl⟩ := took_bounds h
  have happ := took_append s
  by_cases hw : (wd MULTI (all s)).1 = true
  · have hpw : pWhole (all s) = pMulti (wd MULTI (all s)).2 := by
      unfold pWhole; rw [if_neg (by rw [hw0]; simp), if_pos hw]
    rw [hpw] at h1 happ ⊢
    obtain ⟨a, ha, hk, hr⟩ := wd_true hw
    have hf : ∀ t ∈ all s, Form t := fun t ht => place_form (all_place s t ht)
    obtain ⟨c, hc, T⟩ := says_multi (wd MULTI (all s)).2 (fun t ht => hf t (by rw [ha]; simp [ht])) h1
    have ht : took s = a :: c := by
      refine List.append_cancel_right (happ.trans (ha.trans ?_))
      show a :: _ = a :: (c ++ _)
      rw [hc]
    rw [ht] at hn hl
    exact ⟨hw, T.okc (fun t h => hn t (by simp [h])) (by simp at hl; omega), by rw [ht, bodyT_eq]; exact wt_word T hk hr⟩
  · have hpw : pWhole (all s) = (false, all s, []) := by
      unfold pWhole; rw [if_neg (by rw [hw0]; simp), if_neg hw]
    rw [hpw] at h1
    cases h1

end Pl
end Go.Proofs.YtmfnlpmlmgjleaaGreatDoor
