import Derived.Test.YtmfnlpmlmgjleaaGreatDoorWg
import Derived.Test.YtmfnlpmlmgjleaaGreatDoorMf
namespace Go.Proofs.YtmfnlpmlmgjleaaGreatDoor
open Go.RowKit

theorem goOn_rd {rb : Nat} {s : ByteArray} {A r : List Pl.Tk} {t : Pl.Tk} {rg : List (List (Int × Int))} {w : World} (cx : Cx rb s A) (hR : RD rb s A (t :: r) rg w) (hG : Gl w)
    (hk : t.k = 119 ∨ t.k = 110 ∨ t.k = 40 ∨ t.k = 41 ∨ t.k = 44) :
    Calls Tryz.prog 111 #[.pointer (some ⟨rb, 0, none⟩)] w fun e w' => e = .returned (.tuple #[]) ∧ RD rb s A r rg w' ∧ Below rb w w' ∧ Kp rb w w' := by
  obtain ⟨c, t', r', tv, rv, hc, hl, hb, hown, hrg⟩ := hR
  injection hl with h1 h2
  subst h1 h2
  have hch : Pl.Chain s.data.toList (t :: r) := Pl.chain_suffix _ c _ (by rw [hc]; exact cx.ch) (by simp)
  obtain ⟨u, r', hr, hu, hcr⟩ := Pl.chain_next _ t r hch (by omega)
  have hpl := cx.pl t (by rw [← hc]; simp)
  have hsz : s.data.toList.length = s.size := by simp
  have hlen : c.length + (r.length + 1) ≤ 402 := by have := cx.len; rw [← hc] at this; simpa using this
  have hraw : Pl.praw t = t.raw := by unfold Pl.praw; rw [if_neg (by omega)]
  have hp1 := hpl.1
  rw [hsz] at hp1
  have hrs : (⟨(Pl.praw t).toArray⟩ : ByteArray).size = t.raw.length := by rw [hraw]; rfl
  have hs := cx.hs
  refine (goOn_walk rb s _ _ _ t.pl (t.pl + t.raw.length) tv rv c.length (tokRow c) w (Pl.pk u) ⟨(Pl.praw u).toArray⟩ u.n u.pl hb hown (by omega) (by omega) (by rw [hrs]; omega) (by rw [hrs]) hG cx.rb ?_).mono ?_
  · intro w1 g1
    have := tokenFrom_any numberAt_said s (t.pl + t.raw.length) w1 hp1 cx.hs g1
    rw [← hu] at this
    exact this
  · rintro e w' ⟨rfl, ⟨⟨tv', hb', hown', htv⟩, hkeep, hbel⟩⟩
    refine ⟨rfl, ⟨c ++ [t], u, r', tv', rv, by rw [← hc]; simp, hr, hb', ?_, ?_⟩, hbel, ?_⟩
    · rw [tokRow_snoc]
      simpa [tokCells] using hown'
    · refine hrg.kept fun k cur e hk' he hlt => ?_
      refine hkeep k (lt_of_heap hk') (by omega) (own_elem hown hk' ?_)
      rcases he with rfl | rfl <;> decide
    · rintro k o hne ⟨tv0, h0, h1⟩ hk'
      rw [cell_of hb 5] at h0
      injection h0 with h0
      subst h0
      refine ⟨(hkeep k (lt_of_heap hk') hne h1).trans hk', tv', cell_of hb' 5, fun e => ?_⟩
      rcases htv k e with h | h
      · exact h1 h
      · have := lt_of_heap hk'; omega

theorem goOn_said : GoOnSaid := fun _ _ _ _ _ _ _ cx hR hG hk => goOn_rd cx hR hG hk

end Go.Proofs.YtmfnlpmlmgjleaaGreatDoor
