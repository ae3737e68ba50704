import Derived.Test.YtkjhhooecopolaaGreatDoorPj06
import Derived.Deep.LoopGhost
namespace Go.Proofs.YtkjhhooecopolaaGreatDoor
open Go.RowKit

def TokPost (t : Pl.Tk) (w : World) (e : Ending) (w' : World) : Prop :=
  Below w.heap.size w w' ∧ ∃ j : Nat, e = .returned (.tuple #[.agg (refCells t), .int .i64 j]) ∧ j ≤ 1000 ∧ (¬ (t.k = 101 ∨ t.k = 120) → j = t.pl + t.raw.length)

theorem rToken_any (s : ByteArray) (i : Nat) (w : World) (hi : i ≤ s.size) (hs : s.size ≤ 400) :
    Calls Tryz.prog 57 #[.string s, .int .i64 i] w (TokPost (Pl.tkBody (s.data.toList.drop i) i) w) := by
  by_cases hlt : i < s.size
  · rw [Pl.drop_cons s i hlt]
    by_cases hsg : s[i].toNat = 40 ∨ s[i].toNat = 41 ∨ s[i].toNat = 44 ∨ s[i].toNat = 47
    · refine (rToken_sign s i w hlt hs hsg).mono ?_
      rintro e w' ⟨rfl, hb⟩
      have e1 : Pl.tkBody (s[i] :: s.data.toList.drop (i + 1)) i = ⟨s[i].toNat, [s[i]], 0, i⟩ := by simp only [Pl.tkBody]; rw [if_pos hsg]
      rw [e1]
      refine ⟨hb, i + 1, ?_, by omega, fun _ => rfl⟩
      have e2 : s.extract i (i + 1) = ⟨#[s[i]]⟩ := by
        rw [Pl.extract_eq, Nat.add_sub_cancel_left, Pl.drop_cons s i hlt]; rfl
      rw [e2]
      have e3 : Pl.rS ⟨s[i].toNat, [s[i]], 0, i⟩ = [s[i]] := by unfold Pl.rS; rw [if_neg (by show ¬ s[i].toNat = 110; omega)]
      unfold refCells
      rw [e3]
    · by_cases hl : Pl.isLet s[i] = true
      · refine (rToken_word s i _ w hlt hs hl rfl).mono ?_
        rintro e w' ⟨rfl, hb⟩
        have e1 : Pl.tkBody (s[i] :: s.data.toList.drop (i + 1)) i = ⟨119, (s[i] :: s.data.toList.drop (i + 1)).takeWhile Pl.isLet, 0, i⟩ := by simp only [Pl.tkBody]; rw [if_neg hsg, if_pos hl]
        rw [e1, ← Pl.drop_cons s i hlt]
        have hle := (List.takeWhile_prefix Pl.isLet (l := s.data.toList.drop i)).length_le
        simp at hle
        refine ⟨hb, i + ((s.data.toList.drop i).takeWhile Pl.isLet).length, ?_, by omega, fun _ => rfl⟩
        rw [Pl.extract_eq, Nat.add_sub_cancel_left, Pl.take_takeWhile]
        rfl
      · have hl' : Pl.isLet s[i] = false := by simpa using hl
        have hdl : ∀ d, (digsAt s d).length ≤ s.size - d := fun d => by
          have := (List.takeWhile_prefix Pl.isDig (l := s.data.toList.drop d)).length_le
          simp at this
          unfold digsAt; omega
        by_cases hm : s[i].toNat = 45
        · refine (rToken_num_true s i w hlt hs hl' hsg (by simp; omega)).mono ?_
          rintro e w' ⟨hb, h⟩
          have e1 : Pl.tkBody (s[i] :: s.data.toList.drop (i + 1)) i = (if digsAt s (i + 1) = [] ∨ 9 < (digsAt s (i + 1)).length then ⟨120, [], 0, i⟩ else ⟨110, s[i] :: digsAt s (i + 1), - (Pl.decv (digsAt s (i + 1)) : Int), i⟩) := by
            simp only [Pl.tkBody]; rw [if_neg hsg, if_neg hl, if_pos hm]; rfl
          rw [e1]
          rcases h with ⟨h1, j, hj, rfl⟩ | ⟨h1, rfl⟩
          · rw [if_pos h1]
            exact ⟨hb, j, rfl, hj, fun h => absurd (Or.inr rfl) h⟩
          · rw [if_neg h1]
            have := hdl (i + 1)
            exact ⟨hb, _, rfl, by omega, fun _ => by simp only [List.length_cons]; omega⟩
        · refine (rToken_num_false s i w hlt hs hl' hsg (by simp; omega)).mono ?_
          rintro e w' ⟨hb, h⟩
          have e1 : Pl.tkBody (s[i] :: s.data.toList.drop (i + 1)) i = (if digsAt s i = [] ∨ 9 < (digsAt s i).length then ⟨120, [], 0, i⟩ else ⟨110, digsAt s i, (Pl.decv (digsAt s i) : Int), i⟩) := by
            simp only [Pl.tkBody]; rw [if_neg hsg, if_neg hl, if_neg hm]
            unfold digsAt
            rw [Pl.drop_cons s i hlt]
          rw [e1]
          rcases h with ⟨h1, j, hj, rfl⟩ | ⟨h1, rfl⟩
          · rw [if_pos h1]
            exact ⟨hb, j, rfl, hj, fun h => absurd (Or.inr rfl) h⟩
          · rw [if_neg h1]
            have := hdl i
            exact ⟨hb, _, rfl, by omega, fun _ => rfl⟩
  · have he : i = s.size := by omega
    refine (rToken_end s i w (by omega) (by omega) hs).mono ?_
    rintro e w' ⟨rfl, hb⟩
    have e1 : Pl.tkBody (s.data.toList.drop i) i = ⟨101, [], 0, i⟩ := by
      rw [List.drop_of_length_le (by simp; omega)]; rfl
    rw [e1]
    exact ⟨hb, i, rfl, by omega, fun h => absurd (Or.inl rfl) h⟩

def refRow (c : List Pl.Tk) : List Value := c.flatMap fun t => (refCells t).toList

theorem refRow_snoc (c : List Pl.Tk) (t : Pl.Tk) : refRow (c ++ [t]) = refRow c ++ (refCells t).toList := by simp [refRow]

theorem refInfo : (Tryz.prog.info? 61).map (fun i => (i.zero, i.size, i.bytes)) = some (some (.agg #[.int .u8 0, .string ⟨#[]⟩, .int .i64 0, .int .i64 0]), 4, 40) := by kernel_rfl

theorem grown_two {w1 w2 : World} {o1 o2 : Obj} {row : Option Nat} (hg : ((w1.alloc o1).alloc o2).grownBy w2 row) (hne : row ≠ some w1.heap.size) :
    w2.heap[w1.heap.size]? = some o1 ∧ ∀ k, k < w1.heap.size → row ≠ some k → w2.heap[k]? = w1.heap[k]? := by
  refine ⟨?_, fun k hk hr => ?_⟩
  · rw [hg.block w1.heap.size (by simp; omega) (fun e => hne e.symm), Below.heap_alloc _ _ _ (by simp)]
    exact heap_alloc_new w1 o1
  · rw [hg.block k (by simp; omega) (fun e => hr e.symm), Below.heap_alloc _ _ _ (by simp; omega), Below.heap_alloc _ _ _ hk]

/-- The tokens that have been made: those ahead of place i. -/
def Toks (_s : ByteArray) (w : World) (c : List Pl.Tk) (lv : Value) (wr : World) : Prop :=
  wr.ownsRow w.heap.size 61 4 lv c.length (refRow c) ∧ Below w.heap.size w wr ∧ w.heap.size ≤ wr.heap.size

set_option maxRecDepth 100000 in
set_option maxHeartbeats 2000000 in
theorem rTokens_any (s : ByteArray) (w : World) (hs : s.size ≤ 400) :
    Calls Tryz.prog 28 #[.string s] w fun e w' => ∃ v, e = .returned v ∧ w'.ownsRow w.heap.size 61 4 v (Pl.all s.data.toList).length (refRow (Pl.all s.data.toList)) ∧ Below w.heap.size w w' := by
  obtain ⟨i0, hi, hz0, hz1, hz2⟩ := info_parts refInfo
  go_enter Tryz.func28, Tryz.ntmps28
  go_wp2_with fail
  go_loopg [3, 4, 5] (s.size + 2) (fun g lv iv kv wr => ∃ (c : List Pl.Tk) (i : Nat) (k : Nat), iv = .int .i64 i ∧ kv = .int .u8 k ∧ c.length ≤ 402 ∧ i ≤ 1000 ∧ Hid (Toks s w c lv wr) ∧
      Hid ((k ≠ 101 ∧ k ≠ 120 ∧ i ≤ s.size ∧ s.size < g + i ∧ 1 ≤ g ∧ c.length ≤ i ∧ ∃ f, s.size < f + i ∧ c ++ Pl.toks s.data.toList f i = Pl.all s.data.toList) ∨ ((k = 101 ∨ k = 120) ∧ c = Pl.all s.data.toList)))
  case atStart =>
    refine ⟨[], 0, 32, rfl, rfl, by simp, by omega, ⟨World.ownsRow_nil _ _ _ _, Below.refl _ _, Nat.le_refl _⟩, Or.inl ⟨by omega, by omega, by omega, by omega, by omega, by simp, s.size + 1, by omega, ?_⟩⟩
    unfold Pl.all; simp
  case round =>
    obtain ⟨c, i, k, rfl, rfl, hc, hi1, HT, HR⟩ := hrel
    rcases HR.out with ⟨hk1, hk2, hi2, hg, hg1, hci, f, hf, happ⟩ | ⟨hk, rfl⟩
    · obtain ⟨hown, hbel, hsz⟩ := HT.out
      have q1 : ((k : Int) != 101) = true := by rw [bne_iff_ne]; omega
      have q2 : ((k : Int) != 120) = true := by rw [bne_iff_ne]; omega
      obtain ⟨f1, rfl⟩ : ∃ f1, f = f1 + 1 := ⟨f - 1, by omega⟩
      have hbl := Pl.bl_le s.data.toList i (by simpa using hi2)
      have hnx := Pl.tk_next s.data.toList i (by simpa using hi2)
      have hj1 : Pl.bl s.data.toList i ≤ s.size := by simpa using hbl.2
      have hn1 : (Pl.tk s.data.toList i).pl + (Pl.tk s.data.toList i).raw.length ≤ s.size := by simpa using hnx.1
      have HC : Hid (∀ w1, Calls Tryz.prog 57 #[.string s, .int .i64 (Pl.bl s.data.toList i)] w1 fun e w' => Below w1.heap.size w1 w' ∧ ∃ j : Nat, e = .returned (.tuple #[.agg #[.int .u8 (Pl.tk s.data.toList i).k, .string ⟨(Pl.rS (Pl.tk s.data.toList i)).toArray⟩, .int .i64 (Pl.tk s.data.toList i).n, .int .i64 (Pl.tk s.data.toList i).pl], .int .i64 j]) ∧ j ≤ 1000 ∧ (¬ ((Pl.tk s.data.toList i).k = 101 ∨ (Pl.tk s.data.toList i).k = 120) → j = (Pl.tk s.data.toList i).pl + (Pl.tk s.data.toList i).raw.length)) := fun w1 => rToken_any s _ w1 hj1 hs
      have HA : Hid (c ++ Pl.toks s.data.toList (f1 + 1) i = Pl.all s.data.toList) := happ
      have HJ : Hid (Pl.bl s.data.toList i = i + ((s.data.toList.drop i).takeWhile Pl.isBl).length) := rfl
      have HN : Hid ((Pl.tk s.data.toList i).pl + (Pl.tk s.data.toList i).raw.length ≤ s.size ∧ ((Pl.tk s.data.toList i).k = 101 ∨ (Pl.tk s.data.toList i).k = 120 ∨ i + 1 ≤ (Pl.tk s.data.toList i).pl + (Pl.tk s.data.toList i).raw.length)) := ⟨hn1, hnx.2⟩
      have HTK : Hid (Pl.toks s.data.toList (f1 + 1) i = if (Pl.tk s.data.toList i).k = 101 ∨ (Pl.tk s.data.toList i).k = 120 then [Pl.tk s.data.toList i] else Pl.tk s.data.toList i :: Pl.toks s.data.toList f1 ((Pl.tk s.data.toList i).pl + (Pl.tk s.data.toList i).raw.length)) := by
        show _ = _
        rw [Pl.toks]
      clear happ hnx hbl hn1
      generalize Pl.bl s.data.toList i = b at *
      generalize Pl.tk s.data.toList i = t at *
      generalize hrs : (Pl.rS t) = rs at *
      have HRS : Hid (Pl.rS t = rs) := hrs
      clear hrs
      clear HR HT
      go_wp2_with fail
      obtain ⟨wo, rfl⟩ : ∃ wo : World, wo = wr := ⟨_, rfl⟩
      go_loop [4] (fun t => ∃ j : Nat, j ≤ s.size ∧ t = .int .i64 j ∧ Hid (j + ((s.data.toList.drop j).takeWhile Pl.isBl).length = b)) (fun t => s.size - (intOf t).toNat)
      case atStart => exact ⟨i, hi2, rfl, HJ.out.symm⟩
      case round =>
        obtain ⟨j, hj, rfl, HE⟩ := hrel
        have hstop : (¬ ∃ h : j < s.size, Pl.isBl s[j] = true) → j = b := by
          intro h
          have h2 := HE.out
          by_cases hlt : j < s.size
          · have hp' : Pl.isBl s[j] = false := by
              cases hp : Pl.isBl s[j]
              · rfl
              · exact absurd ⟨hlt, hp⟩ h
            have h1 := takeWhile_drop_no Pl.isBl s.data.toList j (by simpa using hlt) hp'
            omega
          · rw [List.drop_of_length_le (by simp; omega : s.data.toList.length ≤ j)] at h2
            simpa using h2
        have HST : Hid ((¬ ∃ h : j < s.size, Pl.isBl s[j] = true) → j = b) := hstop
        clear hstop
        by_cases hgo : ∃ h : j < s.size, Pl.isBl s[j] = true
        · obtain ⟨hlt, hp⟩ := hgo
          have HS : Hid (j + 1 + ((s.data.toList.drop (j + 1)).takeWhile Pl.isBl).length = b) := by
            have h1 := takeWhile_drop_yes Pl.isBl s.data.toList j (by simpa using hlt) hp
            have h2 := HE.out
            show _ = _
            omega
          have hb32 : ((s[j].toNat : Int) == 32) = true := by have := of_decide_eq_true hp; simp; omega
          clear HE HST hp
          go_wp2_with fail
          go_round
          case rel => exact ⟨j + 1, by omega, by go_num, HS⟩
          case measure => simp [intOf]; omega
        · have hjb := HST.out hgo
          subst hjb
          clear HE HST
          by_cases hlt : j < s.size
          · have hb32 : ((s[j].toNat : Int) == 32) = false := by
              have : ¬ Pl.isBl s[j] = true := fun h => hgo ⟨hlt, h⟩
              unfold Pl.isBl at this
              simp at this ⊢; omega
            clear hgo
            go_wp2_with fail
            refine (HC.out _).mono ?_
            rintro e w1 ⟨hb1, j1, rfl, hj1', hnext⟩
            have HNX : Hid (¬ (t.k = 101 ∨ t.k = 120) → j1 = t.pl + t.raw.length) := hnext
            clear hnext
            have hown1 := own_kept hown (fun k hk => hb1.block k (own_lt hown k hk).2)
            have hs1 := hb1.size
            go_wp2_with (at_builtin; refine wpList_append_lies _ rfl (.tmp 32) (.tmp 34) 52 rfl w.heap.size 61 i0 _ 4 40 Tryz.underlying52 hi hz0 hz1 hz2 rfl (by decide) u3 c.length (refRow c) rfl (own_kept hown1 (fun k hk => (Below.heap_alloc _ _ _ (by have := (own_lt hown1 k hk).2; simp; omega)).trans (Below.heap_alloc _ _ _ (own_lt hown1 k hk).2))) ⟨w1.heap.size + 1, 0, none⟩ 1 1 [.int .u8 t.k, .string ⟨rs.toArray⟩, .int .i64 t.n, .int .i64 t.pl] rfl rfl (World.news_of_block (cs := #[.int .u8 t.k, .string ⟨rs.toArray⟩, .int .i64 t.n, .int .i64 t.pl]) (t := 61) (fr := (0, 0)) (by have := heap_alloc_new (w1.alloc (.cells #[.int .u8 t.k, .string ⟨rs.toArray⟩, .int .i64 t.n, .int .i64 t.pl] 61)) (.cells #[.int .u8 t.k, .string ⟨rs.toArray⟩, .int .i64 t.n, .int .i64 t.pl] 61); simpa using this)) (by simp [Value.oneCell']) (by decide) (by unfold maxLen; omega) (by omega) (by simp; omega) (w1.heap.size + 2) (by simp) ?_; intro g cap w2 ho hgrow hat hlt2; have hbx := (grown_two hgrow (fun e => by have := (own_lt hown1 _ e).2; omega)).1; have x0 : w2.cell? ⟨w1.heap.size, 0, none⟩ = some (.int .u8 t.k) := cell_of hbx 0)
            have hk2 := (grown_two hgrow (fun e => by have := (own_lt hown1 _ e).2; omega)).2
            have hT2 : Toks s w (c ++ [t]) (.slice (some ⟨g, 0, none⟩) (c.length + 1) cap) w2 := by
              refine ⟨?_, ?_, ?_⟩
              · rw [refRow_snoc]; simp only [List.length_append, List.length_cons, List.length_nil, Nat.zero_add]; rw [← HRS.out] at ho; exact ho
              · exact (((hbel.trans (hb1.mono hsz)).alloc (by omega) _).alloc (by simp; omega) _).grown hgrow (by simp; omega) (fun k hk => (own_lt hown1 k hk).1)
              · have := hgrow.size; simp at this; omega
            obtain ⟨n1, n2⟩ := HN.out
            have htk := HTK.out
            have hap := HA.out
            go_roundg (gk - 1)
            case measure => omega
            case rel =>
              refine ⟨c ++ [t], j1, t.k, rfl, rfl, ?_, hj1', hT2, ?_⟩
              · simp; omega
              · by_cases hst : t.k = 101 ∨ t.k = 120
                · refine Or.inr ⟨hst, ?_⟩
                  rw [htk, if_pos hst] at hap
                  exact hap
                · have hj := HNX.out hst
                  have hge : i + 1 ≤ t.pl + t.raw.length := by
                    rcases n2 with h | h | h
                    · exact absurd (Or.inl h) hst
                    · exact absurd (Or.inr h) hst
                    · exact h
                  rw [htk, if_neg hst] at hap
                  refine Or.inl ⟨fun h => hst (Or.inl h), fun h => hst (Or.inr h), by omega, by omega, by omega, by simp; omega, f1, by omega, ?_⟩
                  rw [hj, List.append_assoc]; exact hap
          · clear hgo
            go_wp2_with fail
            refine (HC.out _).mono ?_
            rintro e w1 ⟨hb1, j1, rfl, hj1', hnext⟩
            have HNX : Hid (¬ (t.k = 101 ∨ t.k = 120) → j1 = t.pl + t.raw.length) := hnext
            clear hnext
            have hown1 := own_kept hown (fun k hk => hb1.block k (own_lt hown k hk).2)
            have hs1 := hb1.size
            go_wp2_with (at_builtin; refine wpList_append_lies _ rfl (.tmp 32) (.tmp 34) 52 rfl w.heap.size 61 i0 _ 4 40 Tryz.underlying52 hi hz0 hz1 hz2 rfl (by decide) u3 c.length (refRow c) rfl (own_kept hown1 (fun k hk => (Below.heap_alloc _ _ _ (by have := (own_lt hown1 k hk).2; simp; omega)).trans (Below.heap_alloc _ _ _ (own_lt hown1 k hk).2))) ⟨w1.heap.size + 1, 0, none⟩ 1 1 [.int .u8 t.k, .string ⟨rs.toArray⟩, .int .i64 t.n, .int .i64 t.pl] rfl rfl (World.news_of_block (cs := #[.int .u8 t.k, .string ⟨rs.toArray⟩, .int .i64 t.n, .int .i64 t.pl]) (t := 61) (fr := (0, 0)) (by have := heap_alloc_new (w1.alloc (.cells #[.int .u8 t.k, .string ⟨rs.toArray⟩, .int .i64 t.n, .int .i64 t.pl] 61)) (.cells #[.int .u8 t.k, .string ⟨rs.toArray⟩, .int .i64 t.n, .int .i64 t.pl] 61); simpa using this)) (by simp [Value.oneCell']) (by decide) (by unfold maxLen; omega) (by omega) (by simp; omega) (w1.heap.size + 2) (by simp) ?_; intro g cap w2 ho hgrow hat hlt2; have hbx := (grown_two hgrow (fun e => by have := (own_lt hown1 _ e).2; omega)).1; have x0 : w2.cell? ⟨w1.heap.size, 0, none⟩ = some (.int .u8 t.k) := cell_of hbx 0)
            have hk2 := (grown_two hgrow (fun e => by have := (own_lt hown1 _ e).2; omega)).2
            have hT2 : Toks s w (c ++ [t]) (.slice (some ⟨g, 0, none⟩) (c.length + 1) cap) w2 := by
              refine ⟨?_, ?_, ?_⟩
              · rw [refRow_snoc]; simp only [List.length_append, List.length_cons, List.length_nil, Nat.zero_add]; rw [← HRS.out] at ho; exact ho
              · exact (((hbel.trans (hb1.mono hsz)).alloc (by omega) _).alloc (by simp; omega) _).grown hgrow (by simp; omega) (fun k hk => (own_lt hown1 k hk).1)
              · have := hgrow.size; simp at this; omega
            obtain ⟨n1, n2⟩ := HN.out
            have htk := HTK.out
            have hap := HA.out
            go_roundg (gk - 1)
            case measure => omega
            case rel =>
              refine ⟨c ++ [t], j1, t.k, rfl, rfl, ?_, hj1', hT2, ?_⟩
              · simp; omega
              · by_cases hst : t.k = 101 ∨ t.k = 120
                · refine Or.inr ⟨hst, ?_⟩
                  rw [htk, if_pos hst] at hap
                  exact hap
                · have hj := HNX.out hst
                  have hge : i + 1 ≤ t.pl + t.raw.length := by
                    rcases n2 with h | h | h
                    · exact absurd (Or.inl h) hst
                    · exact absurd (Or.inr h) hst
                    · exact h
                  rw [htk, if_neg hst] at hap
                  refine Or.inl ⟨fun h => hst (Or.inl h), fun h => hst (Or.inr h), by omega, by omega, by omega, by simp; omega, f1, by omega, ?_⟩
                  rw [hj, List.append_assoc]; exact hap
    · obtain ⟨hown, hbel, _⟩ := HT.out
      rcases hk with rfl | rfl
      · clear HR HT
        go_wp2_with fail
        go_ret
        exact ⟨_, rfl, hown, hbel⟩
      · clear HR HT
        go_wp2_with fail
        go_ret
        exact ⟨_, rfl, hown, hbel⟩

end Go.Proofs.YtkjhhooecopolaaGreatDoor

namespace Go.Proofs.YtkjhhooecopolaaGreatDoor
open Go.RowKit

/-- What stays the same while a text is read. -/
structure Cx (rb : Nat) (s : ByteArray) (A : List Pl.Tk) : Prop where
  hs : s.size ≤ 400
  ch : Pl.Chain s.data.toList A
  len : A.length ≤ 402
  pl : ∀ t ∈ A, Pl.Place s.data.toList t
  rb : 6 ≤ rb

theorem own_elem {w : World} {base : Nat} {e e' : TypeId} {size : Nat} {v : Value} {n k : Nat} {xs : List Value} {cur : Array Value} (h : w.ownsRow base e size v n xs)
    (hk : w.heap[k]? = some (.cells cur e' (0, 0))) (hne : e' ≠ e) : v.ownBlock ≠ some k := by
  intro hv
  rcases h.2 with ⟨ha, _⟩ | ⟨g, cap, cur', hv', hg, hh, r⟩
  · rw [ha] at hv; cases hv
  · rw [hv'] at hv
    have : g = k := by simpa [Value.ownBlock] using hv
    subst this
    rw [hh] at hk
    injection hk with hk
    injection hk with _ hk _
    exact hne hk.symm

/-- The tokens' row does not lie at block k. -/
def NT (rb k : Nat) (w : World) : Prop := ∃ tv, w.cell? ⟨rb, 5, none⟩ = some tv ∧ tv.ownBlock ≠ some k
/-- What is not the reader's stays. -/
def Kp (rb : Nat) (w w' : World) : Prop := ∀ k o, k ≠ rb → NT rb k w → w.heap[k]? = some o → w'.heap[k]? = some o ∧ NT rb k w'

def GoOnSaid : Prop := ∀ (rb : Nat) (s : ByteArray) (A r : List Pl.Tk) (t : Pl.Tk) (rg : List (List (Int × Int))) (w : World), Cx rb s A → RD rb s A (t :: r) rg w → Gl w →
    (t.k = 119 ∨ t.k = 110 ∨ t.k = 40 ∨ t.k = 41 ∨ t.k = 44) →
    Calls Tryz.prog 148 #[.pointer (some ⟨rb, 0, none⟩)] w fun e w' => e = .returned (.tuple #[]) ∧ RD rb s A r rg w' ∧ Below rb w w' ∧ Kp rb w w'

theorem RD.cells {rb : Nat} {s : ByteArray} {A l : List Pl.Tk} {rg : List (List (Int × Int))} {w : World} (h : RD rb s A l rg w) :
    ∃ t r, l = t :: r ∧ w.cell? ⟨rb, 0, none⟩ = some (.string s) ∧ w.cell? ⟨rb, 1, none⟩ = some (.int .i64 (Pl.pk t)) ∧ w.cell? ⟨rb, 2, none⟩ = some (.string ⟨(Pl.praw t).toArray⟩) ∧ w.cell? ⟨rb, 3, none⟩ = some (.int .i64 t.n) ∧ w.cell? ⟨rb, 4, none⟩ = some (.int .i64 t.pl) := by
  obtain ⟨c, t, r, tv, rv, hc, hl, hb, hown, hrg⟩ := h
  exact ⟨t, r, hl, cell_of hb 0, cell_of hb 1, cell_of hb 2, cell_of hb 3, cell_of hb 4⟩

theorem RD.below {rb : Nat} {s : ByteArray} {A l : List Pl.Tk} {rg : List (List (Int × Int))} {w w' : World} (h : RD rb s A l rg w) (hb : Below w.heap.size w w') : RD rb s A l rg w' := by
  obtain ⟨c, t, r, tv, rv, hc, hl, hbk, hown, hrg⟩ := h
  refine ⟨c, t, r, tv, rv, hc, hl, (hb.block rb (lt_of_heap hbk)).trans hbk, own_kept hown fun k hk => hb.block k (own_lt hown k hk).2, hrg.kept fun k cur e hk _ _ => hb.block k (lt_of_heap hk)⟩

theorem RD.alloc {rb : Nat} {s : ByteArray} {A l : List Pl.Tk} {rg : List (List (Int × Int))} {w : World} (h : RD rb s A l rg w) (o : Obj) : RD rb s A l rg (w.alloc o) :=
  h.below ((Below.refl _ _).alloc (Nat.le_refl _) o)

theorem RD.lt {rb : Nat} {s : ByteArray} {A l : List Pl.Tk} {rg : List (List (Int × Int))} {w : World} (h : RD rb s A l rg w) : rb < w.heap.size := by
  obtain ⟨c, t, r, tv, rv, hc, hl, hbk, hown, hrg⟩ := h
  exact lt_of_heap hbk

theorem RD.nt {rb : Nat} {s : ByteArray} {A l : List Pl.Tk} {rg : List (List (Int × Int))} {w : World} (h : RD rb s A l rg w) (k : Nat) (hk : w.heap.size ≤ k) : NT rb k w := by
  obtain ⟨c, t, r, tv, rv, hc, hl, hbk, hown, hrg⟩ := h
  exact ⟨tv, cell_of hbk 5, fun e => by have := (own_lt hown k e).2; omega⟩

theorem NT.below {rb k : Nat} {w w' : World} (h : NT rb k w) (hrb : rb < w.heap.size) (hb : Below w.heap.size w w') : NT rb k w' := by
  obtain ⟨tv, h1, h2⟩ := h
  exact ⟨tv, (hb.cell (p := ⟨rb, 5, none⟩) hrb).trans h1, h2⟩

end Go.Proofs.YtkjhhooecopolaaGreatDoor
