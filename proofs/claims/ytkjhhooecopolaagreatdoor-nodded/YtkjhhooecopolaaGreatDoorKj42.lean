import Derived.Test.YtkjhhooecopolaaGreatDoorKj41
import Derived.Test.YtkjhhooecopolaaGreatDoorKj38
namespace Go.Proofs.YtkjhhooecopolaaGreatDoor
open Go.RowKit

namespace Pl
/-! How many points a text can bear: each takes up two signs' tokens. -/
def Cnt {α : Type} (sz : α → Nat) (item : List Tk → Bool × List Tk × α) : Prop := ∀ l, (item l).1 = true → sz (item l).2.2 + (item l).2.1.length ≤ l.length
def sumBy {α : Type} (sz : α → Nat) (l : List α) : Nat := (l.map sz).sum
theorem sumBy_snoc {α : Type} (sz : α → Nat) (l : List α) (x : α) : sumBy sz (l ++ [x]) = sumBy sz l + sz x := by simp [sumBy]
theorem mk_le (c : Nat) (l : List Tk) : (mk c l).2.length ≤ l.length := by
  cases l with
  | nil => simp [mk]
  | cons t r =>
    have e : mk c (t :: r) = if t.k = c then (true, r) else (false, t :: r) := rfl
    rw [e]
    split <;> simp
theorem wd_le (q : List UInt8) (l : List Tk) : (wd q l).2.length ≤ l.length := by
  cases l with
  | nil => simp [wd]
  | cons t r =>
    have e : wd q (t :: r) = if t.k = 119 ∧ t.raw = q then (true, r) else (false, t :: r) := rfl
    rw [e]
    split <;> simp
theorem cnt_row {α : Type} {sz : α → Nat} {item : List Tk → Bool × List Tk × α} (hi : Cnt sz item) :
    ∀ (f : Nat) (l : List Tk) (acc : List α), (pRow item f l acc).1 = true → sumBy sz (pRow item f l acc).2.2 + (pRow item f l acc).2.1.length ≤ sumBy sz acc + l.length
  | 0, l, acc, h => by cases h
  | f + 1, l, acc, h => by
    unfold pRow at h ⊢
    by_cases h1 : (item l).1 = true
    · have k1 := hi l h1
      rw [if_pos h1] at h ⊢
      by_cases h2 : (mk 44 (item l).2.1).1 = true
      · rw [if_pos h2] at h ⊢
        have ih := cnt_row hi f _ _ h
        have k2 := mk_le 44 (item l).2.1
        rw [sumBy_snoc] at ih
        omega
      · rw [if_neg h2]
        have k2 := mk_le 41 (item l).2.1
        simp only
        rw [sumBy_snoc]
        omega
    · rw [if_neg h1] at h; cases h
theorem cnt_pt : Cnt (fun _ => 1) pPt := fun l h => by
  match l, h with
  | [], h => cases h
  | [x], h => cases h
  | x :: y :: r, h =>
    have e : pPt (x :: y :: r) = if x.k = 110 then (if y.k = 110 then (true, r, (x.n, y.n)) else (false, y :: r, (0, 0))) else (false, x :: y :: r, (0, 0)) := rfl
    rw [e] at h ⊢
    split
    · split
      · simp; omega
      · simp; omega
    · rename_i hx; rw [if_neg hx] at h; cases h
theorem cnt_ring : Cnt (sumBy fun _ => 1) pRing := fun l h => by
  unfold pRing at h ⊢
  by_cases h1 : (mk 40 l).1 = true
  · have k1 := mk_le 40 l
    rw [if_pos h1] at h ⊢
    by_cases h2 : (mk 41 (mk 40 l).2).1 = true
    · have k2 := mk_le 41 (mk 40 l).2
      rw [if_pos h2]
      simp [sumBy]
      omega
    · rw [if_neg h2] at h ⊢
      have k := cnt_row cnt_pt _ _ _ h
      have e : sumBy (fun _ : Int × Int => 1) [] = 0 := rfl
      omega
  · rw [if_neg h1] at h; cases h
theorem cnt_poly : Cnt (sumBy (sumBy fun _ => 1)) pPoly := fun l h => by
  unfold pPoly at h ⊢
  by_cases h0 : (wd EMPTY l).1 = true
  · have k0 := wd_le EMPTY l
    rw [if_pos h0]
    simp [sumBy]
    exact k0
  · rw [if_neg h0] at h ⊢
    by_cases h1 : (mk 40 l).1 = true
    · have k1 := mk_le 40 l
      rw [if_pos h1] at h ⊢
      have k := cnt_row cnt_ring _ _ _ h
      have e : sumBy (sumBy fun _ => 1) ([] : List (List (Int × Int))) = 0 := rfl
      omega
    · rw [if_neg h1] at h; cases h
theorem cnt_multi : Cnt (sumBy (sumBy (sumBy fun _ => 1))) pMulti := fun l h => by
  unfold pMulti at h ⊢
  by_cases h0 : (wd EMPTY l).1 = true
  · have k0 := wd_le EMPTY l
    rw [if_pos h0]
    simp [sumBy]
    exact k0
  · rw [if_neg h0] at h ⊢
    by_cases h1 : (mk 40 l).1 = true
    · have k1 := mk_le 40 l
      rw [if_pos h1] at h ⊢
      have k := cnt_row cnt_poly _ _ _ h
      have e : sumBy (sumBy (sumBy fun _ => 1)) ([] : List (List (List (Int × Int)))) = 0 := rfl
      omega
    · rw [if_neg h1] at h; cases h
theorem sumBy_one {α : Type} (l : List α) : sumBy (fun _ => 1) l = l.length := by
  induction l with
  | nil => rfl
  | cons a l ih =>
    have e : sumBy (fun _ => 1) (a :: l) = 1 + sumBy (fun _ => 1) l := by simp [sumBy]
    rw [e, ih, List.length_cons]
    omega
theorem edges_le (rg : List (List (Int × Int))) : (Ge.allEdges rg).length ≤ sumBy (sumBy fun _ => 1) rg := by
  induction rg with
  | nil => simp [Ge.allEdges]
  | cons g r ih =>
    have e : Ge.allEdges (g :: r) = Ge.edges g ++ Ge.allEdges r := List.flatMap_cons
    have h1 : (Ge.edges g).length ≤ g.length := by rw [← Ge.edT_all]; exact Ge.edT_le g _
    have h2 : sumBy (sumBy fun _ => 1) (g :: r) = sumBy (fun _ => 1) g + sumBy (sumBy fun _ => 1) r := by simp [sumBy]
    rw [e, List.length_append, h2, sumBy_one]
    omega
theorem sum_flat (ps : List (List (List (Int × Int)))) : sumBy (sumBy fun _ => 1) ps.flatten = sumBy (sumBy (sumBy fun _ => 1)) ps := by
  induction ps with
  | nil => rfl
  | cons p r ih =>
    have h1 : sumBy (sumBy fun _ => 1) (p ++ r.flatten) = sumBy (sumBy fun _ => 1) p + sumBy (sumBy fun _ => 1) r.flatten := by simp [sumBy]
    have h2 : sumBy (sumBy (sumBy fun _ => 1)) (p :: r) = sumBy (sumBy fun _ => 1) p + sumBy (sumBy (sumBy fun _ => 1)) r := by simp [sumBy]
    rw [List.flatten_cons, h1, h2, ih]
/-- A good text has at most 402 edges. -/
theorem edges_few {s : List UInt8} (h : (err s).1 = 0) : (Ge.allEdges (rings s)).length ≤ 402 := by
  obtain ⟨h5, _, h1, _⟩ := err_zero h
  have hl := all_length s
  have k : sumBy (sumBy (sumBy fun _ => 1)) (pWhole (all s)).2.2 ≤ (all s).length := by
    unfold pWhole at h1 ⊢
    by_cases hw : (wd POLYGON (all s)).1 = true
    · rw [if_pos hw] at h1 ⊢
      have k1 := cnt_poly _ h1
      have k2 := wd_le POLYGON (all s)
      have e : sumBy (sumBy (sumBy fun _ => 1)) [(pPoly (wd POLYGON (all s)).2).2.2] = sumBy (sumBy fun _ => 1) (pPoly (wd POLYGON (all s)).2).2.2 := by simp [sumBy]
      simp only
      rw [e]
      omega
    · rw [if_neg hw] at h1 ⊢
      by_cases hm : (wd MULTI (all s)).1 = true
      · rw [if_pos hm] at h1 ⊢
        have k1 := cnt_multi _ h1
        have k2 := wd_le MULTI (all s)
        omega
      · rw [if_neg hm] at h1; cases h1
  have k2 := edges_le (rings s)
  have k3 : sumBy (sumBy fun _ => 1) (rings s) = sumBy (sumBy (sumBy fun _ => 1)) (pWhole (all s)).2.2 := sum_flat _
  have k4 : s.length ≤ 400 := by
    unfold err at h
    by_cases hs : 400 < s.length
    · rw [if_pos hs] at h; cases h
    · omega
  omega
end Pl

end Go.Proofs.YtkjhhooecopolaaGreatDoor

namespace Go.Proofs.YtkjhhooecopolaaGreatDoor
open Go.RowKit

namespace Ge
def insAll (acc : List Qt) (c : List Qt) : List Qt := c.foldl (fun a q => ins q a) acc
/-- The nodes, in their order. -/
def nodesL (l : List (Pt × Pt)) : List Qt := l.foldl (fun acc e => insAll acc (cutsL l e)) []
theorem insAll_len (c : List Qt) : ∀ acc : List Qt, (insAll acc c).length ≤ acc.length + c.length := by
  induction c with
  | nil => intro acc; simp [insAll]
  | cons q c ih =>
    intro acc
    have h1 := ih (ins q acc)
    have h2 := ins_len q acc
    have e : insAll acc (q :: c) = insAll (ins q acc) c := rfl
    rw [e, List.length_cons]
    omega
end Ge
namespace Pl
def ntext (s : List UInt8) : List UInt8 := if (err s).1 = 0 then joinT qtxt (Ge.nodesL (Ge.allEdges (rings s))) else []
end Pl

theorem fold_len (e : Ed) : ∀ (l : List Ed) (O : List Ge.Qt), (l.foldl (Ge.stepC e) O).length ≤ O.length + 2 * l.length
  | [], O => by simp
  | f :: l, O => by
    have h1 := fold_len e l (Ge.stepC e O f)
    have h2 := step_len e O f
    rw [List.foldl_cons, List.length_cons]
    omega
theorem cuts_len (l : List Ed) (e : Ed) : (Ge.cutsL l e).length ≤ 2 + 2 * l.length := by
  have h := fold_len e l (Ge.ins (Ge.pt e.2) (Ge.ins (Ge.pt e.1) []))
  have h1 := Ge.ins_len (Ge.pt e.1) []
  have h2 := Ge.ins_len (Ge.pt e.2) (Ge.ins (Ge.pt e.1) [])
  simp at h1
  unfold Ge.cutsL
  omega
theorem qtxt_len {q : Ge.Qt} (h : QIn q) : (Pl.qtxt q).length ≤ 101 := by
  have h1 := ftxt_len h.xn h.xd
  have h2 := ftxt_len h.yn h.yd
  simp [Pl.qtxt]
  omega

def NI (w3 : World) (av : Value) (al : List Ge.Qt) (wr : World) : Prop := RdQ wr av al ∧ Good al ∧ Below w3.heap.size w3 wr
theorem NI.below {w3 wr wr' : World} {av : Value} {al : List Ge.Qt} (h : NI w3 av al wr) (hb : Below wr.heap.size wr wr') : NI w3 av al wr' :=
  ⟨keeps_below keeps_q h.1 hb, h.2.1, h.2.2.trans (hb.mono h.2.2.size)⟩
theorem with_ni {w3 wr : World} {av : Value} {al : List Ge.Qt} (h : NI w3 av al wr) (p : Ge.Qt) (hp : QIn p) (hrp : Ge.RedP p) (hl : al.length ≤ 100000000) :
    Calls Tryz.prog 83 #[av, .agg (qA p)] wr fun e w' => ∃ v', e = .returned v' ∧ NI w3 v' (Ge.ins p al) w' ∧ Below wr.heap.size wr w' := by
  refine (with_any al p av wr h.1 hl h.2.1.inn hp h.2.1.red hrp h.2.1.asc).mono ?_
  rintro e w' ⟨v', rfl, h1, h2⟩
  exact ⟨v', rfl, ⟨h1, h.2.1.ins hp hrp, h.2.2.trans (h2.mono h.2.2.size)⟩, h2⟩

set_option maxRecDepth 100000 in
set_option maxHeartbeats 4000000 in
theorem rnodes_any (s : ByteArray) (w : World) (hm : s.size ≤ maxLen) (hG : Gl w) :
    Calls Tryz.prog 55 #[.string s] w fun e w' => e = .returned (.tuple #[.string ⟨(Pl.ntext s.data.toList).toArray⟩, .int .i64 (Pl.err s.data.toList).1, .int .i64 (Pl.err s.data.toList).2]) ∧ Below w.heap.size w w' := by
  by_cases h0 : (Pl.err s.data.toList).1 = 0
  · have he2 := (err_zero h0).2.1
    have hnt : Pl.ntext s.data.toList = Pl.joinT Pl.qtxt (Ge.nodesL (Ge.allEdges (Pl.rings s.data.toList))) := if_pos h0
    have hel := Pl.edges_few h0
    have hse := (rings_ok h0).2.2.1
    have HR : Hid (∀ w1, Calls Tryz.prog 14 #[.string s] w1 fun e w' => Below w1.heap.size w1 w' ∧ ∃ W so pn pc, e = .returned (.tuple #[.agg #[.string W, .slice so pn pc, .int .i64 0], .int .i64 0, .int .i64 0]) ∧
        RdMulti w' (.slice so pn pc) (Pl.pWhole (Pl.all s.data.toList)).2.2 ∧ okMulti (Pl.pWhole (Pl.all s.data.toList)).2.2) := fun w1 => by
      refine (mread_any s w1 hm).mono ?_
      rintro e w' ⟨hb, W, so, pn, pc, rfl, hr⟩
      exact ⟨hb, W, so, pn, pc, by rw [h0, he2]; rfl, rdMulti_of h0 hr⟩
    have HED : Hid (∀ (W : ByteArray) (v : Value) w1, RdMulti w1 v (Pl.pWhole (Pl.all s.data.toList)).2.2 → okMulti (Pl.pWhole (Pl.all s.data.toList)).2.2 → Calls Tryz.prog 79 #[.agg #[.string W, v, .int .i64 0]] w1 fun e w' => ∃ v, e = .returned v ∧ RdEdges w' v (Ge.allEdges (Pl.rings s.data.toList)) ∧ Below w1.heap.size w1 w') := fun W v w1 h1 h2 => redges_any _ W v w1 h1 h2
    rw [hnt, h0, he2]
    generalize Ge.allEdges (Pl.rings s.data.toList) = ES at *
    generalize (Pl.pWhole (Pl.all s.data.toList)).2.2 = PS at *
    have HSE : Hid (∀ e ∈ ES, smallE e) := hse
    have HGL : Hid (Gl w) := hG
    clear hse h0 he2 hnt hG
    go_enter Tryz.func55, Tryz.ntmps55
    go_wp2_with fail
    refine (HR.out _).mono ?_
    rintro e w1 ⟨hb1, W, so, pn, pc, rfl, hrd, hok⟩
    have HRD : Hid (RdMulti (w1.alloc (.cells #[.string W, .slice so pn pc, .int .i64 0] 29)) (.slice so pn pc) PS ∧ okMulti PS) := ⟨keeps_below keeps_multi hrd ((Below.refl _ _).alloc (Nat.le_refl _) _), hok⟩
    have hbA : Below w.heap.size w (w1.alloc (.cells #[.string W, .slice so pn pc, .int .i64 0] 29)) := hb1.alloc hb1.size _
    clear hrd hok hb1 HR
    go_wp2_with fail
    generalize w1.alloc (.cells #[.string W, .slice so pn pc, .int .i64 0] 29) = w2 at *
    refine (HED.out _ _ _ HRD.out.1 HRD.out.2).mono ?_
    rintro e w3 ⟨lv, rfl, hre, hb3⟩
    obtain ⟨lo, lc, rfl⟩ := rdEdges_slice hre
    have HRE : Hid (RdEdges w3 (.slice lo ES.length lc) ES) := hre
    have HB3 : Hid (Below w.heap.size w w3) := hbA.trans (hb3.mono hbA.size)
    clear hre hb3 hbA HRD HED
    go_wp2_with fail
    go_loopg [9, 10] ES.length (fun m av iv wr => ∃ i : Nat, i + m = ES.length ∧ iv = .int .i64 i ∧ Hid (NI w3 av ((ES.take i).foldl (fun acc e => Ge.insAll acc (Ge.cutsL ES e)) []) wr ∧ ((ES.take i).foldl (fun acc e => Ge.insAll acc (Ge.cutsL ES e)) []).length ≤ 806 * i))
    case atStart => exact ⟨0, by omega, rfl, ⟨own_zero (World.ownsRow_nil _ 0 _ _), good_nil, Below.refl _ _⟩, by simp⟩
    case round =>
      obtain ⟨i, him, rfl, HN⟩ := hrel
      have hb4 := HN.out.1.2.2
      by_cases hlt : i < ES.length
      · obtain ⟨e, hek⟩ : ∃ e, ES[i]? = some e := ⟨_, List.getElem?_eq_getElem hlt⟩
        obtain ⟨b, rfl, hb, c0, c1, c2, c3⟩ := rdEdges_get HRE.out hek
        have r0 := (hb4.cell (p := ⟨b, i * 4, none⟩) hb).trans c0
        have r1 := (hb4.cell (p := ⟨b, i * 4 + 1, none⟩) hb).trans c1
        have r2 := (hb4.cell (p := ⟨b, i * 4 + 2, none⟩) hb).trans c2
        have r3 := (hb4.cell (p := ⟨b, i * 4 + 3, none⟩) hb).trans c3
        have hbr : b < wr.heap.size := Nat.lt_of_lt_of_le hb hb4.size
        have hki : (i : Int) < (ES.length : Int) := by omega
        have HSM : Hid (smallE e) := HSE.out e (List.mem_of_getElem? hek)
        have HT : Hid ((ES.take (i + 1)).foldl (fun acc e => Ge.insAll acc (Ge.cutsL ES e)) [] = Ge.insAll ((ES.take i).foldl (fun acc e => Ge.insAll acc (Ge.cutsL ES e)) []) (Ge.cutsL ES e)) := by
          obtain ⟨h1, h2⟩ := List.getElem?_eq_some_iff.1 hek
          rw [List.take_succ_eq_append_getElem h1, h2, List.foldl_append]; rfl
        have hlen := HN.out.2
        have hcl := cuts_len ES e
        have HCU : Hid (Calls Tryz.prog 82 #[.slice (some ⟨b, 0, none⟩) ES.length lc, .agg #[.int .i64 e.1.1, .int .i64 e.1.2, .int .i64 e.2.1, .int .i64 e.2.2]] wr fun r w' => ∃ v', r = .returned v' ∧ RdQ w' v' (Ge.cutsL ES e) ∧ Good (Ge.cutsL ES e) ∧ Below wr.heap.size wr w') := cuts_any ES e _ wr (keeps_own HRE.out fun k cur hc => hb4.block k (lt_of_heap hc)) (by omega) HSE.out HSM.out
        generalize (ES.take i).foldl (fun acc e => Ge.insAll acc (Ge.cutsL ES e)) [] = AL at *
        generalize Ge.cutsL ES e = CU at *
        clear c0 c1 c2 c3 hek
        obtain ⟨m1, hm1⟩ : ∃ m1, m1 = gk := ⟨_, rfl⟩
        go_wp2_with fail
        refine HCU.out.mono ?_
        rintro r w5 ⟨cv, rfl, hcq, hcg, hb5⟩
        obtain ⟨co, cc, rfl⟩ := rdQ_slice hcq
        have HN5 : Hid (NI w3 u9 AL w5) := HN.out.1.below hb5
        have HCQ : Hid (RdQ w5 (.slice co CU.length cc) CU ∧ Good CU) := ⟨hcq, hcg⟩
        clear r0 r1 r2 r3 hcq hcg hb5 HN hb4 HCU hbr
        go_wp2_with fail
        go_loopg [9, 12] CU.length (fun m av kv wr => ∃ k : Nat, k + m = CU.length ∧ kv = .int .i64 k ∧ Hid (NI w3 av (Ge.insAll AL (CU.take k)) wr ∧ Below w5.heap.size w5 wr))
        case atStart => exact ⟨0, by omega, rfl, HN5.out, Below.refl _ _⟩
        case round =>
          obtain ⟨k, hkm, rfl, HN6⟩ := hrel
          have hb6 := HN6.out.2
          by_cases hlt2 : k < CU.length
          · obtain ⟨q, hq⟩ : ∃ q, CU[k]? = some q := ⟨_, List.getElem?_eq_getElem hlt2⟩
            obtain ⟨b2, rfl, hb2, c0, c1, c2, c3⟩ := rdQ_get HCQ.out.1 hq
            have r0 := (hb6.cell (p := ⟨b2, k * 4, none⟩) hb2).trans c0
            have r1 := (hb6.cell (p := ⟨b2, k * 4 + 1, none⟩) hb2).trans c1
            have r2 := (hb6.cell (p := ⟨b2, k * 4 + 2, none⟩) hb2).trans c2
            have r3 := (hb6.cell (p := ⟨b2, k * 4 + 3, none⟩) hb2).trans c3
            have hbr2 : b2 < wr.heap.size := Nat.lt_of_lt_of_le hb2 hb6.size
            have hki2 : (k : Int) < (CU.length : Int) := by omega
            have hl2 := Ge.insAll_len (CU.take k) AL
            have hl3 : (CU.take k).length ≤ CU.length := by simp; omega
            have HT2 : Hid (Ge.insAll AL (CU.take (k + 1)) = Ge.ins q (Ge.insAll AL (CU.take k))) := by
              obtain ⟨h1, h2⟩ := List.getElem?_eq_some_iff.1 hq
              unfold Ge.insAll Hid
              rw [List.take_succ_eq_append_getElem h1, h2, List.foldl_append]; rfl
            have HWI : Hid (Calls Tryz.prog 83 #[u9, .agg #[.int .i64 q.1.1, .int .i64 q.1.2, .int .i64 q.2.1, .int .i64 q.2.2]] wr fun e w' => ∃ v', e = .returned v' ∧ NI w3 v' (Ge.ins q (Ge.insAll AL (CU.take k))) w' ∧ Below wr.heap.size wr w') := with_ni HN6.out.1 q (HCQ.out.2.inn q (List.mem_of_getElem? hq)) (HCQ.out.2.red q (List.mem_of_getElem? hq)) (by omega)
            clear c0 c1 c2 c3 hq
            go_wp2_with fail
            refine HWI.out.mono ?_
            rintro r w7 ⟨v7, rfl, h7, hb7⟩
            have HN7 : Hid (NI w3 v7 (Ge.insAll AL (CU.take (k + 1))) w7 ∧ Below w5.heap.size w5 w7) := ⟨by rw [HT2.out]; exact h7, hb6.trans (hb7.mono hb6.size)⟩
            clear h7 hb7 r0 r1 r2 r3
            go_wp2_with fail
            go_roundg (gk - 1)
            case measure => omega
            case rel => exact ⟨k + 1, by omega, by go_num, HN7⟩
          · have hk : k = CU.length := by omega
            subst hk
            have hl2 := Ge.insAll_len CU AL
            have HN7 : Hid (NI w3 u9 ((ES.take (i + 1)).foldl (fun acc e => Ge.insAll acc (Ge.cutsL ES e)) []) wr ∧ ((ES.take (i + 1)).foldl (fun acc e => Ge.insAll acc (Ge.cutsL ES e)) []).length ≤ 806 * (i + 1)) := by
              have h := HN6.out.1
              rw [List.take_length] at h
              rw [HT.out]
              exact ⟨h, by omega⟩
            clear HN6 hb6 HT
            go_wp2_with fail
            go_roundg (m1 - 1)
            case measure => omega
            case rel => exact ⟨i + 1, by omega, by go_num, HN7⟩
      · have hi : i = ES.length := by omega
        subst hi
        have HNF : Hid (NI w3 u9 (Ge.nodesL ES) wr ∧ (Ge.nodesL ES).length ≤ 806 * ES.length) := by
          have h := HN.out
          rw [List.take_length] at h
          exact h
        clear HN
        obtain ⟨ND, hND⟩ : ∃ ND, ND = Ge.nodesL ES := ⟨_, rfl⟩
        have HND : Hid (ND = Ge.nodesL ES) := hND
        rw [← hND] at HNF
        clear hND
        obtain ⟨no, nc, hnv⟩ := rdQ_slice HNF.out.1.1
        subst hnv
        have hndl : ND.length ≤ 400000 := by have := HNF.out.2; omega
        have HL : Hid (∀ k, (Pl.joinT Pl.qtxt (ND.take k)).length ≤ k * 103) := fun k => by
          refine Nat.le_trans (Pl.joinT_len Pl.qtxt 101 (ND.take k) fun p hp => qtxt_len (HNF.out.1.2.1.inn p (List.mem_of_mem_take hp))) ?_
          exact Nat.mul_le_mul_right _ (by simp; omega)
        have HGW : Hid (∀ w', Below wr.heap.size wr w' → Gl w' ∧ Below w.heap.size w w') := fun w' hw' => by
          have h1 : Below w.heap.size w wr := HB3.out.trans (HNF.out.1.2.2.mono HB3.out.size)
          have h2 := h1.trans (hw'.mono h1.size)
          exact ⟨HGL.out.below h2 HGL.out.sz, h2⟩
        generalize wr = wB at *
        go_wp2_with fail
        go_loopg [13, 14] ND.length (fun m tv iv wr => ∃ k : Nat, k + m = ND.length ∧ iv = .int .i64 k ∧ tv = .string ⟨(Pl.joinT Pl.qtxt (ND.take k)).toArray⟩ ∧ Hid (Below wB.heap.size wB wr))
        case atStart => exact ⟨0, by omega, rfl, rfl, Below.refl _ _⟩
        case round =>
          obtain ⟨k, hkm, rfl, rfl, HBB⟩ := hrel
          have hb6 := HBB.out
          by_cases hlt2 : k < ND.length
          · obtain ⟨q, hq⟩ : ∃ q, ND[k]? = some q := ⟨_, List.getElem?_eq_getElem hlt2⟩
            obtain ⟨b2, rfl, hb2, c0, c1, c2, c3⟩ := rdQ_get HNF.out.1.1 hq
            have r0 := (hb6.cell (p := ⟨b2, k * 4, none⟩) hb2).trans c0
            have r1 := (hb6.cell (p := ⟨b2, k * 4 + 1, none⟩) hb2).trans c1
            have r2 := (hb6.cell (p := ⟨b2, k * 4 + 2, none⟩) hb2).trans c2
            have r3 := (hb6.cell (p := ⟨b2, k * 4 + 3, none⟩) hb2).trans c3
            have hbr2 : b2 < wr.heap.size := Nat.lt_of_lt_of_le hb2 hb6.size
            have hki2 : (k : Int) < (ND.length : Int) := by omega
            have HPT : Hid (Calls Tryz.prog 74 #[.agg #[.int .i64 q.1.1, .int .i64 q.1.2, .int .i64 q.2.1, .int .i64 q.2.2]] wr fun e w' => e = .returned (.string ⟨(Pl.qtxt q).toArray⟩) ∧ Below wr.heap.size wr w') := pointText_any q wr (HGW.out _ hb6).1 (HNF.out.1.2.1.inn q (List.mem_of_getElem? hq))
            have HT : Hid (Pl.joinT Pl.qtxt (ND.take (k + 1)) = Pl.joinT Pl.qtxt (ND.take k) ++ ((if k = 0 then [] else [44, 32]) ++ Pl.qtxt q)) := joinT_take Pl.qtxt hq
            have hxl := qtxt_len (HNF.out.1.2.1.inn q (List.mem_of_getElem? hq))
            have hbl := HL.out k
            generalize Pl.joinT Pl.qtxt (ND.take k) = J at *
            generalize Pl.qtxt q = X1 at *
            clear c0 c1 c2 c3 hq
            by_cases hk0 : k = 0
            · have hq0 : decide (0 < (k : Int)) = false := by simp; omega
              have HK0 : Hid (k = 0) := hk0
              have hq1 : decide (0 < k) = false := by simp; omega
              clear hk0
              have hs1 : ¬9223372036854775807 < J.length + X1.length := by omega
              go_wp2_with fail
              refine HPT.out.mono ?_
              rintro e w7 ⟨rfl, hb7⟩
              go_wp2_with fail
              go_roundg (gk - 1)
              case measure => omega
              case rel =>
                refine ⟨k + 1, by omega, by go_num, ?_, hb6.trans (hb7.mono hb6.size)⟩
                rw [HT.out, if_pos HK0.out]
                simp [ByteArray.mk_append_mk]
            · have hq0 : decide (0 < (k : Int)) = true := by simp; omega
              have HK0 : Hid (¬ k = 0) := hk0
              have hq1 : decide (0 < k) = true := by simp; omega
              clear hk0
              have hs0 : ¬9223372036854775807 < J.length + 2 := by omega
              have hs1 : ¬9223372036854775807 < J.length + 2 + X1.length := by omega
              go_wp2_with fail
              refine HPT.out.mono ?_
              rintro e w7 ⟨rfl, hb7⟩
              go_wp2_with fail
              go_roundg (gk - 1)
              case measure => omega
              case rel =>
                refine ⟨k + 1, by omega, by go_num, ?_, hb6.trans (hb7.mono hb6.size)⟩
                rw [HT.out, if_neg HK0.out]
                simp [ByteArray.mk_append_mk]
          · have hk : k = ND.length := by omega
            subst hk
            rw [List.take_length]
            go_wp2_with fail
            go_ret3
            exact ⟨by rw [HND.out]; rfl, (HGW.out _ hb6).2⟩
  · have hnt : Pl.ntext s.data.toList = [] := if_neg h0
    have hne : (((Pl.err s.data.toList).1 : Int) != 0) = true := by rw [bne_iff_ne]; omega
    have HR : Hid (∀ w1, Calls Tryz.prog 14 #[.string s] w1 fun e w' => Below w1.heap.size w1 w' ∧ ∃ W so pn pc, e = .returned (.tuple #[.agg #[.string W, .slice so pn pc, .int .i64 0], .int .i64 (Pl.err s.data.toList).1, .int .i64 (Pl.err s.data.toList).2])) := fun w1 => by
      refine (mread_any s w1 hm).mono ?_
      rintro e w' ⟨hb, W, so, pn, pc, rfl, _⟩
      exact ⟨hb, W, so, pn, pc, rfl⟩
    rw [hnt]
    generalize (Pl.err s.data.toList).1 = E at *
    generalize (Pl.err s.data.toList).2 = Pp at *
    clear hnt h0
    go_enter Tryz.func55, Tryz.ntmps55
    go_wp2_with fail
    refine (HR.out _).mono ?_
    rintro e w1 ⟨hb1, W, so, pn, pc, rfl⟩
    go_wp2_with fail
    go_ret3
    exact ⟨rfl, hb1.alloc hb1.size _⟩

end Go.Proofs.YtkjhhooecopolaaGreatDoor
