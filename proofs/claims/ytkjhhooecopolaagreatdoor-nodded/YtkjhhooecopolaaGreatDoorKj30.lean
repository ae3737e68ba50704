import Derived.Test.YtkjhhooecopolaaGreatDoorKj26
import Derived.Test.YtkjhhooecopolaaGreatDoorKj29
import Derived.Test.YtkjhhooecopolaaGreatDoorKj23
namespace Go.Proofs.YtkjhhooecopolaaGreatDoor
open Go.RowKit

namespace Ge
def insAll (acc : List Qt) (c : List Qt) : List Qt := c.foldl (fun a q => ins q a) acc
/-- The nodes, in their order. -/
def nodesL (l : List (Pt × Pt)) : List Qt := l.foldl (fun acc e => insAll acc (cutsL l e)) []
theorem insAll_len (c : List Qt) : ∀ acc : List Qt, (insAll acc c).length ≤ acc.length + c.length := by
  induction c with
  | nil => intro acc; simp [insAll]
  | cons q c ih =>
    intro acc
    have h1 := ih (ins q acc)
    have h2 := ins_len q acc
    have e : insAll acc (q :: c) = insAll (ins q acc) c := rfl
    rw [e, List.length_cons]
    omega
end Ge
namespace Pl
def ntext (s : List UInt8) : List UInt8 := if (err s).1 = 0 then joinT qtxt (Ge.nodesL (Ge.allEdges (rings s))) else []
end Pl

theorem fold_len (e : Ed) : ∀ (l : List Ed) (O : List Ge.Qt), (l.foldl (Ge.stepC e) O).length ≤ O.length + 2 * l.length
  | [], O => by simp
  | f :: l, O => by
    have h1 := fold_len e l (Ge.stepC e O f)
    have h2 := step_len e O f
    rw [List.foldl_cons, List.length_cons]
    omega
theorem cuts_len (l : List Ed) (e : Ed) : (Ge.cutsL l e).length ≤ 2 + 2 * l.length := by
  have h := fold_len e l (Ge.ins (Ge.pt e.2) (Ge.ins (Ge.pt e.1) []))
  have h1 := Ge.ins_len (Ge.pt e.1) []
  have h2 := Ge.ins_len (Ge.pt e.2) (Ge.ins (Ge.pt e.1) [])
  simp at h1
  unfold Ge.cutsL
  omega
theorem qtxt_len {q : Ge.Qt} (h : QIn q) : (Pl.qtxt q).length ≤ 101 := by
  have h1 := ftxt_len h.xn h.xd
  have h2 := ftxt_len h.yn h.yd
  simp [Pl.qtxt]
  omega

def NI (w3 : World) (av : Value) (al : List Ge.Qt) (wr : World) : Prop := RdQ wr av al ∧ Good al ∧ Below w3.heap.size w3 wr
theorem NI.below {w3 wr wr' : World} {av : Value} {al : List Ge.Qt} (h : NI w3 av al wr) (hb : Below wr.heap.size wr wr') : NI w3 av al wr' :=
  ⟨keeps_below keeps_q h.1 hb, h.2.1, h.2.2.trans (hb.mono h.2.2.size)⟩
theorem with_ni {w3 wr : World} {av : Value} {al : List Ge.Qt} (h : NI w3 av al wr) (p : Ge.Qt) (hp : QIn p) (hrp : Ge.RedP p) (hl : al.length ≤ 100000000) :
    Calls Tryz.prog 83 #[av, .agg (qA p)] wr fun e w' => ∃ v', e = .returned v' ∧ NI w3 v' (Ge.ins p al) w' ∧ Below wr.heap.size wr w' := by
  refine (with_any al p av wr h.1 hl h.2.1.inn hp h.2.1.red hrp h.2.1.asc).mono ?_
  rintro e w' ⟨v', rfl, h1, h2⟩
  exact ⟨v', rfl, ⟨h1, h.2.1.ins hp hrp, h.2.2.trans (h2.mono h.2.2.size)⟩, h2⟩

set_option maxRecDepth 100000 in
set_option maxHeartbeats 4000000 in
theorem rnodes_any (s : ByteArray) (w : World) (hm : s.size ≤ maxLen) (hG : Gl w) :
    Calls Tryz.prog 55 #[.string s] w fun e w' => e = .returned (.tuple #[.string ⟨(Pl.ntext s.data.toList).toArray⟩, .int .i64 (Pl.err s.data.toList).1, .int .i64 (Pl.err s.data.toList).2]) ∧ Below w.heap.size w w' := by
  by_cases h0 : (Pl.err s.data.toList).1 = 0
  · have he2 := (err_zero h0).2.1
    have hnt : Pl.ntext s.data.toList = Pl.joinT Pl.qtxt (Ge.nodesL (Ge.allEdges (Pl.rings s.data.toList))) := if_pos h0
    have hel := Pl.edges_few h0
    have hse := (rings_ok h0).2.2.1
    have HR : Hid (∀ w1, Calls Tryz.prog 14 #[.string s] w1 fun e w' => Below w1.heap.size w1 w' ∧ ∃ W so pn pc, e = .returned (.tuple #[.agg #[.string W, .slice so pn pc, .int .i64 0], .int .i64 0, .int .i64 0]) ∧
        RdMulti w' (.slice so pn pc) (Pl.pWhole (Pl.all s.data.toList)).2.2 ∧ okMulti (Pl.pWhole (Pl.all s.data.toList)).2.2) := fun w1 => by
      refine (mread_any s w1 hm).mono ?_
      rintro e w' ⟨hb, W, so, pn, pc, rfl, hr⟩
      exact ⟨hb, W, so, pn, pc, by rw [h0, he2]; rfl, rdMulti_of h0 hr⟩
    have HED : Hid (∀ (W : ByteArray) (v : Value) w1, RdMulti w1 v (Pl.pWhole (Pl.all s.data.toList)).2.2 → okMulti (Pl.pWhole (Pl.all s.data.toList)).2.2 → Calls Tryz.prog 79 #[.agg #[.string W, v, .int .i64 0]] w1 fun e w' => ∃ v, e = .returned v ∧ RdEdges w' v (Ge.allEdges (Pl.rings s.data.toList)) ∧ Below w1.heap.size w1 w') := fun W v w1 h1 h2 => redges_any _ W v w1 h1 h2
    rw [hnt, h0, he2]
    generalize Ge.allEdges (Pl.rings s.data.toList) = ES at *
    generalize (Pl.pWhole (Pl.all s.data.toList)).2.2 = PS at *
    have HSE : Hid (∀ e ∈ ES, smallE e) := hse
    have HGL : Hid (Gl w) := hG
    clear hse h0 he2 hnt hG
    go_enter Tryz.func55, Tryz.ntmps55
    go_wp2_with fail
    refine (HR.out _).mono ?_
    rintro e w1 ⟨hb1, W, so, pn, pc, rfl, hrd, hok⟩
    have HRD : Hid (RdMulti (w1.alloc (.cells #[.string W, .slice so pn pc, .int .i64 0] 29)) (.slice so pn pc) PS ∧ okMulti PS) := ⟨keeps_below keeps_multi hrd ((Below.refl _ _).alloc (Nat.le_refl _) _), hok⟩
    have hbA : Below w.heap.size w (w1.alloc (.cells #[.string W, .slice so pn pc, .int .i64 0] 29)) := hb1.alloc hb1.size _
    clear hrd hok hb1 HR
    go_wp2_with fail
    generalize w1.alloc (.cells #[.string W, .slice so pn pc, .int .i64 0] 29) = w2 at *
    refine (HED.out _ _ _ HRD.out.1 HRD.out.2).mono ?_
    rintro e w3 ⟨lv, rfl, hre, hb3⟩
    obtain ⟨lo, lc, rfl⟩ := rdEdges_slice hre
    have HRE : Hid (RdEdges w3 (.slice lo ES.length lc) ES) := hre
    have HB3 : Hid (Below w.heap.size w w3) := hbA.trans (hb3.mono hbA.size)
    clear hre hb3 hbA HRD HED
    go_wp2_with fail
    go_loopg [9, 10] ES.length (fun m av iv wr => ∃ i : Nat, i + m = ES.length ∧ iv = .int .i64 i ∧ Hid (NI w3 av ((ES.take i).foldl (fun acc e => Ge.insAll acc (Ge.cutsL ES e)) []) wr ∧ ((ES.take i).foldl (fun acc e => Ge.insAll acc (Ge.cutsL ES e)) []).length ≤ 806 * i))
    case atStart => exact ⟨0, by omega, rfl, ⟨own_zero (World.ownsRow_nil _ 0 _ _), good_nil, Below.refl _ _⟩, by simp⟩
    case round =>
      obtain ⟨i, him, rfl, HN⟩ := hrel
      have hb4 := HN.out.1.2.2
      by_cases hlt : i < ES.length
      · obtain ⟨e, hek⟩ : ∃ e, ES[i]? = some e := ⟨_, List.getElem?_eq_getElem hlt⟩
        obtain ⟨b, rfl, hb, c0, c1, c2, c3⟩ := rdEdges_get HRE.out hek
        have r0 := (hb4.cell (p := ⟨b, i * 4, none⟩) hb).trans c0
        have r1 := (hb4.cell (p := ⟨b, i * 4 + 1, none⟩) hb).trans c1
        have r2 := (hb4.cell (p := ⟨b, i * 4 + 2, none⟩) hb).trans c2
        have r3 := (hb4.cell (p := ⟨b, i * 4 + 3, none⟩) hb).trans c3
        have hbr : b < wr.heap.size := Nat.lt_of_lt_of_le hb hb4.size
        have hki : (i : Int) < (ES.length : Int) := by omega
        have HSM : Hid (smallE e) := HSE.out e (List.mem_of_getElem? hek)
        have HT : Hid ((ES.take (i + 1)).foldl (fun acc e => Ge.insAll acc (Ge.cutsL ES e)) [] = Ge.insAll ((ES.take i).foldl (fun acc e => Ge.insAll acc (Ge.cutsL ES e)) []) (Ge.cutsL ES e)) := by
          obtain ⟨h1, h2⟩ := List.getElem?_eq_some_iff.1 hek
          rw [List.take_succ_eq_append_getElem h1, h2, List.foldl_append]; rfl
        have hlen := HN.out.2
        have hcl := cuts_len ES e
        have HCU : Hid (Calls Tryz.prog 82 #[.slice (some ⟨b, 0, none⟩) ES.length lc, .agg #[.int .i64 e.1.1, .int .i64 e.1.2, .int .i64 e.2.1, .int .i64 e.2.2]] wr fun r w' => ∃ v', r = .returned v' ∧ RdQ w' v' (Ge.cutsL ES e) ∧ Good (Ge.cutsL ES e) ∧ Below wr.heap.size wr w') := cuts_any ES e _ wr (keeps_own HRE.out fun k cur hc => hb4.block k (lt_of_heap hc)) (by omega) HSE.out HSM.out
        generalize (ES.take i).foldl (fun acc e => Ge.insAll acc (Ge.cutsL ES e)) [] = AL at *
        generalize Ge.cutsL ES e = CU at *
        clear c0 c1 c2 c3 hek
        obtain ⟨m1, hm1⟩ : ∃ m1, m1 = gk := ⟨_, rfl⟩
        go_wp2_with fail
        refine HCU.out.mono ?_
        rintro r w5 ⟨cv, rfl, hcq, hcg, hb5⟩
        obtain ⟨co, cc, rfl⟩ := rdQ_slice hcq
        have HN5 : Hid (NI w3 u9 AL w5) := HN.out.1.below hb5
        have HCQ : Hid (RdQ w5 (.slice co CU.length cc) CU ∧ Good CU) := ⟨hcq, hcg⟩
        clear r0 r1 r2 r3 hcq hcg hb5 HN hb4 HCU hbr
        go_wp2_with fail
        go_loopg [9, 12] CU.length (fun m av kv wr => ∃ k : Nat, k + m = CU.length ∧ kv = .int .i64 k ∧ Hid (NI w3 av (Ge.insAll AL (CU.take k)) wr ∧ Below w5.heap.size w5 wr))
        case atStart => exact ⟨0, by omega, rfl, HN5.out, Below.refl _ _⟩
        case round =>
          obtain ⟨k, hkm, rfl, HN6⟩ := hrel
          have hb6 := HN6.out.2
          by_cases hlt2 : k < CU.length
          · obtain ⟨q, hq⟩ : ∃ q, CU[k]? = some q := ⟨_, List.getElem?_eq_getElem hlt2⟩
            obtain ⟨b2, rfl, hb2, c0, c1, c2, c3⟩ := rdQ_get HCQ.out.1 hq
            have r0 := (hb6.cell (p := ⟨b2, k * 4, none⟩) hb2).trans c0
            have r1 := (hb6.cell (p := ⟨b2, k * 4 + 1, none⟩) hb2).trans c1
            have r2 := (hb6.cell (p := ⟨b2, k * 4 + 2, none⟩) hb2).trans c2
            have r3 := (hb6.cell (p := ⟨b2, k * 4 + 3, none⟩) hb2).trans c3
            have hbr2 : b2 < wr.heap.size := Nat.lt_of_lt_of_le hb2 hb6.size
            have hki2 : (k : Int) < (CU.length : Int) := by omega
            have hl2 := Ge.insAll_len (CU.take k) AL
            have hl3 : (CU.take k).length ≤ CU.length := by simp; omega
            have HT2 : Hid (Ge.insAll AL (CU.take (k + 1)) = Ge.ins q (Ge.insAll AL (CU.take k))) := by
              obtain ⟨h1, h2⟩ := List.getElem?_eq_some_iff.1 hq
              unfold Ge.insAll Hid
              rw [List.take_succ_eq_append_getElem h1, h2, List.foldl_append]; rfl
            have HWI : Hid (Calls Tryz.prog 83 #[u9, .agg #[.int .i64 q.1.1, .int .i64 q.1.2, .int .i64 q.2.1, .int .i64 q.2.2]] wr fun e w' => ∃ v', e = .returned v' ∧ NI w3 v' (Ge.ins q (Ge.insAll AL (CU.take k))) w' ∧ Below wr.heap.size wr w') := with_ni HN6.out.1 q (HCQ.out.2.inn q (List.mem_of_getElem? hq)) (HCQ.out.2.red q (List.mem_of_getElem? hq)) (by omega)
            clear c0 c1 c2 c3 hq
            go_wp2_with fail
            refine HWI.out.mono ?_
            rintro r w7 ⟨v7, rfl, h7, hb7⟩
            have HN7 : Hid (NI w3 v7 (Ge.insAll AL (CU.take (k + 1))) w7 ∧ Below w5.heap.size w5 w7) := ⟨by rw [HT2.out]; exact h7, hb6.trans (hb7.mono hb6.size)⟩
            clear h7 hb7 r0 r1 r2 r3
            go_wp2_with fail
            go_roundg (gk - 1)
            case measure => omega
            case rel => exact ⟨k + 1, by omega, by go_num, HN7⟩
          · have hk : k = CU.length := by omega
            subst hk
            have hl2 := Ge.insAll_len CU AL
            have HN7 : Hid (NI w3 u9 ((ES.take (i + 1)).foldl (fun acc e => Ge.insAll acc (Ge.cutsL ES e)) []) wr ∧ ((ES.take (i + 1)).foldl (fun acc e => Ge.insAll acc (Ge.cutsL ES e)) []).length ≤ 806 * (i + 1)) := by
              have h := HN6.out.1
              rw [List.take_length] at h
              rw [HT.out]
              exact ⟨h, by omega⟩
            clear HN6 hb6 HT
            go_wp2_with fail
            go_roundg (m1 - 1)
            case measure => omega
            case rel => exact ⟨i + 1, by omega, by go_num, HN7⟩
      · have hi : i = ES.length := by omega
        subst hi
        have HNF : Hid (NI w3 u9 (Ge.nodesL ES) wr ∧ (Ge.nodesL ES).length ≤ 806 * ES.length) := by
          have h := HN.out
          rw [List.take_length] at h
          exact h
        clear HN
        obtain ⟨ND, hND⟩ : ∃ ND, ND = Ge.nodesL ES := ⟨_, rfl⟩
        have HND : Hid (ND = Ge.nodesL ES) := hND
        rw [← hND] at HNF
        clear hND
        obtain ⟨no, nc, hnv⟩ := rdQ_slice HNF.out.1.1
        subst hnv
        have hndl : ND.length ≤ 400000 := by have := HNF.out.2; omega
        have HL : Hid (∀ k, (Pl.joinT Pl.qtxt (ND.take k)).length ≤ k * 103) := fun k => by
          refine Nat.le_trans (Pl.joinT_len Pl.qtxt 101 (ND.take k) fun p hp => qtxt_len (HNF.out.1.2.1.inn p (List.mem_of_mem_take hp))) ?_
          exact Nat.mul_le_mul_right _ (by simp; omega)
        have HGW : Hid (∀ w', Below wr.heap.size wr w' → Gl w' ∧ Below w.heap.size w w') := fun w' hw' => by
          have h1 : Below w.heap.size w wr := HB3.out.trans (HNF.out.1.2.2.mono HB3.out.size)
          have h2 := h1.trans (hw'.mono h1.size)
          exact ⟨HGL.out.below h2 HGL.out.sz, h2⟩
        generalize wr = wB at *
        go_wp2_with fail
        go_loopg [13, 14] ND.length (fun m tv iv wr => ∃ k : Nat, k + m = ND.length ∧ iv = .int .i64 k ∧ tv = .string ⟨(Pl.joinT Pl.qtxt (ND.take k)).toArray⟩ ∧ Hid (Below wB.heap.size wB wr))
        case atStart => exact ⟨0, by omega, rfl, rfl, Below.refl _ _⟩
        case round =>
          obtain ⟨k, hkm, rfl, rfl, HBB⟩ := hrel
          have hb6 := HBB.out
          by_cases hlt2 : k < ND.length
          · obtain ⟨q, hq⟩ : ∃ q, ND[k]? = some q := ⟨_, List.getElem?_eq_getElem hlt2⟩
            obtain ⟨b2, rfl, hb2, c0, c1, c2, c3⟩ := rdQ_get HNF.out.1.1 hq
            have r0 := (hb6.cell (p := ⟨b2, k * 4, none⟩) hb2).trans c0
            have r1 := (hb6.cell (p := ⟨b2, k * 4 + 1, none⟩) hb2).trans c1
            have r2 := (hb6.cell (p := ⟨b2, k * 4 + 2, none⟩) hb2).trans c2
            have r3 := (hb6.cell (p := ⟨b2, k * 4 + 3, none⟩) hb2).trans c3
            have hbr2 : b2 < wr.heap.size := Nat.lt_of_lt_of_le hb2 hb6.size
            have hki2 : (k : Int) < (ND.length : Int) := by omega
            have HPT : Hid (Calls Tryz.prog 74 #[.agg #[.int .i64 q.1.1, .int .i64 q.1.2, .int .i64 q.2.1, .int .i64 q.2.2]] wr fun e w' => e = .returned (.string ⟨(Pl.qtxt q).toArray⟩) ∧ Below wr.heap.size wr w') := pointText_any q wr (HGW.out _ hb6).1 (HNF.out.1.2.1.inn q (List.mem_of_getElem? hq))
            have HT : Hid (Pl.joinT Pl.qtxt (ND.take (k + 1)) = Pl.joinT Pl.qtxt (ND.take k) ++ ((if k = 0 then [] else [44, 32]) ++ Pl.qtxt q)) := joinT_take Pl.qtxt hq
            have hxl := qtxt_len (HNF.out.1.2.1.inn q (List.mem_of_getElem? hq))
            have hbl := HL.out k
            generalize Pl.joinT Pl.qtxt (ND.take k) = J at *
            generalize Pl.qtxt q = X1 at *
            clear c0 c1 c2 c3 hq
            by_cases hk0 : k = 0
            · have hq0 : decide (0 < (k : Int)) = false := by simp; omega
              have HK0 : Hid (k = 0) := hk0
              have hq1 : decide (0 < k) = false := by simp; omega
              clear hk0
              have hs1 : ¬9223372036854775807 < J.length + X1.length := by omega
              go_wp2_with fail
              refine HPT.out.mono ?_
              rintro e w7 ⟨rfl, hb7⟩
              go_wp2_with fail
              go_roundg (gk - 1)
              case measure => omega
              case rel =>
                refine ⟨k + 1, by omega, by go_num, ?_, hb6.trans (hb7.mono hb6.size)⟩
                rw [HT.out, if_pos HK0.out]
                simp [ByteArray.mk_append_mk]
            · have hq0 : decide (0 < (k : Int)) = true := by simp; omega
              have HK0 : Hid (¬ k = 0) := hk0
              have hq1 : decide (0 < k) = true := by simp; omega
              clear hk0
              have hs0 : ¬9223372036854775807 < J.length + 2 := by omega
              have hs1 : ¬9223372036854775807 < J.length + 2 + X1.length := by omega
              go_wp2_with fail
              refine HPT.out.mono ?_
              rintro e w7 ⟨rfl, hb7⟩
              go_wp2_with fail
              go_roundg (gk - 1)
              case measure => omega
              case rel =>
                refine ⟨k + 1, by omega, by go_num, ?_, hb6.trans (hb7.mono hb6.size)⟩
                rw [HT.out, if_neg HK0.out]
                simp [ByteArray.mk_append_mk]
          · have hk : k = ND.length := by omega
            subst hk
            rw [List.take_length]
            go_wp2_with fail
            go_ret3
            exact ⟨by rw [HND.out]; rfl, (HGW.out _ hb6).2⟩
  · have hnt : Pl.ntext s.data.toList = [] := if_neg h0
    have hne : (((Pl.err s.data.toList).1 : Int) != 0) = true := by rw [bne_iff_ne]; omega
    have HR : Hid (∀ w1, Calls Tryz.prog 14 #[.string s] w1 fun e w' => Below w1.heap.size w1 w' ∧ ∃ W so pn pc, e = .returned (.tuple #[.agg #[.string W, .slice so pn pc, .int .i64 0], .int .i64 (Pl.err s.data.toList).1, .int .i64 (Pl.err s.data.toList).2])) := fun w1 => by
      refine (mread_any s w1 hm).mono ?_
      rintro e w' ⟨hb, W, so, pn, pc, rfl, _⟩
      exact ⟨hb, W, so, pn, pc, rfl⟩
    rw [hnt]
    generalize (Pl.err s.data.toList).1 = E at *
    generalize (Pl.err s.data.toList).2 = Pp at *
    clear hnt h0
    go_enter Tryz.func55, Tryz.ntmps55
    go_wp2_with fail
    refine (HR.out _).mono ?_
    rintro e w1 ⟨hb1, W, so, pn, pc, rfl⟩
    go_wp2_with fail
    go_ret3
    exact ⟨rfl, hb1.alloc hb1.size _⟩

end Go.Proofs.YtkjhhooecopolaaGreatDoor

namespace Go.Proofs.YtkjhhooecopolaaGreatDoor
open Go.RowKit

namespace Ge
/-- What the nodes are: where edges begin and end, and where two that are not parallel meet. -/
def isNode (l : List (Pt × Pt)) (q : Qt) : Prop :=
  (∃ e ∈ l, q = pt e.1 ∨ q = pt e.2) ∨ ∃ e ∈ l, ∃ f ∈ l, crE e f ≠ 0 ∧ q = meetP e f ∧ hq (meetP e f) e = true ∧ hq (meetP e f) f = true

theorem insAll_mem : ∀ (c acc : List Qt), (∀ q ∈ acc, RedP q) → (∀ q ∈ c, RedP q) → ∀ r, r ∈ insAll acc c ↔ r ∈ acc ∨ r ∈ c
  | [], acc, _, _, r => by simp [insAll]
  | q :: c, acc, ha, hc, r => by
    have hq := hc q (by simp)
    have e : insAll acc (q :: c) = insAll (ins q acc) c := rfl
    rw [e, insAll_mem c (ins q acc) (ins_red hq ha) (fun x hx => hc x (by simp [hx])) r, ins_mem hq ha r, List.mem_cons]
    constructor
    · rintro ((h | h) | h)
      · exact Or.inr (Or.inl h)
      · exact Or.inl h
      · exact Or.inr (Or.inr h)
    · rintro (h | h | h)
      · exact Or.inl (Or.inr h)
      · exact Or.inl (Or.inl h)
      · exact Or.inr h

/-- What one edge adds to another's points. -/
def adds (e f : Pt × Pt) (r : Qt) : Prop :=
  (crE e f ≠ 0 ∧ r = meetP e f ∧ hq (meetP e f) e = true ∧ hq (meetP e f) f = true) ∨ (crE e f = 0 ∧ ((r = pt f.1 ∧ hq (pt f.1) e = true) ∨ (r = pt f.2 ∧ hq (pt f.2) e = true)))

theorem stepC_mem {e f : Pt × Pt} {o : List Qt} (ho : ∀ q ∈ o, RedP q) : (∀ q ∈ stepC e o f, RedP q) ∧ ∀ r, r ∈ stepC e o f ↔ r ∈ o ∨ adds e f r := by
  unfold stepC adds
  by_cases hc : crE e f = 0
  · rw [if_pos hc]
    dsimp only
    have h1 := ins_mem (pt_red f.1) ho
    have r1 := ins_red (pt_red f.1) ho
    by_cases a : hq (pt f.1) e = true
    · rw [if_pos a]
      have h2 := ins_mem (pt_red f.2) r1
      by_cases b : hq (pt f.2) e = true
      · rw [if_pos b]
        refine ⟨ins_red (pt_red f.2) r1, fun r => ?_⟩
        rw [h2, h1]
        simp only [hc, a, b, ne_eq, not_true_eq_false, false_and, and_true, true_and, false_or]
        constructor
        · rintro (h | h | h)
          · exact Or.inr (Or.inr h)
          · exact Or.inr (Or.inl h)
          · exact Or.inl h
        · rintro (h | h | h)
          · exact Or.inr (Or.inr h)
          · exact Or.inr (Or.inl h)
          · exact Or.inl h
      · rw [if_neg b]
        refine ⟨r1, fun r => ?_⟩
        rw [h1]
        grind
    · rw [if_neg a]
      have h2 := ins_mem (pt_red f.2) ho
      by_cases b : hq (pt f.2) e = true
      · rw [if_pos b]
        refine ⟨ins_red (pt_red f.2) ho, fun r => ?_⟩
        rw [h2]
        grind
      · rw [if_neg b]
        refine ⟨ho, fun r => ?_⟩
        simp [hc, a, b]
  · rw [if_neg hc]
    have h1 := ins_mem (meet_red hc) ho
    by_cases a : (hq (meetP e f) e && hq (meetP e f) f) = true
    · rw [if_pos a]
      obtain ⟨a1, a2⟩ := (Bool.and_eq_true_iff).1 a
      refine ⟨ins_red (meet_red hc) ho, fun r => ?_⟩
      rw [h1]
      simp only [hc, a1, a2, ne_eq, not_false_eq_true, and_true, true_and, false_and, or_false]
      exact ⟨fun h => h.symm, fun h => h.symm⟩
    · rw [if_neg a]
      refine ⟨ho, fun r => ?_⟩
      constructor
      · exact Or.inl
      · rintro (h | ⟨_, _, h1, h2⟩ | ⟨h, _⟩)
        · exact h
        · exact absurd (by rw [h1, h2]; rfl) a
        · exact absurd h hc

theorem foldC_mem (e : Pt × Pt) : ∀ (l : List (Pt × Pt)) (o : List Qt), (∀ q ∈ o, RedP q) → (∀ q ∈ l.foldl (stepC e) o, RedP q) ∧ ∀ r, r ∈ l.foldl (stepC e) o ↔ r ∈ o ∨ ∃ f ∈ l, adds e f r
  | [], o, ho => ⟨ho, fun r => by simp⟩
  | f :: l, o, ho => by
    obtain ⟨h1, h2⟩ := stepC_mem (e := e) (f := f) ho
    obtain ⟨h3, h4⟩ := foldC_mem e l (stepC e o f) h1
    refine ⟨h3, fun r => ?_⟩
    rw [List.foldl_cons, h4, h2]
    constructor
    · rintro ((h | h) | ⟨g, hg, h⟩)
      · exact Or.inl h
      · exact Or.inr ⟨f, by simp, h⟩
      · exact Or.inr ⟨g, by simp [hg], h⟩
    · rintro (h | ⟨g, hg, h⟩)
      · exact Or.inl (Or.inl h)
      · rcases List.mem_cons.1 hg with e' | e'
        · subst e'; exact Or.inl (Or.inr h)
        · exact Or.inr ⟨g, e', h⟩
theorem cutsL_mem (l : List (Pt × Pt)) (e : Pt × Pt) : (∀ q ∈ cutsL l e, RedP q) ∧ ∀ r, r ∈ cutsL l e ↔ r = pt e.1 ∨ r = pt e.2 ∨ ∃ f ∈ l, adds e f r := by
  have h0 : ∀ q ∈ ([] : List Qt), RedP q := fun q h => by simp at h
  have h1 := ins_red (pt_red e.1) h0
  have h2 := ins_red (pt_red e.2) h1
  obtain ⟨h3, h4⟩ := foldC_mem e l _ h2
  refine ⟨h3, fun r => ?_⟩
  unfold cutsL
  rw [h4, ins_mem (pt_red e.2) h1, ins_mem (pt_red e.1) h0]
  constructor
  · rintro ((h | h | h) | h)
    · exact Or.inr (Or.inl h)
    · exact Or.inl h
    · simp at h
    · exact Or.inr (Or.inr h)
  · rintro (h | h | h)
    · exact Or.inl (Or.inr (Or.inl h))
    · exact Or.inl (Or.inl h)
    · exact Or.inr h
theorem foldN_mem (L : List (Pt × Pt)) : ∀ (l : List (Pt × Pt)) (acc : List Qt), (∀ q ∈ acc, RedP q) → Asc acc →
    (∀ q ∈ l.foldl (fun acc e => insAll acc (cutsL L e)) acc, RedP q) ∧ Asc (l.foldl (fun acc e => insAll acc (cutsL L e)) acc) ∧ ∀ r, r ∈ l.foldl (fun acc e => insAll acc (cutsL L e)) acc ↔ r ∈ acc ∨ ∃ e ∈ l, r ∈ cutsL L e
  | [], acc, h, ha => ⟨h, ha, fun r => by simp⟩
  | e :: l, acc, h, ha => by
    have hc := (cutsL_mem L e).1
    have hm := insAll_mem (cutsL L e) acc h hc
    have hr : ∀ q ∈ insAll acc (cutsL L e), RedP q := fun q hq => by
      rcases (hm q).1 hq with k | k
      · exact h q k
      · exact hc q k
    have has : Asc (insAll acc (cutsL L e)) := by
      clear hm hr
      generalize cutsL L e = c at hc
      induction c generalizing acc with
      | nil => exact ha
      | cons q c ih =>
        have hq := hc q (by simp)
        exact ih (ins q acc) (ins_red hq h) (ins_asc hq h ha) (fun x hx => hc x (by simp [hx]))
    obtain ⟨h1, h2, h3⟩ := foldN_mem L l (insAll acc (cutsL L e)) hr has
    refine ⟨h1, h2, fun r => ?_⟩
    rw [List.foldl_cons, h3, hm]
    constructor
    · rintro ((k | k) | ⟨g, hg, k⟩)
      · exact Or.inl k
      · exact Or.inr ⟨e, by simp, k⟩
      · exact Or.inr ⟨g, by simp [hg], k⟩
    · rintro (k | ⟨g, hg, k⟩)
      · exact Or.inl (Or.inl k)
      · rcases List.mem_cons.1 hg with e' | e'
        · subst e'; exact Or.inl (Or.inr k)
        · exact Or.inr ⟨g, e', k⟩
/-- THE REFERENCE's LIST IS THE ONE ASCENDING LIST OF THE NODES. -/
theorem nodesL_spec (l : List (Pt × Pt)) : (∀ q ∈ nodesL l, RedP q) ∧ Asc (nodesL l) ∧ ∀ r, r ∈ nodesL l ↔ isNode l r := by
  obtain ⟨h1, h2, h3⟩ := foldN_mem l l [] (fun q h => by simp at h) List.Pairwise.nil
  refine ⟨h1, h2, fun r => ?_⟩
  unfold nodesL
  rw [h3]
  unfold isNode
  constructor
  · rintro (h | ⟨e, he, h⟩)
    · simp at h
    · rcases ((cutsL_mem l e).2 r).1 h with h | h | ⟨f, hf, h⟩
      · exact Or.inl ⟨e, he, Or.inl h⟩
      · exact Or.inl ⟨e, he, Or.inr h⟩
      · rcases h with ⟨a, b, c, d⟩ | ⟨_, ⟨h, _⟩ | ⟨h, _⟩⟩
        · exact Or.inr ⟨e, he, f, hf, a, b, c, d⟩
        · exact Or.inl ⟨f, hf, Or.inl h⟩
        · exact Or.inl ⟨f, hf, Or.inr h⟩
  · rintro (⟨e, he, h⟩ | ⟨e, he, f, hf, a, b, c, d⟩)
    · refine Or.inr ⟨e, he, ((cutsL_mem l e).2 r).2 ?_⟩
      rcases h with h | h
      · exact Or.inl h
      · exact Or.inr (Or.inl h)
    · exact Or.inr ⟨e, he, ((cutsL_mem l e).2 r).2 (Or.inr (Or.inr ⟨f, hf, Or.inl ⟨a, b, c, d⟩⟩))⟩
/-- Two edges meet in the same point, whichever is named first. -/
theorem crE_swap (e f : Pt × Pt) : crE f e = - crE e f := by unfold crE; grind
theorem meet_swap {e f : Pt × Pt} (h : crE e f ≠ 0) : meetP f e = meetP e f := by
  have h' : crE f e ≠ 0 := by rw [crE_swap]; omega
  unfold meetP
  have e1 : mX f e * crE e f = mX e f * crE f e := by unfold mX mT crE; grind
  have e2 : mY f e * crE e f = mY e f * crE f e := by unfold mY mT crE; grind
  rw [fr2_same h' h e1, fr2_same h' h e2]
end Ge

end Go.Proofs.YtkjhhooecopolaaGreatDoor

namespace Go.Proofs.YtkjhhooecopolaaGreatDoor
open Go.RowKit

theorem tdiv_in (x : Int) (g : Nat) : -(x.natAbs : Int) ≤ x.tdiv g ∧ x.tdiv g ≤ (x.natAbs : Int) := by
  have h : (x.tdiv g).natAbs ≤ x.natAbs := by
    rw [Int.natAbs_tdiv]
    exact Nat.div_le_self _ _
  omega

set_option maxRecDepth 100000 in
set_option maxHeartbeats 1000000 in
theorem nodeAt_neg {a b : Nat} {x y : Int} (D : Int) (h1 : Fl a x) (h2 : Fl b y) (hx : -16000000 ≤ x ∧ x ≤ 16000000) (hy : -16000000 ≤ y ∧ y ≤ 16000000) (hD : D < 0 ∧ -300000 ≤ D) (G : Nat) (hG : Int.gcd (Int.gcd x y : Nat) D = G) (w : World) :
    Calls Tryz.prog 37 #[.complex .f64 a b, .int .i64 D] w fun e w' => e = .returned (.agg #[.complex .f64 (floatOfInt .f64 (x.tdiv (-(G : Int)))) (floatOfInt .f64 (y.tdiv (-(G : Int)))), .int .i64 (D.tdiv (-(G : Int)))]) ∧ Below w.heap.size w w' := by
  have hGp : 0 < G := by rw [← hG]; exact gcd_pos (by omega)
  have hgxy : Int.gcd x y ≤ 16000000 := by
    by_cases hz : x = 0
    · rw [hz, Int.gcd_zero_left]; omega
    · have := Int.gcd_le_natAbs_left (b := y) hz; omega
  have hGD : G ≤ 300000 := by
    have := Int.gcd_le_natAbs_right (a := (Int.gcd x y : Nat)) (b := D) (by omega)
    omega
  have c1 := h1.int (by omega) (by omega)
  have c2 := h2.int (by omega) (by omega)
  have hc1 : ∀ w, (convert 120 3 (.float .f64 a)).run Tryz.prog w = .ok (.int .i64 x) w := fun w => run_convert_float_int w 120 3 .f64 .i64 a x (by rw [Tryz.underlying120]; rfl) Tryz.underlying3 c1
  have hc2 : ∀ w, (convert 120 3 (.float .f64 b)).run Tryz.prog w = .ok (.int .i64 y) w := fun w => run_convert_float_int w 120 3 .f64 .i64 b y (by rw [Tryz.underlying120]; rfl) Tryz.underlying3 c2
  have HD1 : Hid (∀ w1, Calls Tryz.prog 65 #[.int .i64 x, .int .i64 y] w1 fun e w' => e = .returned (.int .i64 (Int.gcd x y : Nat)) ∧ Below w1.heap.size w1 w') := fun w1 => divisor_any x y w1 (by omega) (by omega)
  have HD2 : Hid (∀ w1, Calls Tryz.prog 65 #[.int .i64 (Int.gcd x y : Nat), .int .i64 D] w1 fun e w' => e = .returned (.int .i64 (G : Int)) ∧ Below w1.heap.size w1 w') := fun w1 => by rw [← hG]; exact divisor_any _ D w1 (by omega) (by omega)
  obtain ⟨XQ, hXQ⟩ : ∃ q, q = x.tdiv (-(G : Int)) := ⟨_, rfl⟩
  obtain ⟨YQ, hYQ⟩ : ∃ q, q = y.tdiv (-(G : Int)) := ⟨_, rfl⟩
  obtain ⟨DQ, hDQ⟩ : ∃ q, q = D.tdiv (-(G : Int)) := ⟨_, rfl⟩
  rw [← hXQ, ← hYQ, ← hDQ]
  have HP : Hid (∀ w1, Calls Tryz.prog 38 #[.int .i64 XQ, .int .i64 YQ] w1 fun e w' => e = .returned (.complex .f64 (floatOfInt .f64 XQ) (floatOfInt .f64 YQ)) ∧ w' = w1) := fun w1 => pointAt_any _ _ w1
  have hw1 : IntKind.i64.wrap (x.tdiv (-(G : Int))) = XQ := by rw [hXQ, Int.tdiv_neg, IntKind.wrap_i64]; have := tdiv_in x G; omega
  have hw2 : IntKind.i64.wrap (y.tdiv (-(G : Int))) = YQ := by rw [hYQ, Int.tdiv_neg, IntKind.wrap_i64]; have := tdiv_in y G; omega
  have hw3 : IntKind.i64.wrap (D.tdiv (-(G : Int))) = DQ := by rw [hDQ, Int.tdiv_neg, IntKind.wrap_i64]; have := tdiv_in D G; omega
  have hw5 : IntKind.i64.wrap (-(x.tdiv (G : Int))) = XQ := by rw [← Int.tdiv_neg]; exact hw1
  have hw6 : IntKind.i64.wrap (-(y.tdiv (G : Int))) = YQ := by rw [← Int.tdiv_neg]; exact hw2
  have hw7 : IntKind.i64.wrap (-(D.tdiv (G : Int))) = DQ := by rw [← Int.tdiv_neg]; exact hw3
  have hw4 : IntKind.i64.wrap (-(G : Int)) = -(G : Int) := by rw [IntKind.wrap_i64]; omega
  clear hXQ hYQ hDQ
  have hGz : ¬ G = 0 := by omega
  have hGi : ¬ (-(G : Int) = 0) := by omega
  generalize Int.gcd x y = GXY at *
  clear c1 c2 h1 h2 hG
  have hE := heap_alloc_new w (.cells #[.complex .f64 0 0, .int .i64 0] 83)
  have hb0 : Below w.heap.size w (w.alloc (.cells #[.complex .f64 0 0, .int .i64 0] 83)) := (Below.refl _ _).alloc (Nat.le_refl _) _
  have hz : w.heap.size < (w.alloc (.cells #[.complex .f64 0 0, .int .i64 0] 83)).heap.size := by simp
  go_enter Tryz.func37, Tryz.ntmps37
  go_wp2_with (first | (simp only [hc1]) | (simp only [hc2]))
  generalize w.alloc (.cells #[.complex .f64 0 0, .int .i64 0] 83) = W at *
  generalize hB : w.heap.size = B at *
  refine (HD1.out _).mono ?_
  rintro e w1 ⟨rfl, hb1⟩
  go_wp2_with fail
  refine (HD2.out _).mono ?_
  rintro e w2 ⟨rfl, hb2⟩
  have hs1 := hb1.size
  have hE2 := (hb2.block _ (show B < w1.heap.size by omega)).trans ((hb1.block _ hz).trans hE)
  have hbel := (hb0.trans (hb1.mono (Nat.le_of_lt hz))).trans (hb2.mono (by omega))
  have e0 : w2.cell? ⟨B, 0, none⟩ = some (.complex .f64 0 0) := cell_of hE2 0
  have e1 : w2.cell? ⟨B, 1, none⟩ = some (.int .i64 0) := cell_of hE2 1
  have z0 : w2.frozen? ⟨B, 0, none⟩ = false := frozen_of hE2 0
  have z1 : w2.frozen? ⟨B, 1, none⟩ = false := frozen_of hE2 1
  clear hE hE2 hb1 hb2 hb0
  go_wp2_with fail
  go_region_held3 (fun w' => w'.frozen? ⟨B, 0, none⟩ = false ∧ w'.frozen? ⟨B, 1, none⟩ = false) (go_keep) (first
    | (go_at_call 38; refine (HP.out _).mono ?_; rintro e w5 ⟨rfl, hw5⟩; subst hw5)
    | (simp only [st_complex]; go_simp))
  go_wp2_with fail
  refine bodyPost_ret (v := .agg #[.complex .f64 (floatOfInt .f64 XQ) (floatOfInt .f64 YQ), .int .i64 DQ]) (by simp [results, Tryz.results37, go_sem, e0, e1]) rfl ⟨rfl, ?_⟩
  rw [hB]
  exact ((hbel.setCell (Nat.le_refl _) _).setCell (Nat.le_refl _) _).drew


end Go.Proofs.YtkjhhooecopolaaGreatDoor
