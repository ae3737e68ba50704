import Derived.Test.YtkjhhooecopolaaGreatDoorKj25
import Derived.Test.YtkjhhooecopolaaGreatDoorKj16
namespace Go.Proofs.YtkjhhooecopolaaGreatDoor
open Go.RowKit

namespace Ge
/-- Does the edge hold the point? -/
def hq (p : Qt) (e : Pt × Pt) : Bool := fo (p.1.1 * p.2.2, p.2.1 * p.1.2) (p.1.2 * p.2.2) e
def pt (a : Pt) : Qt := ((a.1, 1), (a.2, 1))
def stepC (e : Pt × Pt) (out : List Qt) (f : Pt × Pt) : List Qt :=
  if crE e f = 0 then
    (let o1 := if hq (pt f.1) e then ins (pt f.1) out else out
     if hq (pt f.2) e then ins (pt f.2) o1 else o1)
  else if hq (meetP e f) e && hq (meetP e f) f then ins (meetP e f) out else out
def cutsL (l : List (Pt × Pt)) (e : Pt × Pt) : List Qt := l.foldl (stepC e) (ins (pt e.2) (ins (pt e.1) []))

theorem pt_red (a : Pt) : RedP (pt a) := ⟨⟨by show (0 : Int) < 1; decide, by show Int.gcd a.1 1 = 1; exact Int.gcd_one ..⟩, ⟨by show (0 : Int) < 1; decide, by show Int.gcd a.2 1 = 1; exact Int.gcd_one ..⟩⟩
theorem meet_red {e f : Pt × Pt} (h : crE e f ≠ 0) : RedP (meetP e f) := ⟨fr2_red h, fr2_red h⟩
theorem ins_len (p : Qt) : ∀ l : List Qt, (ins p l).length ≤ l.length + 1
  | [] => by simp [ins]
  | q :: l => by
    have ih := ins_len p l
    unfold ins
    split
    · simp
    · split <;> simp <;> omega
end Ge

/-- What is asked of every list of points. -/
structure Good (l : List Ge.Qt) : Prop where
  inn : ∀ q ∈ l, QIn q
  red : ∀ q ∈ l, Ge.RedP q
  asc : Ge.Asc l
theorem Good.ins {l : List Ge.Qt} {p : Ge.Qt} (h : Good l) (hp : QIn p) (hr : Ge.RedP p) : Good (Ge.ins p l) :=
  ⟨fun q hq => by
    rcases (Ge.ins_mem hr h.red q).1 hq with e | e
    · rw [e]; exact hp
    · exact h.inn q e, Ge.ins_red hr h.red, Ge.ins_asc hr h.red h.asc⟩
theorem good_nil : Good [] := ⟨fun q h => by simp at h, fun q h => by simp at h, List.Pairwise.nil⟩
theorem pt_in {a : Int × Int} (h1 : small a.1) (h2 : small a.2) : QIn (Ge.pt a) := by
  unfold small at h1 h2
  exact ⟨by show -10000000 ≤ a.1 ∧ a.1 ≤ 10000000; omega, by show (0 : Int) < 1 ∧ (1 : Int) ≤ 1000000; omega, by show -10000000 ≤ a.2 ∧ a.2 ≤ 10000000; omega, by show (0 : Int) < 1 ∧ (1 : Int) ≤ 1000000; omega⟩
theorem fr2_in {n d : Int} (hd : d ≠ 0) (hn : -10000000 ≤ n ∧ n ≤ 10000000) (hd2 : -1000000 ≤ d ∧ d ≤ 1000000) : (-10000000 ≤ (Ge.fr2 n d).1 ∧ (Ge.fr2 n d).1 ≤ 10000000) ∧ (0 < (Ge.fr2 n d).2 ∧ (Ge.fr2 n d).2 ≤ 1000000) := by
  obtain ⟨g, g0, h1, h2, _⟩ := Ge.fr2_eq (n := n) hd
  have hp := (Ge.fr2_red (n := n) hd).pos
  have hg : 1 ≤ g.natAbs := by omega
  have k1 : (Ge.fr2 n d).1.natAbs ≤ n.natAbs := by
    conv => rhs; rw [h1]
    rw [Int.natAbs_mul]
    exact Nat.le_mul_of_pos_left _ hg
  have k2 : (Ge.fr2 n d).2.natAbs ≤ d.natAbs := by
    conv => rhs; rw [h2]
    rw [Int.natAbs_mul]
    exact Nat.le_mul_of_pos_left _ hg
  omega
theorem crE_in {e f : Ed} (he : smallE e) (hf : smallE f) : (-20000 ≤ Ge.crE e f ∧ Ge.crE e f ≤ 20000) ∧ (-3000000 ≤ Ge.mX e f ∧ Ge.mX e f ≤ 3000000) ∧ (-3000000 ≤ Ge.mY e f ∧ Ge.mY e f ≤ 3000000) := by
  obtain ⟨a1, a2, a3, a4⟩ := he
  obtain ⟨b1, b2, b3, b4⟩ := hf
  have sm1 : ∀ {x y : Int}, small x → small y → -100 ≤ y - x ∧ y - x ≤ 100 := fun hx hy => by unfold small at *; omega
  have x1 := sm1 a1 a3
  have x2 := sm1 a2 a4
  have x3 := sm1 b1 b3
  have x4 := sm1 b2 b4
  have x5 := sm1 a1 b1
  have x6 := sm1 a2 b2
  have m1 : -10000 ≤ (e.2.1 - e.1.1) * (f.2.2 - f.1.2) ∧ (e.2.1 - e.1.1) * (f.2.2 - f.1.2) ≤ 10000 := mul_in (a := 100) (b := 100) x1 x4
  have m2 : -10000 ≤ (e.2.2 - e.1.2) * (f.2.1 - f.1.1) ∧ (e.2.2 - e.1.2) * (f.2.1 - f.1.1) ≤ 10000 := mul_in (a := 100) (b := 100) x2 x3
  have m3 : -10000 ≤ (f.1.1 - e.1.1) * (f.2.2 - f.1.2) ∧ (f.1.1 - e.1.1) * (f.2.2 - f.1.2) ≤ 10000 := mul_in (a := 100) (b := 100) x5 x4
  have m4 : -10000 ≤ (f.1.2 - e.1.2) * (f.2.1 - f.1.1) ∧ (f.1.2 - e.1.2) * (f.2.1 - f.1.1) ≤ 10000 := mul_in (a := 100) (b := 100) x6 x3
  have hC : Ge.crE e f = (e.2.1 - e.1.1) * (f.2.2 - f.1.2) - (e.2.2 - e.1.2) * (f.2.1 - f.1.1) := rfl
  have hT : Ge.mT e f = (f.1.1 - e.1.1) * (f.2.2 - f.1.2) - (f.1.2 - e.1.2) * (f.2.1 - f.1.1) := rfl
  have cb : -20000 ≤ Ge.crE e f ∧ Ge.crE e f ≤ 20000 := by omega
  have tb : -20000 ≤ Ge.mT e f ∧ Ge.mT e f ≤ 20000 := by omega
  have m5 : -1000000 ≤ e.1.1 * Ge.crE e f ∧ e.1.1 * Ge.crE e f ≤ 1000000 := mul_in (a := 50) (b := 20000) a1 cb
  have m6 : -2000000 ≤ (e.2.1 - e.1.1) * Ge.mT e f ∧ (e.2.1 - e.1.1) * Ge.mT e f ≤ 2000000 := mul_in (a := 100) (b := 20000) x1 tb
  have m7 : -1000000 ≤ e.1.2 * Ge.crE e f ∧ e.1.2 * Ge.crE e f ≤ 1000000 := mul_in (a := 50) (b := 20000) a2 cb
  have m8 : -2000000 ≤ (e.2.2 - e.1.2) * Ge.mT e f ∧ (e.2.2 - e.1.2) * Ge.mT e f ≤ 2000000 := mul_in (a := 100) (b := 20000) x2 tb
  refine ⟨cb, ?_, ?_⟩
  · unfold Ge.mX; omega
  · unfold Ge.mY; omega
theorem meet_in {e f : Ed} (he : smallE e) (hf : smallE f) (hc : Ge.crE e f ≠ 0) : QIn (Ge.meetP e f) := by
  obtain ⟨h1, h2, h3⟩ := crE_in he hf
  have k1 := fr2_in (n := Ge.mX e f) hc (by omega) (by omega)
  have k2 := fr2_in (n := Ge.mY e f) hc (by omega) (by omega)
  exact ⟨k1.1, k1.2, k2.1, k2.2⟩
theorem hq_of (p : Ge.Qt) (hp : QIn p) : PtOf p.1.1 p.1.2 p.2.1 p.2.2 (p.1.1 * p.2.2) (p.2.1 * p.1.2) (p.1.2 * p.2.2) :=
  ⟨hp, ⟨p.2.2, hp.yd.1, Int.mul_comm .., Int.mul_comm ..⟩, ⟨p.1.2, hp.xd.1, Int.mul_comm .., rfl⟩⟩
theorem hq_any (p : Ge.Qt) (e : Ed) (w : World) (hp : QIn p) (he : smallE e) :
    Calls Tryz.prog 80 #[.agg (edA e), .agg (qA p)] w fun r w' => r = .returned (.bool (Ge.hq p e)) ∧ Below w.heap.size w w' :=
  rholds_any e p.1.1 p.1.2 p.2.1 p.2.2 _ _ _ w he (hq_of p hp)

end Go.Proofs.YtkjhhooecopolaaGreatDoor

namespace Go.Proofs.YtkjhhooecopolaaGreatDoor
open Go.RowKit

/-- How far 'cuts' has come. -/
def CI (w : World) (ev : Array Value) (ov : Value) (out : List Ge.Qt) (wr : World) : Prop :=
  RdQ wr ov out ∧ Good out ∧ Below w.heap.size w wr ∧ w.heap.size < wr.heap.size ∧ wr.heap[w.heap.size]? = some (.cells ev 151 (0, 0))
theorem CI.below {w wr wr' : World} {ev : Array Value} {ov : Value} {out : List Ge.Qt} (h : CI w ev ov out wr) (hb : Below wr.heap.size wr wr') : CI w ev ov out wr' := by
  obtain ⟨h1, h2, h3, h4, h5⟩ := h
  exact ⟨keeps_below keeps_q h1 hb, h2, h3.trans (hb.mono h3.size), Nat.lt_of_lt_of_le h4 hb.size, (hb.block _ h4).trans h5⟩
theorem CI.put {w wr wr' : World} {ev : Array Value} {ov ov' : Value} {out : List Ge.Qt} {p : Ge.Qt} (h : CI w ev ov out wr) (hb : Below wr.heap.size wr wr') (hr : RdQ wr' ov' (Ge.ins p out)) (hp : QIn p) (hrp : Ge.RedP p) : CI w ev ov' (Ge.ins p out) wr' := by
  obtain ⟨h1, h2, h3, h4, h5⟩ := h
  exact ⟨hr, h2.ins hp hrp, h3.trans (hb.mono h3.size), Nat.lt_of_lt_of_le h4 hb.size, (hb.block _ h4).trans h5⟩
theorem with_ci {w wr : World} {ev : Array Value} {ov : Value} {out : List Ge.Qt} (h : CI w ev ov out wr) (p : Ge.Qt) (hp : QIn p) (hrp : Ge.RedP p) (hl : out.length ≤ 100000000) :
    Calls Tryz.prog 83 #[ov, .agg (qA p)] wr fun e w' => ∃ v', e = .returned v' ∧ CI w ev v' (Ge.ins p out) w' ∧ Below wr.heap.size wr w' := by
  refine (with_any out p ov wr h.1 hl h.2.1.inn hp h.2.1.red hrp h.2.1.asc).mono ?_
  rintro e w' ⟨v', rfl, h1, h2⟩
  exact ⟨v', rfl, h.put h2 h1 hp hrp, h2⟩

theorem step_len (e : Ed) (out : List Ge.Qt) (f : Ed) : (Ge.stepC e out f).length ≤ out.length + 2 := by
  unfold Ge.stepC
  split
  · have h1 := Ge.ins_len (Ge.pt f.1) out
    have h2 := Ge.ins_len (Ge.pt f.2) (Ge.ins (Ge.pt f.1) out)
    have h3 := Ge.ins_len (Ge.pt f.2) out
    dsimp only
    split <;> split <;> omega
  · have h1 := Ge.ins_len (Ge.meetP e f) out
    split <;> omega

set_option maxRecDepth 100000 in
set_option maxHeartbeats 4000000 in
theorem cuts_any (l : List Ed) (e : Ed) (v : Value) (w : World) (hR : RdEdges w v l) (hl : l.length ≤ 1000) (hs : ∀ f ∈ l, smallE f) (he : smallE e) :
    Calls Tryz.prog 82 #[v, .agg (edA e)] w fun r w' => ∃ v', r = .returned v' ∧ RdQ w' v' (Ge.cutsL l e) ∧ Good (Ge.cutsL l e) ∧ Below w.heap.size w w' := by
  obtain ⟨so, cap, rfl⟩ := rdEdges_slice hR
  have HR : Hid (RdEdges w (.slice so l.length cap) l) := hR
  have HS : Hid (∀ f ∈ l, smallE f) := hs
  have HE : Hid (smallE e) := he
  have HPA : Hid (∀ w1, Calls Tryz.prog 136 #[.agg #[.int .i64 e.1.1, .int .i64 e.1.2]] w1 fun r w' => r = .returned (.agg (qA (Ge.pt e.1))) ∧ Below w1.heap.size w1 w') := fun w1 => point_any e.1.1 e.1.2 w1
  have HPB : Hid (∀ w1, Calls Tryz.prog 136 #[.agg #[.int .i64 e.2.1, .int .i64 e.2.2]] w1 fun r w' => r = .returned (.agg (qA (Ge.pt e.2))) ∧ Below w1.heap.size w1 w') := fun w1 => point_any e.2.1 e.2.2 w1
  have HI1 : Hid (QIn (Ge.pt e.1) ∧ QIn (Ge.pt e.2)) := ⟨pt_in he.a he.b, pt_in he.c he.d⟩
  clear hR hs he
  have HIN : Hid (CI w (edA e) (.slice none 0 0) [] (w.alloc (.cells (edA e) 151))) := ⟨own_zero (World.ownsRow_nil _ 0 _ _), good_nil, (Below.refl _ _).alloc (Nat.le_refl _) _, by simp, heap_alloc_new _ _⟩
  simp only [edA] at HIN ⊢
  go_enter Tryz.func82, Tryz.ntmps82
  go_wp2_with fail
  generalize w.alloc (.cells #[.int .i64 e.1.1, .int .i64 e.1.2, .int .i64 e.2.1, .int .i64 e.2.2] 151) = W at *
  refine (HPA.out _).mono ?_
  rintro r w1 ⟨rfl, hb1⟩
  have HI2 : Hid (CI w #[.int .i64 e.1.1, .int .i64 e.1.2, .int .i64 e.2.1, .int .i64 e.2.2] (.slice none 0 0) [] w1) := HIN.out.below hb1
  clear HIN hb1
  go_wp2_with fail
  refine (with_ci HI2.out (Ge.pt e.1) HI1.out.1 (Ge.pt_red _) (by simp)).mono ?_
  rintro r w2 ⟨v2, rfl, h2, _⟩
  have HI3 : Hid (CI w #[.int .i64 e.1.1, .int .i64 e.1.2, .int .i64 e.2.1, .int .i64 e.2.2] v2 (Ge.ins (Ge.pt e.1) []) w2) := h2
  have hE2 := h2.2.2.2.2
  have c2 : w2.cell? ⟨w.heap.size, 2, none⟩ = some (.int .i64 e.2.1) := cell_of' hE2 2
  have c3 : w2.cell? ⟨w.heap.size, 3, none⟩ = some (.int .i64 e.2.2) := cell_of' hE2 3
  clear h2 hE2 HI2
  go_wp2_with fail
  refine (HPB.out _).mono ?_
  rintro r w3 ⟨rfl, hb3⟩
  have HI4 : Hid (CI w #[.int .i64 e.1.1, .int .i64 e.1.2, .int .i64 e.2.1, .int .i64 e.2.2] v2 (Ge.ins (Ge.pt e.1) []) w3) := HI3.out.below hb3
  clear HI3 hb3
  go_wp2_with fail
  refine (with_ci HI4.out (Ge.pt e.2) HI1.out.2 (Ge.pt_red _) (by have := Ge.ins_len (Ge.pt e.1) []; simp at this; omega)).mono ?_
  rintro r w4 ⟨v4, rfl, h4, _⟩
  have HI5 : Hid (CI w #[.int .i64 e.1.1, .int .i64 e.1.2, .int .i64 e.2.1, .int .i64 e.2.2] v4 (Ge.ins (Ge.pt e.2) (Ge.ins (Ge.pt e.1) [])) w4 ∧ (Ge.ins (Ge.pt e.2) (Ge.ins (Ge.pt e.1) [])).length ≤ 2) := ⟨h4, by
    have h1 := Ge.ins_len (Ge.pt e.1) []
    have h2 := Ge.ins_len (Ge.pt e.2) (Ge.ins (Ge.pt e.1) [])
    simp at h1
    omega⟩
  have HCL : Hid (Ge.cutsL l e = l.foldl (Ge.stepC e) (Ge.ins (Ge.pt e.2) (Ge.ins (Ge.pt e.1) []))) := rfl
  generalize Ge.ins (Ge.pt e.2) (Ge.ins (Ge.pt e.1) []) = O0 at *
  clear h4 HI4 c2 c3
  go_wp2_with fail
  go_loopg [5, 6] l.length (fun m ov iv wr => ∃ k : Nat, k + m = l.length ∧ iv = .int .i64 k ∧ Hid (CI w #[.int .i64 e.1.1, .int .i64 e.1.2, .int .i64 e.2.1, .int .i64 e.2.2] ov ((l.take k).foldl (Ge.stepC e) O0) wr ∧ ((l.take k).foldl (Ge.stepC e) O0).length ≤ 2 + 2 * k))
  case atStart => exact ⟨0, by omega, rfl, HI5.out.1, HI5.out.2⟩
  case round =>
    obtain ⟨k, hkm, rfl, HB⟩ := hrel
    have hbel := HB.out.1.2.2.1
    clear HI5
    by_cases hlt : k < l.length
    · obtain ⟨f, hf⟩ : ∃ f, l[k]? = some f := ⟨_, List.getElem?_eq_getElem hlt⟩
      obtain ⟨b, rfl, hb, c0, c1, c2, c3⟩ := rdEdges_get HR.out hf
      have r0 := (hbel.cell (p := ⟨b, k * 4, none⟩) hb).trans c0
      have r1 := (hbel.cell (p := ⟨b, k * 4 + 1, none⟩) hb).trans c1
      have r2 := (hbel.cell (p := ⟨b, k * 4 + 2, none⟩) hb).trans c2
      have r3 := (hbel.cell (p := ⟨b, k * 4 + 3, none⟩) hb).trans c3
      have hbr : b < wr.heap.size := Nat.lt_of_lt_of_le hb hbel.size
      have hki : (k : Int) < (l.length : Int) := by omega
      have HF : Hid (smallE f) := HS.out f (List.mem_of_getElem? hf)
      have hfold : (l.take (k + 1)).foldl (Ge.stepC e) O0 = Ge.stepC e ((l.take k).foldl (Ge.stepC e) O0) f := by
        obtain ⟨h1, h2⟩ := List.getElem?_eq_some_iff.1 hf
        rw [List.take_succ_eq_append_getElem h1, h2, List.foldl_append]; rfl
      have HT : Hid ((l.take (k + 1)).foldl (Ge.stepC e) O0 = Ge.stepC e ((l.take k).foldl (Ge.stepC e) O0) f) := hfold
      have hlen := HB.out.2
      generalize (l.take k).foldl (Ge.stepC e) O0 = O at *
      clear c0 c1 c2 c3 hf hfold hbel
      have H1 : Hid (∀ w1, Calls Tryz.prog 135 #[.agg #[.int .i64 e.1.1, .int .i64 e.1.2, .int .i64 e.2.1, .int .i64 e.2.2]] w1 fun r w' => r = .returned (.int .i64 (e.2.1 - e.1.1)) ∧ Below w1.heap.size w1 w') := fun w1 => rDx_any _ _ _ _ w1 HE.out.a HE.out.c
      have H2 : Hid (∀ w1, Calls Tryz.prog 137 #[.agg #[.int .i64 e.1.1, .int .i64 e.1.2, .int .i64 e.2.1, .int .i64 e.2.2]] w1 fun r w' => r = .returned (.int .i64 (e.2.2 - e.1.2)) ∧ Below w1.heap.size w1 w') := fun w1 => rDy_any _ _ _ _ w1 HE.out.b HE.out.d
      have H3 : Hid (∀ w1, Calls Tryz.prog 135 #[.agg #[.int .i64 f.1.1, .int .i64 f.1.2, .int .i64 f.2.1, .int .i64 f.2.2]] w1 fun r w' => r = .returned (.int .i64 (f.2.1 - f.1.1)) ∧ Below w1.heap.size w1 w') := fun w1 => rDx_any _ _ _ _ w1 HF.out.a HF.out.c
      have H4 : Hid (∀ w1, Calls Tryz.prog 137 #[.agg #[.int .i64 f.1.1, .int .i64 f.1.2, .int .i64 f.2.1, .int .i64 f.2.2]] w1 fun r w' => r = .returned (.int .i64 (f.2.2 - f.1.2)) ∧ Below w1.heap.size w1 w') := fun w1 => rDy_any _ _ _ _ w1 HF.out.b HF.out.d
      have sm1 : ∀ {x y : Int}, small x → small y → -100 ≤ y - x ∧ y - x ≤ 100 := fun hx hy => by unfold small at *; omega
      have x1 := sm1 HE.out.a HE.out.c
      have x2 := sm1 HE.out.b HE.out.d
      have x3 := sm1 HF.out.a HF.out.c
      have x4 := sm1 HF.out.b HF.out.d
      have m1 : -10000 ≤ (e.2.1 - e.1.1) * (f.2.2 - f.1.2) ∧ (e.2.1 - e.1.1) * (f.2.2 - f.1.2) ≤ 10000 := mul_in (a := 100) (b := 100) x1 x4
      have m2 : -10000 ≤ (e.2.2 - e.1.2) * (f.2.1 - f.1.1) ∧ (e.2.2 - e.1.2) * (f.2.1 - f.1.1) ≤ 10000 := mul_in (a := 100) (b := 100) x2 x3
      have v1 : IntKind.i64.wrap ((e.2.1 - e.1.1) * (f.2.2 - f.1.2)) = (e.2.1 - e.1.1) * (f.2.2 - f.1.2) := by rw [IntKind.wrap_i64]; omega
      have v2 : IntKind.i64.wrap ((e.2.2 - e.1.2) * (f.2.1 - f.1.1)) = (e.2.2 - e.1.2) * (f.2.1 - f.1.1) := by rw [IntKind.wrap_i64]; omega
      clear m1 m2 x1 x2 x3 x4 sm1
      have HB0 : Hid (CI w #[.int .i64 e.1.1, .int .i64 e.1.2, .int .i64 e.2.1, .int .i64 e.2.2] u5 O (wr.alloc (.cells #[.int .i64 f.1.1, .int .i64 f.1.2, .int .i64 f.2.1, .int .i64 f.2.2] 151))) := HB.out.1.below ((Below.refl _ _).alloc (Nat.le_refl _) _)
      have hze := heap_alloc_new wr (.cells #[.int .i64 f.1.1, .int .i64 f.1.2, .int .i64 f.2.1, .int .i64 f.2.2] 151)
      have hzb : wr.heap.size < (wr.alloc (.cells #[.int .i64 f.1.1, .int .i64 f.1.2, .int .i64 f.2.1, .int .i64 f.2.2] 151)).heap.size := by simp
      go_wp2_with fail
      clear r0 r1 r2 r3
      generalize wr.alloc (.cells #[.int .i64 f.1.1, .int .i64 f.1.2, .int .i64 f.2.1, .int .i64 f.2.2] 151) = W0 at *
      generalize wr.heap.size = E at *
      have hza := HB0.out.2.2.2.1
      have hEb := HB0.out.2.2.2.2
      have z0 : W0.cell? ⟨w.heap.size, 0, none⟩ = some (.int .i64 e.1.1) := cell_of' hEb 0
      have z1 : W0.cell? ⟨w.heap.size, 1, none⟩ = some (.int .i64 e.1.2) := cell_of' hEb 1
      have z2 : W0.cell? ⟨w.heap.size, 2, none⟩ = some (.int .i64 e.2.1) := cell_of' hEb 2
      have z3 : W0.cell? ⟨w.heap.size, 3, none⟩ = some (.int .i64 e.2.2) := cell_of' hEb 3
      have z4 : W0.cell? ⟨E, 0, none⟩ = some (.int .i64 f.1.1) := cell_of' hze 0
      have z5 : W0.cell? ⟨E, 1, none⟩ = some (.int .i64 f.1.2) := cell_of' hze 1
      have z6 : W0.cell? ⟨E, 2, none⟩ = some (.int .i64 f.2.1) := cell_of' hze 2
      have z7 : W0.cell? ⟨E, 3, none⟩ = some (.int .i64 f.2.2) := cell_of' hze 3
      go_region_held3 (fun w' => w'.cell? ⟨w.heap.size, 0, none⟩ = some (.int .i64 e.1.1) ∧ w'.cell? ⟨w.heap.size, 1, none⟩ = some (.int .i64 e.1.2) ∧ w'.cell? ⟨w.heap.size, 2, none⟩ = some (.int .i64 e.2.1) ∧ w'.cell? ⟨w.heap.size, 3, none⟩ = some (.int .i64 e.2.2) ∧ w'.cell? ⟨E, 0, none⟩ = some (.int .i64 f.1.1) ∧ w'.cell? ⟨E, 1, none⟩ = some (.int .i64 f.1.2) ∧ w'.cell? ⟨E, 2, none⟩ = some (.int .i64 f.2.1) ∧ w'.cell? ⟨E, 3, none⟩ = some (.int .i64 f.2.2)) (go_keep) (first
          | (go_at_call_of 135 (Value.agg #[Value.int IntKind.i64 e.1.1, Value.int IntKind.i64 e.1.2, Value.int IntKind.i64 e.2.1, Value.int IntKind.i64 e.2.2]); refine (H1.out _).mono ?_; rintro r' w1' ⟨rfl, hb1⟩; have hfa : w.heap.size < w1'.heap.size := Nat.lt_of_lt_of_le hza hb1.size; have hfb : E < w1'.heap.size := Nat.lt_of_lt_of_le hzb hb1.size; have f0 := (hb1.cell (p := ⟨w.heap.size, 0, none⟩) hza).trans z0; have f1 := (hb1.cell (p := ⟨w.heap.size, 1, none⟩) hza).trans z1; have f2 := (hb1.cell (p := ⟨w.heap.size, 2, none⟩) hza).trans z2; have f3 := (hb1.cell (p := ⟨w.heap.size, 3, none⟩) hza).trans z3; have f4 := (hb1.cell (p := ⟨E, 0, none⟩) hzb).trans z4; have f5 := (hb1.cell (p := ⟨E, 1, none⟩) hzb).trans z5; have f6 := (hb1.cell (p := ⟨E, 2, none⟩) hzb).trans z6; have f7 := (hb1.cell (p := ⟨E, 3, none⟩) hzb).trans z7; have hfe := (hb1.block E hzb).trans hze)
          | (go_at_call_of 137 (Value.agg #[Value.int IntKind.i64 f.1.1, Value.int IntKind.i64 f.1.2, Value.int IntKind.i64 f.2.1, Value.int IntKind.i64 f.2.2]); refine (H4.out _).mono ?_; rintro r' w2' ⟨rfl, hb2⟩; have hga : w.heap.size < w2'.heap.size := Nat.lt_of_lt_of_le hfa hb2.size; have hgb : E < w2'.heap.size := Nat.lt_of_lt_of_le hfb hb2.size; have g0 := (hb2.cell (p := ⟨w.heap.size, 0, none⟩) hfa).trans f0; have g1 := (hb2.cell (p := ⟨w.heap.size, 1, none⟩) hfa).trans f1; have g2 := (hb2.cell (p := ⟨w.heap.size, 2, none⟩) hfa).trans f2; have g3 := (hb2.cell (p := ⟨w.heap.size, 3, none⟩) hfa).trans f3; have g4 := (hb2.cell (p := ⟨E, 0, none⟩) hfb).trans f4; have g5 := (hb2.cell (p := ⟨E, 1, none⟩) hfb).trans f5; have g6 := (hb2.cell (p := ⟨E, 2, none⟩) hfb).trans f6; have g7 := (hb2.cell (p := ⟨E, 3, none⟩) hfb).trans f7; have hge := (hb2.block E hfb).trans hfe)
          | (go_at_call_of 137 (Value.agg #[Value.int IntKind.i64 e.1.1, Value.int IntKind.i64 e.1.2, Value.int IntKind.i64 e.2.1, Value.int IntKind.i64 e.2.2]); refine (H2.out _).mono ?_; rintro r' w3' ⟨rfl, hb3⟩; have hha : w.heap.size < w3'.heap.size := Nat.lt_of_lt_of_le hga hb3.size; have hhb : E < w3'.heap.size := Nat.lt_of_lt_of_le hgb hb3.size; have h0 := (hb3.cell (p := ⟨w.heap.size, 0, none⟩) hga).trans g0; have h1 := (hb3.cell (p := ⟨w.heap.size, 1, none⟩) hga).trans g1; have h2 := (hb3.cell (p := ⟨w.heap.size, 2, none⟩) hga).trans g2; have h3 := (hb3.cell (p := ⟨w.heap.size, 3, none⟩) hga).trans g3; have h4 := (hb3.cell (p := ⟨E, 0, none⟩) hgb).trans g4; have h5 := (hb3.cell (p := ⟨E, 1, none⟩) hgb).trans g5; have h6 := (hb3.cell (p := ⟨E, 2, none⟩) hgb).trans g6; have h7 := (hb3.cell (p := ⟨E, 3, none⟩) hgb).trans g7; have hhe := (hb3.block E hgb).trans hge)
          | (go_at_call_of 135 (Value.agg #[Value.int IntKind.i64 f.1.1, Value.int IntKind.i64 f.1.2, Value.int IntKind.i64 f.2.1, Value.int IntKind.i64 f.2.2]); refine (H3.out _).mono ?_; rintro r' w4' ⟨rfl, hb4⟩; have hia : w.heap.size < w4'.heap.size := Nat.lt_of_lt_of_le hha hb4.size; have hib : E < w4'.heap.size := Nat.lt_of_lt_of_le hhb hb4.size; have i0 := (hb4.cell (p := ⟨w.heap.size, 0, none⟩) hha).trans h0; have i1 := (hb4.cell (p := ⟨w.heap.size, 1, none⟩) hha).trans h1; have i2 := (hb4.cell (p := ⟨w.heap.size, 2, none⟩) hha).trans h2; have i3 := (hb4.cell (p := ⟨w.heap.size, 3, none⟩) hha).trans h3; have i4 := (hb4.cell (p := ⟨E, 0, none⟩) hhb).trans h4; have i5 := (hb4.cell (p := ⟨E, 1, none⟩) hhb).trans h5; have i6 := (hb4.cell (p := ⟨E, 2, none⟩) hhb).trans h6; have i7 := (hb4.cell (p := ⟨E, 3, none⟩) hhb).trans h7; have hie := (hb4.block E hhb).trans hhe))
      have HB4 : Hid (CI w #[.int .i64 e.1.1, .int .i64 e.1.2, .int .i64 e.2.1, .int .i64 e.2.2] u5 O w4') := ((((HB0.out.below ((Below.refl _ _).drew)).below hb1).below hb2).below hb3).below hb4
      clear HB0 hb1 hb2 hb3 hb4 H1 H2 H3 H4 hEb
      by_cases hc : Ge.crE e f = 0
      · have heq : (e.2.1 - e.1.1) * (f.2.2 - f.1.2) = (e.2.2 - e.1.2) * (f.2.1 - f.1.1) := by unfold Ge.crE at hc; omega
        have HPF1 : Hid (∀ w1, Calls Tryz.prog 136 #[.agg #[.int .i64 f.1.1, .int .i64 f.1.2]] w1 fun r w' => r = .returned (.agg #[.int .i64 f.1.1, .int .i64 1, .int .i64 f.1.2, .int .i64 1]) ∧ Below w1.heap.size w1 w') := fun w1 => point_any f.1.1 f.1.2 w1
        have HPF2 : Hid (∀ w1, Calls Tryz.prog 136 #[.agg #[.int .i64 f.2.1, .int .i64 f.2.2]] w1 fun r w' => r = .returned (.agg #[.int .i64 f.2.1, .int .i64 1, .int .i64 f.2.2, .int .i64 1]) ∧ Below w1.heap.size w1 w') := fun w1 => point_any f.2.1 f.2.2 w1
        have HA1 : Hid (∀ w1, Calls Tryz.prog 80 #[.agg #[.int .i64 e.1.1, .int .i64 e.1.2, .int .i64 e.2.1, .int .i64 e.2.2], .agg #[.int .i64 f.1.1, .int .i64 1, .int .i64 f.1.2, .int .i64 1]] w1 fun r w' => r = .returned (.bool (Ge.hq (Ge.pt f.1) e)) ∧ Below w1.heap.size w1 w') := fun w1 => hq_any (Ge.pt f.1) e w1 (pt_in HF.out.a HF.out.b) HE.out
        have HA2 : Hid (∀ w1, Calls Tryz.prog 80 #[.agg #[.int .i64 e.1.1, .int .i64 e.1.2, .int .i64 e.2.1, .int .i64 e.2.2], .agg #[.int .i64 f.2.1, .int .i64 1, .int .i64 f.2.2, .int .i64 1]] w1 fun r w' => r = .returned (.bool (Ge.hq (Ge.pt f.2) e)) ∧ Below w1.heap.size w1 w') := fun w1 => hq_any (Ge.pt f.2) e w1 (pt_in HF.out.c HF.out.d) HE.out
        have HST : Hid (Ge.stepC e O f = (let o1 := if Ge.hq (Ge.pt f.1) e then Ge.ins (Ge.pt f.1) O else O
            if Ge.hq (Ge.pt f.2) e then Ge.ins (Ge.pt f.2) o1 else o1)) := by
          unfold Ge.stepC Hid
          rw [if_pos hc]
        clear hc
        go_wp2_with fail
        go_region_held3 (fun w' => w'.cell? ⟨w.heap.size, 0, none⟩ = some (.int .i64 e.1.1) ∧ w'.cell? ⟨w.heap.size, 1, none⟩ = some (.int .i64 e.1.2) ∧ w'.cell? ⟨w.heap.size, 2, none⟩ = some (.int .i64 e.2.1) ∧ w'.cell? ⟨w.heap.size, 3, none⟩ = some (.int .i64 e.2.2) ∧ w'.cell? ⟨E, 0, none⟩ = some (.int .i64 f.1.1) ∧ w'.cell? ⟨E, 1, none⟩ = some (.int .i64 f.1.2) ∧ w'.cell? ⟨E, 2, none⟩ = some (.int .i64 f.2.1) ∧ w'.cell? ⟨E, 3, none⟩ = some (.int .i64 f.2.2)) (go_keep) (first
            | (go_at_call 136; refine (HPF1.out _).mono ?_; rintro r' wm1 ⟨rfl, hbm1⟩; have hm1a : w.heap.size < wm1.heap.size := Nat.lt_of_lt_of_le hia hbm1.size; have hm1b : E < wm1.heap.size := Nat.lt_of_lt_of_le hib hbm1.size; have m10 := (hbm1.cell (p := ⟨w.heap.size, 0, none⟩) hia).trans i0; have m11 := (hbm1.cell (p := ⟨w.heap.size, 1, none⟩) hia).trans i1; have m12 := (hbm1.cell (p := ⟨w.heap.size, 2, none⟩) hia).trans i2; have m13 := (hbm1.cell (p := ⟨w.heap.size, 3, none⟩) hia).trans i3; have m14 := (hbm1.cell (p := ⟨E, 0, none⟩) hib).trans i4; have m15 := (hbm1.cell (p := ⟨E, 1, none⟩) hib).trans i5; have m16 := (hbm1.cell (p := ⟨E, 2, none⟩) hib).trans i6; have m17 := (hbm1.cell (p := ⟨E, 3, none⟩) hib).trans i7)
            | (go_at_call 80; refine (HA1.out _).mono ?_; rintro r' wm2 ⟨rfl, hbm2⟩; have hm2a : w.heap.size < wm2.heap.size := Nat.lt_of_lt_of_le hm1a hbm2.size; have hm2b : E < wm2.heap.size := Nat.lt_of_lt_of_le hm1b hbm2.size; have m20 := (hbm2.cell (p := ⟨w.heap.size, 0, none⟩) hm1a).trans m10; have m21 := (hbm2.cell (p := ⟨w.heap.size, 1, none⟩) hm1a).trans m11; have m22 := (hbm2.cell (p := ⟨w.heap.size, 2, none⟩) hm1a).trans m12; have m23 := (hbm2.cell (p := ⟨w.heap.size, 3, none⟩) hm1a).trans m13; have m24 := (hbm2.cell (p := ⟨E, 0, none⟩) hm1b).trans m14; have m25 := (hbm2.cell (p := ⟨E, 1, none⟩) hm1b).trans m15; have m26 := (hbm2.cell (p := ⟨E, 2, none⟩) hm1b).trans m16; have m27 := (hbm2.cell (p := ⟨E, 3, none⟩) hm1b).trans m17))
        have HCm2 : Hid (CI w #[.int .i64 e.1.1, .int .i64 e.1.2, .int .i64 e.2.1, .int .i64 e.2.2] u5 O wm2) := ((HB4.out.below ((Below.refl _ _).drew)).below hbm1).below hbm2
        clear hbm1 hbm2
        cases hQ1 : Ge.hq (Ge.pt f.1) e
        · go_wp2_with fail
          go_region_held3 (fun w' => w'.cell? ⟨w.heap.size, 0, none⟩ = some (.int .i64 e.1.1) ∧ w'.cell? ⟨w.heap.size, 1, none⟩ = some (.int .i64 e.1.2) ∧ w'.cell? ⟨w.heap.size, 2, none⟩ = some (.int .i64 e.2.1) ∧ w'.cell? ⟨w.heap.size, 3, none⟩ = some (.int .i64 e.2.2) ∧ w'.cell? ⟨E, 0, none⟩ = some (.int .i64 f.1.1) ∧ w'.cell? ⟨E, 1, none⟩ = some (.int .i64 f.1.2) ∧ w'.cell? ⟨E, 2, none⟩ = some (.int .i64 f.2.1) ∧ w'.cell? ⟨E, 3, none⟩ = some (.int .i64 f.2.2)) (go_keep) (first
              | (go_at_call 136; refine (HPF2.out _).mono ?_; rintro r' wm3 ⟨rfl, hbm3⟩; have hm3a : w.heap.size < wm3.heap.size := Nat.lt_of_lt_of_le hm2a hbm3.size; have hm3b : E < wm3.heap.size := Nat.lt_of_lt_of_le hm2b hbm3.size; have m30 := (hbm3.cell (p := ⟨w.heap.size, 0, none⟩) hm2a).trans m20; have m31 := (hbm3.cell (p := ⟨w.heap.size, 1, none⟩) hm2a).trans m21; have m32 := (hbm3.cell (p := ⟨w.heap.size, 2, none⟩) hm2a).trans m22; have m33 := (hbm3.cell (p := ⟨w.heap.size, 3, none⟩) hm2a).trans m23; have m34 := (hbm3.cell (p := ⟨E, 0, none⟩) hm2b).trans m24; have m35 := (hbm3.cell (p := ⟨E, 1, none⟩) hm2b).trans m25; have m36 := (hbm3.cell (p := ⟨E, 2, none⟩) hm2b).trans m26; have m37 := (hbm3.cell (p := ⟨E, 3, none⟩) hm2b).trans m27)
              | (go_at_call 80; refine (HA2.out _).mono ?_; rintro r' wm4 ⟨rfl, hbm4⟩; have hm4a : w.heap.size < wm4.heap.size := Nat.lt_of_lt_of_le hm3a hbm4.size; have hm4b : E < wm4.heap.size := Nat.lt_of_lt_of_le hm3b hbm4.size; have m40 := (hbm4.cell (p := ⟨w.heap.size, 0, none⟩) hm3a).trans m30; have m41 := (hbm4.cell (p := ⟨w.heap.size, 1, none⟩) hm3a).trans m31; have m42 := (hbm4.cell (p := ⟨w.heap.size, 2, none⟩) hm3a).trans m32; have m43 := (hbm4.cell (p := ⟨w.heap.size, 3, none⟩) hm3a).trans m33; have m44 := (hbm4.cell (p := ⟨E, 0, none⟩) hm3b).trans m34; have m45 := (hbm4.cell (p := ⟨E, 1, none⟩) hm3b).trans m35; have m46 := (hbm4.cell (p := ⟨E, 2, none⟩) hm3b).trans m36; have m47 := (hbm4.cell (p := ⟨E, 3, none⟩) hm3b).trans m37))
          have HCm4 : Hid (CI w #[.int .i64 e.1.1, .int .i64 e.1.2, .int .i64 e.2.1, .int .i64 e.2.2] u5 O wm4) := ((HCm2.out.below ((Below.refl _ _).drew)).below hbm3).below hbm4
          clear hbm3 hbm4
          cases hQ2 : Ge.hq (Ge.pt f.2) e
          · go_wp2_with fail
            have HN : Hid ((l.take (k + 1)).foldl (Ge.stepC e) O0 = O) := by
              rw [HT.out, HST.out, hQ1, hQ2]; rfl
            have HF9 : Hid (CI w #[.int .i64 e.1.1, .int .i64 e.1.2, .int .i64 e.2.1, .int .i64 e.2.2] u5 ((l.take (k + 1)).foldl (Ge.stepC e) O0) wm4 ∧ ((l.take (k + 1)).foldl (Ge.stepC e) O0).length ≤ 2 + 2 * (k + 1)) := by
              refine ⟨by rw [HN.out]; exact HCm4.out, ?_⟩
              rw [HT.out]
              have := step_len e O f
              omega
            go_roundg (gk - 1)
            case measure => omega
            case rel => exact ⟨k + 1, by omega, by go_num, HF9⟩
          · go_wp2_with fail
            have hlxm6 := Ge.ins_len (Ge.pt f.2) (O)
            refine (HPF2.out _).mono ?_
            rintro r' wm5 ⟨rfl, hbm5⟩
            have HCm5 : Hid (CI w #[.int .i64 e.1.1, .int .i64 e.1.2, .int .i64 e.2.1, .int .i64 e.2.2] u5 O wm5) := HCm4.out.below hbm5
            have hm5a : w.heap.size < wm5.heap.size := Nat.lt_of_lt_of_le hm4a hbm5.size
            have hm5b : E < wm5.heap.size := Nat.lt_of_lt_of_le hm4b hbm5.size
            have m50 := (hbm5.cell (p := ⟨w.heap.size, 0, none⟩) hm4a).trans m40
            have m51 := (hbm5.cell (p := ⟨w.heap.size, 1, none⟩) hm4a).trans m41
            have m52 := (hbm5.cell (p := ⟨w.heap.size, 2, none⟩) hm4a).trans m42
            have m53 := (hbm5.cell (p := ⟨w.heap.size, 3, none⟩) hm4a).trans m43
            have m54 := (hbm5.cell (p := ⟨E, 0, none⟩) hm4b).trans m44
            have m55 := (hbm5.cell (p := ⟨E, 1, none⟩) hm4b).trans m45
            have m56 := (hbm5.cell (p := ⟨E, 2, none⟩) hm4b).trans m46
            have m57 := (hbm5.cell (p := ⟨E, 3, none⟩) hm4b).trans m47
            go_wp2_with fail
            refine (with_ci HCm5.out (Ge.pt f.2) (pt_in HF.out.c HF.out.d) (Ge.pt_red _) (by omega)).mono ?_
            rintro r' wm6 ⟨vm6, rfl, hcim6, hbm6⟩
            have hm6a : w.heap.size < wm6.heap.size := Nat.lt_of_lt_of_le hm5a hbm6.size
            have hm6b : E < wm6.heap.size := Nat.lt_of_lt_of_le hm5b hbm6.size
            have m60 := (hbm6.cell (p := ⟨w.heap.size, 0, none⟩) hm5a).trans m50
            have m61 := (hbm6.cell (p := ⟨w.heap.size, 1, none⟩) hm5a).trans m51
            have m62 := (hbm6.cell (p := ⟨w.heap.size, 2, none⟩) hm5a).trans m52
            have m63 := (hbm6.cell (p := ⟨w.heap.size, 3, none⟩) hm5a).trans m53
            have m64 := (hbm6.cell (p := ⟨E, 0, none⟩) hm5b).trans m54
            have m65 := (hbm6.cell (p := ⟨E, 1, none⟩) hm5b).trans m55
            have m66 := (hbm6.cell (p := ⟨E, 2, none⟩) hm5b).trans m56
            have m67 := (hbm6.cell (p := ⟨E, 3, none⟩) hm5b).trans m57
            have HCm6 : Hid (CI w #[.int .i64 e.1.1, .int .i64 e.1.2, .int .i64 e.2.1, .int .i64 e.2.2] vm6 (Ge.ins (Ge.pt f.2) O) wm6) := hcim6
            clear hbm5 hcim6 hbm6
            go_wp2_with fail
            have HN : Hid ((l.take (k + 1)).foldl (Ge.stepC e) O0 = (Ge.ins (Ge.pt f.2) O)) := by
              rw [HT.out, HST.out, hQ1, hQ2]; rfl
            have HF9 : Hid (CI w #[.int .i64 e.1.1, .int .i64 e.1.2, .int .i64 e.2.1, .int .i64 e.2.2] vm6 ((l.take (k + 1)).foldl (Ge.stepC e) O0) wm6 ∧ ((l.take (k + 1)).foldl (Ge.stepC e) O0).length ≤ 2 + 2 * (k + 1)) := by
              refine ⟨by rw [HN.out]; exact HCm6.out, ?_⟩
              rw [HT.out]
              have := step_len e O f
              omega
            go_roundg (gk - 1)
            case measure => omega
            case rel => exact ⟨k + 1, by omega, by go_num, HF9⟩
        · go_wp2_with fail
          have hlxm8 := Ge.ins_len (Ge.pt f.1) (O)
          refine (HPF1.out _).mono ?_
          rintro r' wm7 ⟨rfl, hbm7⟩
          have HCm7 : Hid (CI w #[.int .i64 e.1.1, .int .i64 e.1.2, .int .i64 e.2.1, .int .i64 e.2.2] u5 O wm7) := HCm2.out.below hbm7
          have hm7a : w.heap.size < wm7.heap.size := Nat.lt_of_lt_of_le hm2a hbm7.size
          have hm7b : E < wm7.heap.size := Nat.lt_of_lt_of_le hm2b hbm7.size
          have m70 := (hbm7.cell (p := ⟨w.heap.size, 0, none⟩) hm2a).trans m20
          have m71 := (hbm7.cell (p := ⟨w.heap.size, 1, none⟩) hm2a).trans m21
          have m72 := (hbm7.cell (p := ⟨w.heap.size, 2, none⟩) hm2a).trans m22
          have m73 := (hbm7.cell (p := ⟨w.heap.size, 3, none⟩) hm2a).trans m23
          have m74 := (hbm7.cell (p := ⟨E, 0, none⟩) hm2b).trans m24
          have m75 := (hbm7.cell (p := ⟨E, 1, none⟩) hm2b).trans m25
          have m76 := (hbm7.cell (p := ⟨E, 2, none⟩) hm2b).trans m26
          have m77 := (hbm7.cell (p := ⟨E, 3, none⟩) hm2b).trans m27
          go_wp2_with fail
          refine (with_ci HCm7.out (Ge.pt f.1) (pt_in HF.out.a HF.out.b) (Ge.pt_red _) (by omega)).mono ?_
          rintro r' wm8 ⟨vm8, rfl, hcim8, hbm8⟩
          have hm8a : w.heap.size < wm8.heap.size := Nat.lt_of_lt_of_le hm7a hbm8.size
          have hm8b : E < wm8.heap.size := Nat.lt_of_lt_of_le hm7b hbm8.size
          have m80 := (hbm8.cell (p := ⟨w.heap.size, 0, none⟩) hm7a).trans m70
          have m81 := (hbm8.cell (p := ⟨w.heap.size, 1, none⟩) hm7a).trans m71
          have m82 := (hbm8.cell (p := ⟨w.heap.size, 2, none⟩) hm7a).trans m72
          have m83 := (hbm8.cell (p := ⟨w.heap.size, 3, none⟩) hm7a).trans m73
          have m84 := (hbm8.cell (p := ⟨E, 0, none⟩) hm7b).trans m74
          have m85 := (hbm8.cell (p := ⟨E, 1, none⟩) hm7b).trans m75
          have m86 := (hbm8.cell (p := ⟨E, 2, none⟩) hm7b).trans m76
          have m87 := (hbm8.cell (p := ⟨E, 3, none⟩) hm7b).trans m77
          have HCm8 : Hid (CI w #[.int .i64 e.1.1, .int .i64 e.1.2, .int .i64 e.2.1, .int .i64 e.2.2] vm8 (Ge.ins (Ge.pt f.1) O) wm8) := hcim8
          clear hbm7 hcim8 hbm8
          go_wp2_with fail
          go_region_held3 (fun w' => w'.cell? ⟨w.heap.size, 0, none⟩ = some (.int .i64 e.1.1) ∧ w'.cell? ⟨w.heap.size, 1, none⟩ = some (.int .i64 e.1.2) ∧ w'.cell? ⟨w.heap.size, 2, none⟩ = some (.int .i64 e.2.1) ∧ w'.cell? ⟨w.heap.size, 3, none⟩ = some (.int .i64 e.2.2) ∧ w'.cell? ⟨E, 0, none⟩ = some (.int .i64 f.1.1) ∧ w'.cell? ⟨E, 1, none⟩ = some (.int .i64 f.1.2) ∧ w'.cell? ⟨E, 2, none⟩ = some (.int .i64 f.2.1) ∧ w'.cell? ⟨E, 3, none⟩ = some (.int .i64 f.2.2)) (go_keep) (first
              | (go_at_call 136; refine (HPF2.out _).mono ?_; rintro r' wm9 ⟨rfl, hbm9⟩; have hm9a : w.heap.size < wm9.heap.size := Nat.lt_of_lt_of_le hm8a hbm9.size; have hm9b : E < wm9.heap.size := Nat.lt_of_lt_of_le hm8b hbm9.size; have m90 := (hbm9.cell (p := ⟨w.heap.size, 0, none⟩) hm8a).trans m80; have m91 := (hbm9.cell (p := ⟨w.heap.size, 1, none⟩) hm8a).trans m81; have m92 := (hbm9.cell (p := ⟨w.heap.size, 2, none⟩) hm8a).trans m82; have m93 := (hbm9.cell (p := ⟨w.heap.size, 3, none⟩) hm8a).trans m83; have m94 := (hbm9.cell (p := ⟨E, 0, none⟩) hm8b).trans m84; have m95 := (hbm9.cell (p := ⟨E, 1, none⟩) hm8b).trans m85; have m96 := (hbm9.cell (p := ⟨E, 2, none⟩) hm8b).trans m86; have m97 := (hbm9.cell (p := ⟨E, 3, none⟩) hm8b).trans m87)
              | (go_at_call 80; refine (HA2.out _).mono ?_; rintro r' wm10 ⟨rfl, hbm10⟩; have hm10a : w.heap.size < wm10.heap.size := Nat.lt_of_lt_of_le hm9a hbm10.size; have hm10b : E < wm10.heap.size := Nat.lt_of_lt_of_le hm9b hbm10.size; have m100 := (hbm10.cell (p := ⟨w.heap.size, 0, none⟩) hm9a).trans m90; have m101 := (hbm10.cell (p := ⟨w.heap.size, 1, none⟩) hm9a).trans m91; have m102 := (hbm10.cell (p := ⟨w.heap.size, 2, none⟩) hm9a).trans m92; have m103 := (hbm10.cell (p := ⟨w.heap.size, 3, none⟩) hm9a).trans m93; have m104 := (hbm10.cell (p := ⟨E, 0, none⟩) hm9b).trans m94; have m105 := (hbm10.cell (p := ⟨E, 1, none⟩) hm9b).trans m95; have m106 := (hbm10.cell (p := ⟨E, 2, none⟩) hm9b).trans m96; have m107 := (hbm10.cell (p := ⟨E, 3, none⟩) hm9b).trans m97))
          have HCm10 : Hid (CI w #[.int .i64 e.1.1, .int .i64 e.1.2, .int .i64 e.2.1, .int .i64 e.2.2] vm8 (Ge.ins (Ge.pt f.1) O) wm10) := ((HCm8.out.below ((Below.refl _ _).drew)).below hbm9).below hbm10
          clear hbm9 hbm10
          cases hQ2 : Ge.hq (Ge.pt f.2) e
          · go_wp2_with fail
            have HN : Hid ((l.take (k + 1)).foldl (Ge.stepC e) O0 = (Ge.ins (Ge.pt f.1) O)) := by
              rw [HT.out, HST.out, hQ1, hQ2]; rfl
            have HF9 : Hid (CI w #[.int .i64 e.1.1, .int .i64 e.1.2, .int .i64 e.2.1, .int .i64 e.2.2] vm8 ((l.take (k + 1)).foldl (Ge.stepC e) O0) wm10 ∧ ((l.take (k + 1)).foldl (Ge.stepC e) O0).length ≤ 2 + 2 * (k + 1)) := by
              refine ⟨by rw [HN.out]; exact HCm10.out, ?_⟩
              rw [HT.out]
              have := step_len e O f
              omega
            go_roundg (gk - 1)
            case measure => omega
            case rel => exact ⟨k + 1, by omega, by go_num, HF9⟩
          · go_wp2_with fail
            have hlxm12 := Ge.ins_len (Ge.pt f.2) ((Ge.ins (Ge.pt f.1) O))
            refine (HPF2.out _).mono ?_
            rintro r' wm11 ⟨rfl, hbm11⟩
            have HCm11 : Hid (CI w #[.int .i64 e.1.1, .int .i64 e.1.2, .int .i64 e.2.1, .int .i64 e.2.2] vm8 (Ge.ins (Ge.pt f.1) O) wm11) := HCm10.out.below hbm11
            have hm11a : w.heap.size < wm11.heap.size := Nat.lt_of_lt_of_le hm10a hbm11.size
            have hm11b : E < wm11.heap.size := Nat.lt_of_lt_of_le hm10b hbm11.size
            have m110 := (hbm11.cell (p := ⟨w.heap.size, 0, none⟩) hm10a).trans m100
            have m111 := (hbm11.cell (p := ⟨w.heap.size, 1, none⟩) hm10a).trans m101
            have m112 := (hbm11.cell (p := ⟨w.heap.size, 2, none⟩) hm10a).trans m102
            have m113 := (hbm11.cell (p := ⟨w.heap.size, 3, none⟩) hm10a).trans m103
            have m114 := (hbm11.cell (p := ⟨E, 0, none⟩) hm10b).trans m104
            have m115 := (hbm11.cell (p := ⟨E, 1, none⟩) hm10b).trans m105
            have m116 := (hbm11.cell (p := ⟨E, 2, none⟩) hm10b).trans m106
            have m117 := (hbm11.cell (p := ⟨E, 3, none⟩) hm10b).trans m107
            go_wp2_with fail
            refine (with_ci HCm11.out (Ge.pt f.2) (pt_in HF.out.c HF.out.d) (Ge.pt_red _) (by omega)).mono ?_
            rintro r' wm12 ⟨vm12, rfl, hcim12, hbm12⟩
            have hm12a : w.heap.size < wm12.heap.size := Nat.lt_of_lt_of_le hm11a hbm12.size
            have hm12b : E < wm12.heap.size := Nat.lt_of_lt_of_le hm11b hbm12.size
            have m120 := (hbm12.cell (p := ⟨w.heap.size, 0, none⟩) hm11a).trans m110
            have m121 := (hbm12.cell (p := ⟨w.heap.size, 1, none⟩) hm11a).trans m111
            have m122 := (hbm12.cell (p := ⟨w.heap.size, 2, none⟩) hm11a).trans m112
            have m123 := (hbm12.cell (p := ⟨w.heap.size, 3, none⟩) hm11a).trans m113
            have m124 := (hbm12.cell (p := ⟨E, 0, none⟩) hm11b).trans m114
            have m125 := (hbm12.cell (p := ⟨E, 1, none⟩) hm11b).trans m115
            have m126 := (hbm12.cell (p := ⟨E, 2, none⟩) hm11b).trans m116
            have m127 := (hbm12.cell (p := ⟨E, 3, none⟩) hm11b).trans m117
            have HCm12 : Hid (CI w #[.int .i64 e.1.1, .int .i64 e.1.2, .int .i64 e.2.1, .int .i64 e.2.2] vm12 (Ge.ins (Ge.pt f.2) (Ge.ins (Ge.pt f.1) O)) wm12) := hcim12
            clear hbm11 hcim12 hbm12
            go_wp2_with fail
            have HN : Hid ((l.take (k + 1)).foldl (Ge.stepC e) O0 = (Ge.ins (Ge.pt f.2) (Ge.ins (Ge.pt f.1) O))) := by
              rw [HT.out, HST.out, hQ1, hQ2]; rfl
            have HF9 : Hid (CI w #[.int .i64 e.1.1, .int .i64 e.1.2, .int .i64 e.2.1, .int .i64 e.2.2] vm12 ((l.take (k + 1)).foldl (Ge.stepC e) O0) wm12 ∧ ((l.take (k + 1)).foldl (Ge.stepC e) O0).length ≤ 2 + 2 * (k + 1)) := by
              refine ⟨by rw [HN.out]; exact HCm12.out, ?_⟩
              rw [HT.out]
              have := step_len e O f
              omega
            go_roundg (gk - 1)
            case measure => omega
            case rel => exact ⟨k + 1, by omega, by go_num, HF9⟩
      · have hne : ¬ ((e.2.1 - e.1.1) * (f.2.2 - f.1.2) = (e.2.2 - e.1.2) * (f.2.1 - f.1.1)) := fun h => hc (by unfold Ge.crE; omega)
        obtain ⟨P, hP⟩ : ∃ P, Ge.meetP e f = P := ⟨_, rfl⟩
        have HPI : Hid (QIn P ∧ Ge.RedP P) := hP ▸ ⟨meet_in HE.out HF.out hc, Ge.meet_red hc⟩
        have HM : Hid (∀ w1, Calls Tryz.prog 138 #[.agg #[.int .i64 e.1.1, .int .i64 e.1.2, .int .i64 e.2.1, .int .i64 e.2.2], .agg #[.int .i64 f.1.1, .int .i64 f.1.2, .int .i64 f.2.1, .int .i64 f.2.2]] w1 fun r w' => r = .returned (.agg #[.int .i64 P.1.1, .int .i64 P.1.2, .int .i64 P.2.1, .int .i64 P.2.2]) ∧ Below w1.heap.size w1 w') := fun w1 => hP ▸ meet_any e f w1 HE.out HF.out hc
        have HA : Hid (∀ w1, Calls Tryz.prog 80 #[.agg #[.int .i64 e.1.1, .int .i64 e.1.2, .int .i64 e.2.1, .int .i64 e.2.2], .agg #[.int .i64 P.1.1, .int .i64 P.1.2, .int .i64 P.2.1, .int .i64 P.2.2]] w1 fun r w' => r = .returned (.bool (Ge.hq P e)) ∧ Below w1.heap.size w1 w') := fun w1 => hq_any P e w1 HPI.out.1 HE.out
        have HB' : Hid (∀ w1, Calls Tryz.prog 80 #[.agg #[.int .i64 f.1.1, .int .i64 f.1.2, .int .i64 f.2.1, .int .i64 f.2.2], .agg #[.int .i64 P.1.1, .int .i64 P.1.2, .int .i64 P.2.1, .int .i64 P.2.2]] w1 fun r w' => r = .returned (.bool (Ge.hq P f)) ∧ Below w1.heap.size w1 w') := fun w1 => hq_any P f w1 HPI.out.1 HF.out
        have HST : Hid (Ge.stepC e O f = if Ge.hq P e && Ge.hq P f then Ge.ins P O else O) := by
          unfold Ge.stepC Hid
          rw [if_neg hc, hP]
        clear hc hP
        have HCa : Hid (CI w #[.int .i64 e.1.1, .int .i64 e.1.2, .int .i64 e.2.1, .int .i64 e.2.2] u5 O w4') := HB4
        have hEa := hie
        have hEza := hib
        go_wp2_with fail
        refine (HM.out _).mono ?_
        rintro r' w5' ⟨rfl, hb5⟩
        have HCb : Hid (CI w #[.int .i64 e.1.1, .int .i64 e.1.2, .int .i64 e.2.1, .int .i64 e.2.2] u5 O w5') := HCa.out.below hb5
        have heb := HCb.out.2.2.2.2
        have hwb : w.heap.size < _ := HCb.out.2.2.2.1
        have hEb := (hb5.block E hEza).trans hEa
        have hEzb : E < w5'.heap.size := Nat.lt_of_lt_of_le hEza hb5.size
        have ceb0 : w5'.cell? ⟨w.heap.size, 0, none⟩ = some (.int .i64 e.1.1) := cell_of' heb 0
        have ceb1 : w5'.cell? ⟨w.heap.size, 1, none⟩ = some (.int .i64 e.1.2) := cell_of' heb 1
        have ceb2 : w5'.cell? ⟨w.heap.size, 2, none⟩ = some (.int .i64 e.2.1) := cell_of' heb 2
        have ceb3 : w5'.cell? ⟨w.heap.size, 3, none⟩ = some (.int .i64 e.2.2) := cell_of' heb 3
        have cfb0 : w5'.cell? ⟨E, 0, none⟩ = some (.int .i64 f.1.1) := cell_of' hEb 0
        have cfb1 : w5'.cell? ⟨E, 1, none⟩ = some (.int .i64 f.1.2) := cell_of' hEb 1
        have cfb2 : w5'.cell? ⟨E, 2, none⟩ = some (.int .i64 f.2.1) := cell_of' hEb 2
        have cfb3 : w5'.cell? ⟨E, 3, none⟩ = some (.int .i64 f.2.2) := cell_of' hEb 3
        have HCc : Hid (CI w #[.int .i64 e.1.1, .int .i64 e.1.2, .int .i64 e.2.1, .int .i64 e.2.2] u5 O (w5'.alloc (.cells #[.int .i64 P.1.1, .int .i64 P.1.2, .int .i64 P.2.1, .int .i64 P.2.2] 100))) := HCb.out.below ((Below.refl _ _).alloc (Nat.le_refl _) _)
        have hEc : (w5'.alloc (.cells #[.int .i64 P.1.1, .int .i64 P.1.2, .int .i64 P.2.1, .int .i64 P.2.2] 100)).heap[E]? = some (.cells #[.int .i64 f.1.1, .int .i64 f.1.2, .int .i64 f.2.1, .int .i64 f.2.2] 151 (0, 0)) := by rw [Below.heap_alloc _ _ _ hEzb]; exact hEb
        have hEzc : E < (w5'.alloc (.cells #[.int .i64 P.1.1, .int .i64 P.1.2, .int .i64 P.2.1, .int .i64 P.2.2] 100)).heap.size := by simp; omega
        have hPc := heap_alloc_new w5' (.cells #[.int .i64 P.1.1, .int .i64 P.1.2, .int .i64 P.2.1, .int .i64 P.2.2] 100)
        have hPzc : w5'.heap.size < (w5'.alloc (.cells #[.int .i64 P.1.1, .int .i64 P.1.2, .int .i64 P.2.1, .int .i64 P.2.2] 100)).heap.size := by simp
        go_wp2_with fail
        generalize w5'.alloc (.cells #[.int .i64 P.1.1, .int .i64 P.1.2, .int .i64 P.2.1, .int .i64 P.2.2] 100) = w6' at *
        generalize w5'.heap.size = PB at *
        refine (HA.out _).mono ?_
        rintro r' w7' ⟨rfl, hb7⟩
        have HCd : Hid (CI w #[.int .i64 e.1.1, .int .i64 e.1.2, .int .i64 e.2.1, .int .i64 e.2.2] u5 O w7') := HCc.out.below hb7
        have hed := HCd.out.2.2.2.2
        have hwd : w.heap.size < _ := HCd.out.2.2.2.1
        have hEd := (hb7.block E hEzc).trans hEc
        have hEzd : E < w7'.heap.size := Nat.lt_of_lt_of_le hEzc hb7.size
        have hPd := (hb7.block PB hPzc).trans hPc
        have hPzd : PB < w7'.heap.size := Nat.lt_of_lt_of_le hPzc hb7.size
        have ced0 : w7'.cell? ⟨w.heap.size, 0, none⟩ = some (.int .i64 e.1.1) := cell_of' hed 0
        have ced1 : w7'.cell? ⟨w.heap.size, 1, none⟩ = some (.int .i64 e.1.2) := cell_of' hed 1
        have ced2 : w7'.cell? ⟨w.heap.size, 2, none⟩ = some (.int .i64 e.2.1) := cell_of' hed 2
        have ced3 : w7'.cell? ⟨w.heap.size, 3, none⟩ = some (.int .i64 e.2.2) := cell_of' hed 3
        have cfd0 : w7'.cell? ⟨E, 0, none⟩ = some (.int .i64 f.1.1) := cell_of' hEd 0
        have cfd1 : w7'.cell? ⟨E, 1, none⟩ = some (.int .i64 f.1.2) := cell_of' hEd 1
        have cfd2 : w7'.cell? ⟨E, 2, none⟩ = some (.int .i64 f.2.1) := cell_of' hEd 2
        have cfd3 : w7'.cell? ⟨E, 3, none⟩ = some (.int .i64 f.2.2) := cell_of' hEd 3
        have cpd0 : w7'.cell? ⟨PB, 0, none⟩ = some (.int .i64 P.1.1) := cell_of' hPd 0
        have cpd1 : w7'.cell? ⟨PB, 1, none⟩ = some (.int .i64 P.1.2) := cell_of' hPd 1
        have cpd2 : w7'.cell? ⟨PB, 2, none⟩ = some (.int .i64 P.2.1) := cell_of' hPd 2
        have cpd3 : w7'.cell? ⟨PB, 3, none⟩ = some (.int .i64 P.2.2) := cell_of' hPd 3
        go_wp2_with fail
        refine (HB'.out _).mono ?_
        rintro r' w8' ⟨rfl, hb8⟩
        have HCg : Hid (CI w #[.int .i64 e.1.1, .int .i64 e.1.2, .int .i64 e.2.1, .int .i64 e.2.2] u5 O w8') := HCd.out.below hb8
        have heg := HCg.out.2.2.2.2
        have hwg : w.heap.size < _ := HCg.out.2.2.2.1
        have hEg := (hb8.block E hEzd).trans hEd
        have hEzg : E < w8'.heap.size := Nat.lt_of_lt_of_le hEzd hb8.size
        have hPg := (hb8.block PB hPzd).trans hPd
        have hPzg : PB < w8'.heap.size := Nat.lt_of_lt_of_le hPzd hb8.size
        have ceg0 : w8'.cell? ⟨w.heap.size, 0, none⟩ = some (.int .i64 e.1.1) := cell_of' heg 0
        have ceg1 : w8'.cell? ⟨w.heap.size, 1, none⟩ = some (.int .i64 e.1.2) := cell_of' heg 1
        have ceg2 : w8'.cell? ⟨w.heap.size, 2, none⟩ = some (.int .i64 e.2.1) := cell_of' heg 2
        have ceg3 : w8'.cell? ⟨w.heap.size, 3, none⟩ = some (.int .i64 e.2.2) := cell_of' heg 3
        have cfg0 : w8'.cell? ⟨E, 0, none⟩ = some (.int .i64 f.1.1) := cell_of' hEg 0
        have cfg1 : w8'.cell? ⟨E, 1, none⟩ = some (.int .i64 f.1.2) := cell_of' hEg 1
        have cfg2 : w8'.cell? ⟨E, 2, none⟩ = some (.int .i64 f.2.1) := cell_of' hEg 2
        have cfg3 : w8'.cell? ⟨E, 3, none⟩ = some (.int .i64 f.2.2) := cell_of' hEg 3
        have cpg0 : w8'.cell? ⟨PB, 0, none⟩ = some (.int .i64 P.1.1) := cell_of' hPg 0
        have cpg1 : w8'.cell? ⟨PB, 1, none⟩ = some (.int .i64 P.1.2) := cell_of' hPg 1
        have cpg2 : w8'.cell? ⟨PB, 2, none⟩ = some (.int .i64 P.2.1) := cell_of' hPg 2
        have cpg3 : w8'.cell? ⟨PB, 3, none⟩ = some (.int .i64 P.2.2) := cell_of' hPg 3
        clear hb5 hb7 hb8 HM HA HB'
        cases hA : Ge.hq P e <;> cases hB : Ge.hq P f
        rotate_left 3
        · have HN : Hid ((l.take (k + 1)).foldl (Ge.stepC e) O0 = Ge.ins P O) := by
            rw [HT.out, HST.out, hA, hB]; rfl
          have hlx := Ge.ins_len P O
          clear hA hB
          go_wp2_with fail
          refine (with_ci HCg.out P HPI.out.1 HPI.out.2 (by omega)).mono ?_
          rintro r' w9 ⟨v9, rfl, h9, _⟩
          have HF9 : Hid (CI w #[.int .i64 e.1.1, .int .i64 e.1.2, .int .i64 e.2.1, .int .i64 e.2.2] v9 ((l.take (k + 1)).foldl (Ge.stepC e) O0) w9 ∧ ((l.take (k + 1)).foldl (Ge.stepC e) O0).length ≤ 2 + 2 * (k + 1)) := by rw [HN.out]; exact ⟨h9, by omega⟩
          clear h9
          go_wp2_with fail
          go_roundg (gk - 1)
          case measure => omega
          case rel => exact ⟨k + 1, by omega, by go_num, HF9⟩
        all_goals
          have HN : Hid ((l.take (k + 1)).foldl (Ge.stepC e) O0 = O) := by
            rw [HT.out, HST.out, hA, hB]; rfl
          have HF9 : Hid (CI w #[.int .i64 e.1.1, .int .i64 e.1.2, .int .i64 e.2.1, .int .i64 e.2.2] u5 ((l.take (k + 1)).foldl (Ge.stepC e) O0) w8' ∧ ((l.take (k + 1)).foldl (Ge.stepC e) O0).length ≤ 2 + 2 * (k + 1)) := by rw [HN.out]; exact ⟨HCg.out, by omega⟩
          clear hA hB
          go_wp2_with fail
          go_roundg (gk - 1)
          case measure => omega
          case rel => exact ⟨k + 1, by omega, by go_num, HF9⟩
    · have hk : k = l.length := by omega
      subst hk
      have HFx : Hid (CI w #[.int .i64 e.1.1, .int .i64 e.1.2, .int .i64 e.2.1, .int .i64 e.2.2] u5 (Ge.cutsL l e) wr) := by
        have := HB.out.1
        rw [List.take_length, ← HCL.out] at this
        exact this
      clear HB HR HS
      go_wp2_with fail
      go_ret
      exact ⟨_, rfl, HFx.out.1, HFx.out.2.1, HFx.out.2.2.1⟩

end Go.Proofs.YtkjhhooecopolaaGreatDoor

namespace Go.Proofs.YtkjhhooecopolaaGreatDoor
open Go.RowKit

namespace Pl
def ftxt (a : Ge.Fr) : List UInt8 := if a.2 = 1 then Lib.itoa a.1 else Lib.itoa a.1 ++ ([47] ++ Lib.itoa a.2)
def qtxt (q : Ge.Qt) : List UInt8 := ftxt q.1 ++ ([32] ++ ftxt q.2)
end Pl

theorem ftxt_len {a : Ge.Fr} (hn : -10000000 ≤ a.1 ∧ a.1 ≤ 10000000) (hd : 0 < a.2 ∧ a.2 ≤ 1000000) : (Pl.ftxt a).length ≤ 50 := by
  have h1 := Lib.itoa_length_le a.1 (by omega) (by omega)
  have h2 := Lib.itoa_length_le a.2 (by omega) (by omega)
  unfold Pl.ftxt
  split
  · omega
  · simp; omega

set_option maxRecDepth 100000 in
set_option maxHeartbeats 1000000 in
theorem fracText_any (n d : Int) (w : World) (hG : Gl w) (hn : -10000000 ≤ n ∧ n ≤ 10000000) (hd : 0 < d ∧ d ≤ 1000000) :
    Calls Tryz.prog 127 #[.agg #[.int .i64 n, .int .i64 d]] w fun e w' => e = .returned (.string ⟨(Pl.ftxt (n, d)).toArray⟩) ∧ Below w.heap.size w w' := by
  have HN : Hid (∀ w1, Gl w1 → Calls Tryz.prog 88 #[.int .i64 n] w1 fun e w' => e = .returned (.string ⟨(Lib.itoa n).toArray⟩) ∧ Below w1.heap.size w1 w') := fun w1 g1 => dec_any n w1 g1 (by omega) (by omega)
  have HD : Hid (∀ w1, Gl w1 → Calls Tryz.prog 88 #[.int .i64 d] w1 fun e w' => e = .returned (.string ⟨(Lib.itoa d).toArray⟩) ∧ Below w1.heap.size w1 w') := fun w1 g1 => dec_any d w1 g1 (by omega) (by omega)
  have h1 := Lib.itoa_length_le n (by omega) (by omega)
  have h2 := Lib.itoa_length_le d (by omega) (by omega)
  have hb0 : Below w.heap.size w (w.alloc (.cells #[.int .i64 n, .int .i64 d] 97)) := (Below.refl _ _).alloc (Nat.le_refl _) _
  have hE := heap_alloc_new w (.cells #[.int .i64 n, .int .i64 d] 97)
  have hz : w.heap.size < (w.alloc (.cells #[.int .i64 n, .int .i64 d] 97)).heap.size := by simp
  have hG0 : Gl (w.alloc (.cells #[.int .i64 n, .int .i64 d] 97)) := hG.alloc _
  by_cases hd1 : d = 1
  · have HV : Hid (Pl.ftxt (n, d) = Lib.itoa n) := if_pos hd1
    rw [HV.out]
    subst hd1
    generalize Lib.itoa n = X1 at *
    clear HV h1 h2
    go_enter Tryz.func127, Tryz.ntmps127
    go_wp2_with fail
    refine (HN.out _ hG0).mono ?_
    rintro e w1 ⟨rfl, hb1⟩
    go_wp2_with fail
    go_ret
    exact ⟨rfl, hb0.trans (hb1.mono hb0.size)⟩
  · have HV : Hid (Pl.ftxt (n, d) = Lib.itoa n ++ ([47] ++ Lib.itoa d)) := if_neg hd1
    rw [HV.out]
    generalize Lib.itoa n = X1 at *
    generalize Lib.itoa d = X2 at *
    have hs1 : ¬9223372036854775807 < X1.length + 1 := by omega
    have hs2 : ¬9223372036854775807 < X1.length + 1 + X2.length := by omega
    clear HV
    go_enter Tryz.func127, Tryz.ntmps127
    go_wp2_with fail
    generalize w.alloc (.cells #[.int .i64 n, .int .i64 d] 97) = W at *
    generalize hB : w.heap.size = B at *
    have r0 : W.cell? ⟨B, 0, none⟩ = some (.int .i64 n) := cell_of hE 0
    have r1 : W.cell? ⟨B, 1, none⟩ = some (.int .i64 d) := cell_of hE 1
    go_region_held3 (fun w' => w'.cell? ⟨B, 0, none⟩ = some (.int .i64 n) ∧ w'.cell? ⟨B, 1, none⟩ = some (.int .i64 d)) (go_keep) (first
      | (go_at_call_of 88 (Value.int IntKind.i64 n); refine (HN.out _ hG0.drew).mono ?_; rintro e w5 ⟨rfl, hb5⟩; have hG5 := hG0.drew.below hb5 hG0.sz; have q0 := (hb5.cell (p := ⟨B, 0, none⟩) hz).trans r0; have q1 := (hb5.cell (p := ⟨B, 1, none⟩) hz).trans r1)
      | (go_at_call_of 88 (Value.int IntKind.i64 d); refine (HD.out _ hG5).mono ?_; rintro e w6 ⟨rfl, hb6⟩; have s0 := (hb6.cell (p := ⟨B, 0, none⟩) (Nat.lt_of_lt_of_le hz hb5.size)).trans q0; have s1 := (hb6.cell (p := ⟨B, 1, none⟩) (Nat.lt_of_lt_of_le hz hb5.size)).trans q1))
    go_wp2_with fail
    go_ret
    refine ⟨by simp [ByteArray.mk_append_mk], ?_⟩
    rw [hB]
    exact (hb0.drew.trans (hb5.mono (Nat.le_of_lt hz))).trans (hb6.mono (Nat.le_trans (Nat.le_of_lt hz) hb5.size))

set_option maxRecDepth 100000 in
set_option maxHeartbeats 1000000 in
theorem pointText_any (q : Ge.Qt) (w : World) (hG : Gl w) (hq : QIn q) :
    Calls Tryz.prog 74 #[.agg (qA q)] w fun e w' => e = .returned (.string ⟨(Pl.qtxt q).toArray⟩) ∧ Below w.heap.size w w' := by
  obtain ⟨⟨a, b⟩, c, d⟩ := q
  have HN : Hid (∀ w1, Gl w1 → Calls Tryz.prog 127 #[.agg #[.int .i64 a, .int .i64 b]] w1 fun e w' => e = .returned (.string ⟨(Pl.ftxt (a, b)).toArray⟩) ∧ Below w1.heap.size w1 w') := fun w1 g1 => fracText_any a b w1 g1 hq.xn hq.xd
  have HD : Hid (∀ w1, Gl w1 → Calls Tryz.prog 127 #[.agg #[.int .i64 c, .int .i64 d]] w1 fun e w' => e = .returned (.string ⟨(Pl.ftxt (c, d)).toArray⟩) ∧ Below w1.heap.size w1 w') := fun w1 g1 => fracText_any c d w1 g1 hq.yn hq.yd
  have h1 := ftxt_len (a := (a, b)) hq.xn hq.xd
  have h2 := ftxt_len (a := (c, d)) hq.yn hq.yd
  have HV : Hid (Pl.qtxt ((a, b), (c, d)) = Pl.ftxt (a, b) ++ ([32] ++ Pl.ftxt (c, d))) := rfl
  rw [HV.out]
  generalize Pl.ftxt (a, b) = X1 at *
  generalize Pl.ftxt (c, d) = X2 at *
  simp only [qA]
  have hs1 : ¬9223372036854775807 < X1.length + 1 := by omega
  have hs2 : ¬9223372036854775807 < X1.length + 1 + X2.length := by omega
  have hb0 : Below w.heap.size w (w.alloc (.cells #[.int .i64 a, .int .i64 b, .int .i64 c, .int .i64 d] 100)) := (Below.refl _ _).alloc (Nat.le_refl _) _
  have hE := heap_alloc_new w (.cells #[.int .i64 a, .int .i64 b, .int .i64 c, .int .i64 d] 100)
  have hz : w.heap.size < (w.alloc (.cells #[.int .i64 a, .int .i64 b, .int .i64 c, .int .i64 d] 100)).heap.size := by simp
  have hG0 : Gl (w.alloc (.cells #[.int .i64 a, .int .i64 b, .int .i64 c, .int .i64 d] 100)) := hG.alloc _
  clear HV hq
  go_enter Tryz.func74, Tryz.ntmps74
  go_wp2_with fail
  generalize w.alloc (.cells #[.int .i64 a, .int .i64 b, .int .i64 c, .int .i64 d] 100) = W at *
  generalize hB : w.heap.size = B at *
  have r0 : W.cell? ⟨B, 0, none⟩ = some (.int .i64 a) := cell_of hE 0
  have r1 : W.cell? ⟨B, 1, none⟩ = some (.int .i64 b) := cell_of hE 1
  have r2 : W.cell? ⟨B, 2, none⟩ = some (.int .i64 c) := cell_of hE 2
  have r3 : W.cell? ⟨B, 3, none⟩ = some (.int .i64 d) := cell_of hE 3
  go_region_held3 (fun w' => w'.cell? ⟨B, 0, none⟩ = some (.int .i64 a) ∧ w'.cell? ⟨B, 1, none⟩ = some (.int .i64 b) ∧ w'.cell? ⟨B, 2, none⟩ = some (.int .i64 c) ∧ w'.cell? ⟨B, 3, none⟩ = some (.int .i64 d)) (go_keep) (first
      | (go_at_call_of 127 (Value.agg #[Value.int IntKind.i64 a, Value.int IntKind.i64 b]); refine (HN.out _ hG0.drew).mono ?_; rintro e w5 ⟨rfl, hb5⟩; have hG5 := hG0.drew.below hb5 hG0.sz; have q0 := (hb5.cell (p := ⟨B, 0, none⟩) hz).trans r0; have q1 := (hb5.cell (p := ⟨B, 1, none⟩) hz).trans r1; have q2 := (hb5.cell (p := ⟨B, 2, none⟩) hz).trans r2; have q3 := (hb5.cell (p := ⟨B, 3, none⟩) hz).trans r3)
      | (go_at_call_of 127 (Value.agg #[Value.int IntKind.i64 c, Value.int IntKind.i64 d]); refine (HD.out _ hG5).mono ?_; rintro e w6 ⟨rfl, hb6⟩; have s0 := (hb6.cell (p := ⟨B, 0, none⟩) (Nat.lt_of_lt_of_le hz hb5.size)).trans q0; have s1 := (hb6.cell (p := ⟨B, 1, none⟩) (Nat.lt_of_lt_of_le hz hb5.size)).trans q1; have s2 := (hb6.cell (p := ⟨B, 2, none⟩) (Nat.lt_of_lt_of_le hz hb5.size)).trans q2; have s3 := (hb6.cell (p := ⟨B, 3, none⟩) (Nat.lt_of_lt_of_le hz hb5.size)).trans q3))
  go_wp2_with fail
  go_ret
  refine ⟨by simp [ByteArray.mk_append_mk], ?_⟩
  rw [hB]
  exact (hb0.drew.trans (hb5.mono (Nat.le_of_lt hz))).trans (hb6.mono (Nat.le_trans (Nat.le_of_lt hz) hb5.size))

end Go.Proofs.YtkjhhooecopolaaGreatDoor
