import Derived.Test.YtkjhhooecopolaaGreatDoorKj05
import Derived.OrdersHeld
import Derived.RegionTactic
namespace Go.Proofs.YtkjhhooecopolaaGreatDoor
open Go.RowKit

set_option maxRecDepth 100000 in
set_option maxHeartbeats 400000 in
theorem take_yes (hO : GoOnSaid) (rb : Nat) (s q : ByteArray) (A r : List Pl.Tk) (t : Pl.Tk) (rg : List (List (Int × Int))) (w : World) (cx : Cx rb s A) (hR : RD rb s A (t :: r) rg w) (hG : Gl w)
    (hk : t.k = 119 ∨ t.k = 110 ∨ t.k = 40 ∨ t.k = 41 ∨ t.k = 44) (hq : (⟨(Pl.praw t).toArray⟩ : ByteArray) = q) :
    Calls Tryz.prog 94 #[.pointer (some ⟨rb, 0, none⟩), .string q] w fun e w' => e = .returned (.bool true) ∧ RD rb s A r rg w' ∧ Below rb w w' := by
  obtain ⟨t', r', hl, c0, c1, c2, c3, c4⟩ := hR.cells
  injection hl with h1 h2
  subst h1 h2
  rw [hq] at c2
  clear hq
  have HO : Hid (Calls Tryz.prog 148 #[.pointer (some ⟨rb, 0, none⟩)] w fun e w' => e = .returned (.tuple #[]) ∧ RD rb s A r rg w' ∧ Below rb w w' ∧ Kp rb w w') := hO rb s A r t rg w cx hR hG hk
  clear hO hR hk
  go_enter Tryz.func94, Tryz.ntmps94
  go_wp2_with fail
  refine HO.out.mono ?_
  rintro e w1 ⟨rfl, h1, h2, h3⟩
  go_wp2_with fail
  go_ret
  exact ⟨rfl, h1, h2⟩

set_option maxRecDepth 100000 in
set_option maxHeartbeats 400000 in
theorem take_no (rb : Nat) (s q : ByteArray) (A r : List Pl.Tk) (t : Pl.Tk) (rg : List (List (Int × Int))) (w : World) (hR : RD rb s A (t :: r) rg w)
    (hq : ((⟨(Pl.praw t).toArray⟩ : ByteArray).toList == q.toList) = false) :
    Calls Tryz.prog 94 #[.pointer (some ⟨rb, 0, none⟩), .string q] w fun e w' => e = .returned (.bool false) ∧ w' = w := by
  obtain ⟨t', r', hl, c0, c1, c2, c3, c4⟩ := hR.cells
  injection hl with h1 h2
  subst h1 h2
  generalize (⟨(Pl.praw t).toArray⟩ : ByteArray) = a at *
  clear hR
  go_enter Tryz.func94, Tryz.ntmps94
  go_wp2_with fail
  go_ret
  exact ⟨rfl, rfl⟩

theorem RD.suffix {rb : Nat} {s : ByteArray} {A l : List Pl.Tk} {rg : List (List (Int × Int))} {w : World} (h : RD rb s A l rg w) : ∃ c t r, c ++ l = A ∧ l = t :: r := by
  obtain ⟨c, t, r, tv, rv, hc, hl, _⟩ := h
  exact ⟨c, t, r, hc, hl⟩

theorem RD.form {rb : Nat} {s : ByteArray} {A r : List Pl.Tk} {t : Pl.Tk} {rg : List (List (Int × Int))} {w : World} (cx : Cx rb s A) (h : RD rb s A (t :: r) rg w) : Pl.Form t := by
  obtain ⟨c, _, _, hc, _⟩ := h.suffix
  exact Pl.place_form (cx.pl t (by rw [← hc]; simp))

/-- Go past a sign, if it stands there. -/
theorem take_sign (hO : GoOnSaid) (c : UInt8) (hc : c.toNat = 40 ∨ c.toNat = 41 ∨ c.toNat = 44) (rb : Nat) (s : ByteArray) (A l : List Pl.Tk) (rg : List (List (Int × Int))) (w : World) (cx : Cx rb s A) (hR : RD rb s A l rg w) (hG : Gl w) :
    Calls Tryz.prog 94 #[.pointer (some ⟨rb, 0, none⟩), .string ⟨#[c]⟩] w fun e w' => e = .returned (.bool (Pl.mk c.toNat l).1) ∧ RD rb s A (Pl.mk c.toNat l).2 rg w' ∧ Below rb w w' := by
  obtain ⟨_, t, r, _, rfl⟩ := hR.suffix
  have hf := hR.form cx
  by_cases hk : t.k = c.toNat
  · have e : Pl.mk c.toNat (t :: r) = (true, r) := by simp [Pl.mk, hk]
    rw [e]
    exact take_yes hO rb s ⟨#[c]⟩ A r t rg w cx hR hG (by omega) (by rw [(Pl.sign_iff hf c hc).2 hk])
  · have e : Pl.mk c.toNat (t :: r) = (false, t :: r) := by simp [Pl.mk, hk]
    rw [e]
    refine (take_no rb s ⟨#[c]⟩ A r t rg w hR ?_).mono ?_
    · rw [ByteArray.toList_eq, ByteArray.toList_eq, beq_eq_false_iff_ne]
      intro h
      exact hk ((Pl.sign_iff hf c hc).1 (by simpa using h))
    · rintro e w' ⟨rfl, rfl⟩
      exact ⟨rfl, hR, Below.refl _ _⟩

theorem take_word (hO : GoOnSaid) (q : List UInt8) (a : UInt8) (b : List UInt8) (hq : q = a :: b) (ha : Pl.isLet a = true) (rb : Nat) (s : ByteArray) (A l : List Pl.Tk) (rg : List (List (Int × Int))) (w : World) (cx : Cx rb s A) (hR : RD rb s A l rg w) (hG : Gl w) :
    Calls Tryz.prog 94 #[.pointer (some ⟨rb, 0, none⟩), .string ⟨q.toArray⟩] w fun e w' => e = .returned (.bool (Pl.wd q l).1) ∧ RD rb s A (Pl.wd q l).2 rg w' ∧ Below rb w w' := by
  obtain ⟨_, t, r, _, rfl⟩ := hR.suffix
  have hf := hR.form cx
  by_cases hk : t.k = 119 ∧ t.raw = q
  · have e : Pl.wd q (t :: r) = (true, r) := by simp [Pl.wd, hk]
    rw [e]
    exact take_yes hO rb s ⟨q.toArray⟩ A r t rg w cx hR hG (by omega) (by rw [(Pl.word_iff hf q a b hq ha).2 hk])
  · have e : Pl.wd q (t :: r) = (false, t :: r) := by simp only [Pl.wd]; rw [if_neg hk]
    rw [e]
    refine (take_no rb s ⟨q.toArray⟩ A r t rg w hR ?_).mono ?_
    · rw [ByteArray.toList_eq, ByteArray.toList_eq, beq_eq_false_iff_ne]
      intro h
      exact hk ((Pl.word_iff hf q a b hq ha).1 (by simpa using h))
    · rintro e w' ⟨rfl, rfl⟩
      exact ⟨rfl, hR, Below.refl _ _⟩

set_option maxRecDepth 100000 in
set_option maxHeartbeats 400000 in
theorem takeNumber_yes (hO : GoOnSaid) (rb : Nat) (s : ByteArray) (A r : List Pl.Tk) (t : Pl.Tk) (rg : List (List (Int × Int))) (w : World) (cx : Cx rb s A) (hR : RD rb s A (t :: r) rg w) (hG : Gl w) (hk : t.k = 110) :
    Calls Tryz.prog 238 #[.pointer (some ⟨rb, 0, none⟩)] w fun e w' => e = .returned (.bool true) ∧ RD rb s A r rg w' ∧ Below rb w w' ∧ Kp rb w w' := by
  obtain ⟨t', r', hl, c0, c1, c2, c3, c4⟩ := hR.cells
  injection hl with h1 h2
  subst h1 h2
  rw [Pl.pk_num.2 hk] at c1
  have HO : Hid (Calls Tryz.prog 148 #[.pointer (some ⟨rb, 0, none⟩)] w fun e w' => e = .returned (.tuple #[]) ∧ RD rb s A r rg w' ∧ Below rb w w' ∧ Kp rb w w') := hO rb s A r t rg w cx hR hG (by omega)
  clear hO hR hk
  go_enter Tryz.func238, Tryz.ntmps238
  go_wp2_with fail
  refine HO.out.mono ?_
  rintro e w1 ⟨rfl, h1, h2, h3⟩
  go_wp2_with fail
  go_ret
  exact ⟨rfl, h1, h2, h3⟩

set_option maxRecDepth 100000 in
set_option maxHeartbeats 400000 in
theorem takeNumber_no (rb : Nat) (s : ByteArray) (A r : List Pl.Tk) (t : Pl.Tk) (rg : List (List (Int × Int))) (w : World) (hR : RD rb s A (t :: r) rg w) (hk : t.k ≠ 110) :
    Calls Tryz.prog 238 #[.pointer (some ⟨rb, 0, none⟩)] w fun e w' => e = .returned (.bool false) ∧ w' = w := by
  obtain ⟨t', r', hl, c0, c1, c2, c3, c4⟩ := hR.cells
  injection hl with h1 h2
  subst h1 h2
  have hp : (Pl.pk t != 3) = true := by
    rw [bne_iff_ne]; intro h; exact hk (Pl.pk_num.1 h)
  generalize Pl.pk t = a at *
  clear hR hk
  go_enter Tryz.func238, Tryz.ntmps238
  go_wp2_with fail
  go_ret
  exact ⟨rfl, rfl⟩

end Go.Proofs.YtkjhhooecopolaaGreatDoor

namespace Go.Proofs.YtkjhhooecopolaaGreatDoor
open Go.RowKit

theorem heap_of_own {w : World} {base : Nat} {e : TypeId} {size : Nat} {v : Value} {n : Nat} {xs : List Value} (h : w.ownsRow base e size v n xs) {k : Nat} (hk : v.ownBlock = some k) :
    ∃ cur, w.heap[k]? = some (.cells cur e (0, 0)) := by
  rcases h.2 with ⟨ha, _⟩ | ⟨g, cap, cur, hv, hg, hh, r⟩
  · rw [ha] at hk; cases hk
  · rw [hv] at hk
    have : g = k := by simpa [Value.ownBlock] using hk
    subst this
    exact ⟨cur, hh⟩

/-- The last ring gets a point. -/
theorem Rings.push {rb : Nat} {rv : Value} {rg0 : List (List (Int × Int))} {q : List (Int × Int)} {w : World} (h : Rings rb rv (rg0 ++ [q]) w) :
    ∃ gr cap qv, rv = .slice (some ⟨gr, 0, none⟩) (rg0.length + 1) cap ∧ rb < gr ∧ (∃ cur, w.heap[gr]? = some (.cells cur 127 (0, 0)) ∧ cur[rg0.length]? = some qv) ∧
      w.ownsRow (rb + 1) 81 1 qv q.length (ptCells q) ∧
      ∀ (w5 : World) (g cap' : Nat) (o : Obj) (p : Int × Int), (w.alloc o).drew.grownBy w5 qv.ownBlock →
        w5.ownsRow (rb + 1) 81 1 (.slice (some ⟨g, 0, none⟩) (q.length + 1) cap') (q.length + 1) (ptCells q ++ [ptVal p]) →
        (qv.ownBlock = some g ∨ g = w.heap.size + 1) →
        Rings rb rv (rg0 ++ [q ++ [p]]) (w5.setCell ⟨gr, rg0.length, none⟩ (.slice (some ⟨g, 0, none⟩) (q.length + 1) cap')) := by
  obtain ⟨vs, h1, h2, h3, h4⟩ := h
  simp only [List.length_append, List.length_cons, List.length_nil, Nat.zero_add] at h1 h2
  obtain ⟨hl, h2'⟩ := id h2
  rcases h2' with ⟨_, h0⟩ | ⟨gr, cap, cur, hv, hg, hh, hnc, hcm, hcs, htake⟩
  · omega
  have hn : rg0.length < vs.length := by omega
  obtain ⟨qv, hqv⟩ : ∃ qv, vs[rg0.length]? = some qv := ⟨_, List.getElem?_eq_getElem hn⟩
  have hq : w.ownsRow (rb + 1) 81 1 qv q.length (ptCells q) := h3 rg0.length qv q hqv (by simp)
  have hcur : cur[rg0.length]? = some qv := by
    rw [← htake] at hqv
    rw [List.getElem?_take] at hqv
    simp only [Nat.mul_one] at hqv
    rw [if_pos (by omega)] at hqv
    simpa using hqv
  refine ⟨gr, cap, qv, hv, hg, ⟨cur, hh, hcur⟩, hq, ?_⟩
  intro w5 g cap' o p hgrow hown5 hat
  have hltg := lt_of_heap hh
  have hne : qv.ownBlock ≠ some gr := own_elem hq hh (by decide)
  have hh5 : w5.heap[gr]? = some (.cells cur 127 (0, 0)) := (grown_heap_drew hgrow gr hltg hne).trans hh
  have hggr : g ≠ gr := fun e => by
    obtain ⟨c5, hc5⟩ := heap_of_own hown5 (k := g) rfl
    rw [e, hh5] at hc5
    injection hc5 with hc5
    injection hc5 with _ hc5 _
    cases hc5
  refine ⟨vs.set rg0.length (.slice (some ⟨g, 0, none⟩) (q.length + 1) cap'), by simp [h1], ?_, ?_, ?_⟩
  · simp only [List.length_append, List.length_cons, List.length_nil, Nat.zero_add]
    refine ⟨by simpa using hl, Or.inr ⟨gr, cap, cur.setIfInBounds rg0.length (.slice (some ⟨g, 0, none⟩) (q.length + 1) cap'), hv, hg, heap_set hh5 _, hnc, hcm, by simpa using hcs, ?_⟩⟩
    rw [← htake]
    simp [List.take_set]
  · intro i v g' hi hg'
    by_cases hin : i = rg0.length
    · subst hin
      rw [List.getElem?_set_self hn] at hi
      injection hi with hi
      subst hi
      have e : g' = q ++ [p] := by simpa using hg'.symm
      subst e
      have e2 : ptCells (q ++ [p]) = ptCells q ++ [ptVal p] := by simp [ptCells]
      rw [e2]
      simp only [List.length_append, List.length_cons, List.length_nil, Nat.zero_add]
      refine own_kept hown5 fun k hk => heap_set_ne ?_ _
      have : g = k := by simpa [Value.ownBlock] using hk
      omega
    · rw [List.getElem?_set_ne (fun e => hin e.symm)] at hi
      have hilt : i < rg0.length := by
        have := (List.getElem?_eq_some_iff.1 hi).1
        omega
      have hg2 : (rg0 ++ [q])[i]? = some g' := by
        rw [List.getElem?_append_left hilt] at hg' ⊢; exact hg'
      have ho := h3 i v g' hi hg2
      refine own_kept ho fun k hk => ?_
      obtain ⟨c, hc⟩ := heap_of_own ho hk
      have hkgr : k ≠ gr := fun e => by
        rw [e, hh] at hc
        injection hc with hc
        injection hc with _ hc _
        cases hc
      rw [heap_set_ne hkgr]
      refine grown_heap_drew hgrow k (own_lt ho k hk).2 fun e => ?_
      exact hin (h4 i rg0.length v qv k hi hqv hk e)
  · intro i j v u k hi hj hv' hu'
    by_cases hin : i = rg0.length
    · by_cases hjn : j = rg0.length
      · omega
      · subst hin
        rw [List.getElem?_set_self hn] at hi
        injection hi with hi
        subst hi
        rw [List.getElem?_set_ne (fun e => hjn e.symm)] at hj
        have hgk : g = k := by simpa [Value.ownBlock] using hv'
        rcases hat with h | h
        · exact (h4 j rg0.length u qv k hj hqv hu' (by rw [h, hgk])).symm
        · have hjlt : j < rg0.length := by
            have := (List.getElem?_eq_some_iff.1 hj).1
            omega
          obtain ⟨gj, hgj⟩ : ∃ gj, (rg0 ++ [q])[j]? = some gj := ⟨_, List.getElem?_eq_getElem (by simp; omega)⟩
          have := (own_lt (h3 j u gj hj hgj) k hu').2
          omega
    · rw [List.getElem?_set_ne (fun e => hin e.symm)] at hi
      by_cases hjn : j = rg0.length
      · subst hjn
        rw [List.getElem?_set_self hn] at hj
        injection hj with hj
        subst hj
        have hgk : g = k := by simpa [Value.ownBlock] using hu'
        rcases hat with h | h
        · exact h4 i rg0.length v qv k hi hqv hv' (by rw [h, hgk])
        · have hilt : i < rg0.length := by
            have := (List.getElem?_eq_some_iff.1 hi).1
            omega
          obtain ⟨gi, hgi⟩ : ∃ gi, (rg0 ++ [q])[i]? = some gi := ⟨_, List.getElem?_eq_getElem (by simp; omega)⟩
          have := (own_lt (h3 i v gi hi hgi) k hv').2
          omega
      · rw [List.getElem?_set_ne (fun e => hjn e.symm)] at hj
        exact h4 i j v u k hi hj hv' hu'

end Go.Proofs.YtkjhhooecopolaaGreatDoor

namespace Go.Proofs.YtkjhhooecopolaaGreatDoor

section
variable {P : Program} {ops : Array Oper} {Q : Exit → Act → World → Prop} {md : Region.Mode} {S : World → Prop} {n : Nat}

/-- In whatever order; S is owed behind each operation but number n. -/
def Till (P : Program) (md : Region.Mode) (ops : Array Oper) (Q : Exit → Act → World → Prop) (S : World → Prop) (n : Nat) : Nat → Array Bool → Act → World → Prop
  | 0, l, a, w => Region.ready md ops l = [] ∧ Q .normal a w
  | f + 1, l, a, w => (Region.ready md ops l = [] → Q .normal a w) ∧
      ∀ i ∈ Region.ready md ops l, wpOp P ops Q i (fun a' w' => (i ≠ n → S w') ∧ Till P md ops Q S n f (l.setIfInBounds i true) a' w') a w

theorem Till.any : ∀ (f : Nat) (l : Array Bool) (a : Act) (w : World), Till P md ops Q S n f l a w → wpAny P md ops Q f l a w
  | 0, _, _, _, h => h
  | f + 1, _, _, _, h => ⟨h.1, fun i hi => wpOp_mono (fun a' w' h' => Till.any f _ a' w' h'.2) (h.2 i hi)⟩

theorem Till.start {id : Nat} {a : Act} {w : World} (hm : P.follows .mixedOrders = true)
    (h : Till P .any ops Q S n ops.size (Array.replicate ops.size false) a w.drew) : (Code.region id ops true).wp P Q a w :=
  wp_region_any hm (Till.any _ _ _ _ h)

theorem Till.done {l : Array Bool} {a : Act} {w : World} (hr : Region.ready md ops l = []) (h : Q .normal a w) (f : Nat) : Till P md ops Q S n f l a w := by
  cases f with
  | zero => exact ⟨hr, h⟩
  | succ f => exact ⟨fun _ => h, by rw [hr]; simp⟩

/-- One operation alone may come up. -/
theorem Till.one {i f : Nat} {o : Oper} {l : Array Bool} {a : Act} {w : World} (ho : ops[i]? = some o) (hr : Region.ready md ops l = [i])
    (h : ∀ K : Act → World → Prop, (∀ a' w', (i ≠ n → S w') → Till P md ops Q S n f (l.setIfInBounds i true) a' w' → K a' w') → if Region.wanted o (yielded ops a.tmps) = true then Oper.wp P o a w K Q else K (a.put o.dst undef) w) :
    Till P md ops Q S n (f + 1) l a w := by
  refine ⟨fun h0 => ?_, fun j hj => ?_⟩
  · rw [hr] at h0; cases h0
  · rw [hr, List.mem_singleton] at hj
    subst hj
    exact wpOp_step ho (fun K hK => h K (fun a' w' h1 h2 => hK a' w' ⟨h1, h2⟩))

theorem Till.first {i : Nat} {oi : Oper} {v : Value} (hi : ops[i]? = some oi) (hsel : ∀ (j : Nat) (o : Oper) cs b, ops[j]? = some o → o.op ≠ .select cs b)
    (hQ : ∀ c a w, Q (.panic c) (a.put oi.dst v) w → Q (.panic c) a w)
    (hin : i ≠ n) (hn : ∀ o, ops[n]? = some o → ∃ e ∈ o.after, Region.binds md e = true ∧ e.on = i) :
    ∀ (f : Nat) (l : Array Bool) (a : Act) (w : World),
      (∀ j oj, ops[j]? = some oj → j ≠ i → l.getD j true = false → (∀ e ∈ oj.after, Region.binds md e = true → e.on ≠ i) → oi.apart ops oj = true) →
      i ∈ Region.ready md ops l → YieldsIf P ops S oi v a → S w →
      Till P md ops Q S n f (l.setIfInBounds i true) (a.put oi.dst v) w → Till P md ops Q S n (f + 1) l a w
  | 0, l, a, w, _, hr, hy, hS, H => by
    refine ⟨fun h => (by rw [h] at hr; cases hr), fun j hj => ?_⟩
    rcases Nat.decEq j i with hne | rfl
    · have := ready_mono hj hne
      rw [H.1] at this
      cases this
    · exact hy.wpOp hi hS ⟨fun _ => hS, H⟩
  | f + 1, l, a, w, hfree, hr, hy, hS, H => by
    refine ⟨fun h => (by rw [h] at hr; cases hr), fun j hj => ?_⟩
    rcases Nat.decEq j i with hne | rfl
    · obtain ⟨hjun, oj, hoj, hall⟩ := mem_ready.1 hj
      have hir : i ∈ Region.ready md ops (l.setIfInBounds j true) := ready_mono hr (Ne.symm hne)
      have hwait : ∀ e ∈ oj.after, Region.binds md e = true → e.on ≠ i := fun e he hb heq => by
        have h1 := hall e he hb
        rw [heq] at h1
        have h0 := (mem_ready.1 hr).1
        rcases Nat.lt_or_ge i l.size with q | q
        · simp [q] at h0 h1; rw [h0] at h1; cases h1
        · simp [Array.getElem?_eq_none q] at h1
      have hjn : j ≠ n := fun e => by
        subst e
        obtain ⟨e, he, hb, hon⟩ := hn oj hoj
        exact hwait e he hb hon
      refine wpOp_mono (fun a' w' h3 => ?_) (wpOp_putIf hoj (hfree j oj hoj hne hjun hwait) (fun cs b => hsel i oi cs b hi) (fun cs b => hsel j oj cs b hoj) hQ hy (H.2 j (ready_mono hj hne)))
      obtain ⟨hy', h4, h5⟩ := h3
      have hS' : S w' := h4 hjn
      refine ⟨fun _ => hS', Till.first hi hsel hQ hin hn f (l.setIfInBounds j true) a' w' ?_ hir hy' hS' ?_⟩
      · intro k ok hk hki hun hno
        refine hfree k ok hk hki ?_ hno
        rcases Nat.decEq j k with hjk | rfl
        · rw [getD_set_ne true hjk] at hun; exact hun
        · exact hjun
      · rw [Array.setIfInBounds_comm _ _ hne]; exact h5
    · exact hy.wpOp hi hS ⟨fun _ => hS, H⟩

/-- Does operation n wait for operation i? -/
def waits (md : Region.Mode) (ops : Array Oper) (n i : Nat) : Bool :=
  match ops[n]? with
  | some o => (n != i) && o.after.any fun e => Region.binds md e && e.on == i
  | none => false

theorem Till.take {i : Nat} {oi : Oper} {v : Value} {f : Nat} {l : Array Bool} {a : Act} {w : World} (hi : ops[i]? = some oi)
    (hs : Region.noSelect ops = true) (hf : Region.free md ops l i = true) (hr : (Region.ready md ops l).contains i = true) (hw : waits md ops n i = true)
    (hQ : ∀ c a w, Q (.panic c) (a.put oi.dst v) w → Q (.panic c) a w) (hy : YieldsIf P ops S oi v a) (hS : S w)
    (h : Till P md ops Q S n f (l.setIfInBounds i true) (a.put oi.dst v) w) : Till P md ops Q S n (f + 1) l a w := by
  unfold waits at hw
  split at hw
  · rename_i o ho
    simp only [Bool.and_eq_true, bne_iff_ne, ne_eq, Array.any_eq_true', beq_iff_eq] at hw
    obtain ⟨h1, e, he, h2, h3⟩ := hw
    refine Till.first hi (Region.noSelect_spec hs) hQ (fun q => h1 q.symm) (fun o' ho' => ?_) f l a w (Region.free_spec hi hf) (by simpa using hr) hy hS h
    rw [ho] at ho'
    injection ho' with ho'
    subst ho'
    exact ⟨e, he, h2, h3⟩
  · cases hw

end
end Go.Proofs.YtkjhhooecopolaaGreatDoor
