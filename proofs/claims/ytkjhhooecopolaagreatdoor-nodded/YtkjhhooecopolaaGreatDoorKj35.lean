import Derived.Test.YtkjhhooecopolaaGreatDoorKj34
namespace Go.Proofs.YtkjhhooecopolaaGreatDoor
open Go.RowKit

def ndCells (n : Ge.Nd) : List Value := [.complex .f64 (floatOfInt .f64 n.1) (floatOfInt .f64 n.2.1), .int .i64 n.2.2]
def ndRow (l : List Ge.Nd) : List Value := l.flatMap ndCells
/-- A slice of nodes. -/
def RdN (w : World) (v : Value) (l : List Ge.Nd) : Prop := w.ownsRow 0 83 2 v l.length (ndRow l)

theorem ndRow_get : ∀ (l : List Ge.Nd) (k : Nat) (e : Ge.Nd), l[k]? = some e → ∀ j, j < 2 → (ndRow l)[k * 2 + j]? = (ndCells e)[j]?
  | [], _, _, h, _, _ => by simp at h
  | q :: r, 0, e, h, j, hj => by
    simp at h
    subst h
    have e1 : ndRow (q :: r) = ndCells q ++ ndRow r := by simp [ndRow]
    rw [e1, List.getElem?_append_left (by simp [ndCells]; omega)]
    simp
  | q :: r, k + 1, e, h, j, hj => by
    have ih := ndRow_get r k e (by simpa using h) j hj
    have e1 : ndRow (q :: r) = ndCells q ++ ndRow r := by simp [ndRow]
    rw [e1, List.getElem?_append_right (by simp [ndCells]; omega)]
    have e2 : (k + 1) * 2 + j - (ndCells q).length = k * 2 + j := by simp [ndCells]; omega
    rw [e2, ih]
theorem ndRow_snoc (l : List Ge.Nd) (e : Ge.Nd) : ndRow (l ++ [e]) = ndRow l ++ ndCells e := by simp [ndRow]
theorem rdN_slice {w : World} {v : Value} {l : List Ge.Nd} (h : RdN w v l) : ∃ so cap, v = .slice so l.length cap := by
  rcases h.2 with ⟨hv, h0⟩ | ⟨b, cap, cur, hv, _⟩
  · exact ⟨none, 0, by rw [hv, h0]⟩
  · exact ⟨_, cap, hv⟩
theorem rdN_get {w : World} {so : Option Addr} {n cap : Nat} {l : List Ge.Nd} (h : RdN w (.slice so n cap) l) {k : Nat} {e : Ge.Nd} (he : l[k]? = some e) :
    ∃ b, so = some ⟨b, 0, none⟩ ∧ b < w.heap.size ∧ w.cell? ⟨b, k * 2, none⟩ = some (.complex .f64 (floatOfInt .f64 e.1) (floatOfInt .f64 e.2.1)) ∧ w.cell? ⟨b, k * 2 + 1, none⟩ = some (.int .i64 e.2.2) := by
  have g := ndRow_get l k e he
  obtain ⟨b, c, hv, hb, hc⟩ := own_get' h (g 0 (by omega))
  injection hv with hv
  exact ⟨b, hv, hb, hc _ _ (g 0 (by omega)), hc _ _ (g 1 (by omega))⟩

theorem lib_join (f : Ge.Qt → List UInt8) : ∀ l : List Ge.Qt, Lib.join (l.map f) [44, 32] = Pl.joinT f l
  | [] => rfl
  | [x] => by simp [Lib.join_one, Pl.joinT]
  | x :: y :: r => by
    have ih := lib_join f (y :: r)
    simp only [Pl.joinT, ← ih]
    simp [Lib.join, List.intercalate]

theorem strInfo : (Tryz.prog.info? 9).map (fun i => (i.zero, i.size, i.bytes)) = some (some (.string ⟨#[]⟩), 1, 16) := by kernel_rfl

def txts (l : List Ge.Nd) : List ByteArray := l.map fun n => ⟨(Pl.qtxt (Ge.ndQ n)).toArray⟩
theorem txts_data (l : List Ge.Nd) : (txts l).map (·.data.toList) = (l.map Ge.ndQ).map Pl.qtxt := by simp [txts]

def SI (w : World) (lv : Value) (xs : List ByteArray) (wr : World) : Prop := wr.ownsRow w.heap.size 9 1 lv xs.length (xs.map Value.string) ∧ Below w.heap.size w wr

theorem join_si {w wr : World} {lv : Value} {xs : List ByteArray} (sep : ByteArray) (h : SI w lv xs wr) (hl : xs.length ≤ 1000000) (hlen : (Lib.join (xs.map (·.data.toList)) sep.data.toList).length ≤ 140737488355328) :
    Calls Tryz.prog 103 #[lv, .string sep] wr fun e w' => e = .returned (.string ⟨(Lib.join (xs.map (·.data.toList)) sep.data.toList).toArray⟩) ∧ Below wr.heap.size wr w' := by
  rcases h.1.2 with ⟨hv, h0⟩ | ⟨g, cap, cur, hv, _, hb, hc, _, _, ht⟩
  · have hx : xs = [] := List.length_eq_zero_iff.1 h0
    subst hx
    rw [hv]
    exact (Tryz.strings_Join_none none 0 sep wr).mono fun e w' ⟨he, hw⟩ => ⟨he, hw ▸ Below.refl _ _⟩
  · rw [hv]
    have hlt : g < wr.heap.size := by
      rcases Nat.lt_or_ge g wr.heap.size with h1 | h1
      · exact h1
      · rw [Array.getElem?_eq_none h1] at hb; cases hb
    refine Tryz.strings_Join g 0 cap xs sep wr (fun j x hj => ?_) hlt (by omega) hc hlen
    have hm : (xs.map Value.string)[j]? = some (.string x) := by simp [hj]
    rw [Nat.zero_add, cell_of' hb j, ← Array.getElem?_toList]
    rw [← ht, List.getElem?_take] at hm
    split at hm
    · exact hm
    · cases hm

theorem qtxt_len2 {n : Ge.Nd} (h : NodeIn n.1 n.2.1 n.2.2) : (Pl.qtxt (Ge.ndQ n)).length ≤ 101 := by
  have hx := h.x
  have hy := h.y
  have h1 := ftxt_len2 (x := n.1) (d := n.2.2) (by omega) h.d
  have h2 := ftxt_len2 (x := n.2.1) (d := n.2.2) (by omega) h.d
  show (Pl.ftxt (Ge.fr2 n.1 n.2.2) ++ ([32] ++ Pl.ftxt (Ge.fr2 n.2.1 n.2.2))).length ≤ 101
  simp
  omega

set_option maxRecDepth 100000 in
set_option maxHeartbeats 2000000 in
theorem writeNodes_any (l : List Ge.Nd) (v : Value) (w : World) (hR : RdN w v l) (hG : Gl w) (hn : ∀ n ∈ l, NodeIn n.1 n.2.1 n.2.2) (hl : l.length ≤ 200000) :
    Calls Tryz.prog 71 #[v] w fun e w' => e = .returned (.string ⟨(Pl.joinT Pl.qtxt (l.map Ge.ndQ)).toArray⟩) ∧ Below w.heap.size w w' := by
  obtain ⟨so, cap, rfl⟩ := rdN_slice hR
  obtain ⟨i0, hi, hz0, hz1, hz2⟩ := info_parts strInfo
  have HR : Hid (RdN w (.slice so l.length cap) l) := hR
  have HN : Hid (∀ n ∈ l, ∀ w1, Gl w1 → Calls Tryz.prog 122 #[.agg #[.complex .f64 (floatOfInt .f64 n.1) (floatOfInt .f64 n.2.1), .int .i64 n.2.2]] w1 fun e w' => e = .returned (.string ⟨(Pl.qtxt (Ge.ndQ n)).toArray⟩) ∧ Below w1.heap.size w1 w') := fun n h w1 g1 => nwritten_any n (hn n h) w1 g1
  have HJ : Hid (∀ lv wr, SI w lv (txts l) wr → Calls Tryz.prog 103 #[lv, .string ⟨#[44, 32]⟩] wr fun e w' => e = .returned (.string ⟨(Pl.joinT Pl.qtxt (l.map Ge.ndQ)).toArray⟩) ∧ Below wr.heap.size wr w') := fun lv wr h => by
    have e : Lib.join ((txts l).map (·.data.toList)) (⟨#[44, 32]⟩ : ByteArray).data.toList = Pl.joinT Pl.qtxt (l.map Ge.ndQ) := by
      rw [txts_data]; exact lib_join Pl.qtxt _
    have hlen := Pl.joinT_len Pl.qtxt 101 (l.map Ge.ndQ) (fun q hq => by
      obtain ⟨n, hm, rfl⟩ := List.mem_map.1 hq
      exact qtxt_len2 (hn n hm))
    rw [List.length_map] at hlen
    have := join_si ⟨#[44, 32]⟩ h (by simp [txts]; omega) (by rw [e]; omega)
    rw [e] at this
    exact this
  clear hR
  generalize Pl.joinT Pl.qtxt (l.map Ge.ndQ) = RT at *
  go_enter Tryz.func71, Tryz.ntmps71
  go_wp2_with fail
  have HIN : Hid (SI w (.slice none 0 0) [] w) := ⟨World.ownsRow_nil _ _ _ _, Below.refl _ _⟩
  go_loopg [3, 8] l.length (fun m lv iv wr => ∃ i : Nat, i + m = l.length ∧ iv = .int .i64 i ∧ Hid (SI w lv (txts (l.take i)) wr))
  case atStart => exact ⟨0, by omega, rfl, HIN⟩
  case round =>
    obtain ⟨i, him, rfl, HE⟩ := hrel
    have hbel := HE.out.2
    clear HIN
    by_cases hlt : i < l.length
    · obtain ⟨n, hg⟩ : ∃ g, l[i]? = some g := ⟨_, List.getElem?_eq_getElem hlt⟩
      obtain ⟨b, rfl, hb, c0, c1⟩ := rdN_get HR.out hg
      have r0 := (hbel.cell (p := ⟨b, i * 2, none⟩) hb).trans c0
      have r1 := (hbel.cell (p := ⟨b, i * 2 + 1, none⟩) hb).trans c1
      have HT : Hid (txts (l.take (i + 1)) = txts (l.take i) ++ [⟨(Pl.qtxt (Ge.ndQ n)).toArray⟩]) := by
        have e := List.take_append_getElem hlt
        have hn' : l[i] = n := by
          have := List.getElem?_eq_getElem hlt
          rw [hg] at this
          injection this with this
          exact this.symm
        rw [← e, hn']
        show txts (l.take i ++ [n]) = _
        simp [txts]
      have HW := HN.out n (List.mem_of_getElem? hg)
      have hxl : (txts (l.take i)).length ≤ 200000 := by simp [txts]; omega
      have hki : (i : Int) < (l.length : Int) := by omega
      have hbr : b < wr.heap.size := Nat.lt_of_lt_of_le hb hbel.size
      have hGr : Gl wr := hG.below hbel hG.sz
      have HW2 : Hid (∀ w1, Gl w1 → Calls Tryz.prog 122 #[.agg #[.complex .f64 (floatOfInt .f64 n.1) (floatOfInt .f64 n.2.1), .int .i64 n.2.2]] w1 fun e w' => e = .returned (.string ⟨(Pl.qtxt (Ge.ndQ n)).toArray⟩) ∧ Below w1.heap.size w1 w') := HW
      generalize Pl.qtxt (Ge.ndQ n) = X at *
      generalize floatOfInt .f64 n.1 = N1 at *
      generalize floatOfInt .f64 n.2.1 = N2 at *
      generalize txts (l.take i) = A1 at *
      clear hg c0 c1 HN HR HW
      go_wp2_with (simp only [st_complex]; go_simp)
      refine (HW2.out _ (hGr.alloc _)).mono ?_
      rintro e w5 ⟨rfl, hb5⟩
      obtain ⟨hx2, _⟩ := HE.out
      have hbel4 := hbel.alloc hbel.size (.cells #[.complex .f64 N1 N2, .int .i64 n.2.2] 83)
      have hbel5 := hbel4.trans (hb5.mono hbel4.size)
      have ho5 : w5.ownsRow w.heap.size 9 1 u3 A1.length (A1.map Value.string) := own_kept hx2 fun k hk => (hb5.block k (by have := (own_lt hx2 k hk).2; simp; omega)).trans (Below.heap_alloc _ _ _ (own_lt hx2 k hk).2)
      have hs5 := hbel5.size
      clear hx2 HE
      go_wp2_with (at_builtin; refine wpList_append_lies _ rfl (.tmp 12) (.tmp 15) 164 rfl w.heap.size 9 i0 _ 1 16 Tryz.underlying164 hi hz0 hz1 hz2 rfl (by decide) u3 A1.length (A1.map Value.string) rfl (own_kept ho5 (fun k hk => Below.heap_alloc _ _ _ (own_lt ho5 k hk).2)) ⟨w5.heap.size, 0, none⟩ 1 1 [.string ⟨X.toArray⟩] rfl rfl (World.news_of_block (cs := #[.string ⟨X.toArray⟩]) (t := 9) (fr := (0, 0)) (heap_alloc_new w5 _)) (by simp [Value.oneCell']) (by decide) (by unfold maxLen; omega) (by omega) (by simp; omega) (w5.heap.size + 1) (by simp) ?_; intro g' cap' w6 ho6 hgrow6 hat6 hlt6)
      have HN : Hid (SI w (.slice (some ⟨g', 0, none⟩) (A1.length + 1) cap') (txts (l.take (i + 1))) w6) := by
        rw [HT.out]
        refine ⟨?_, (hbel5.alloc hbel5.size _).grown hgrow6 (by simp; omega) (fun k hk => (own_lt ho5 k hk).1)⟩
        rw [List.length_append, List.map_append]
        exact ho6
      clear ho6 hgrow6 ho5 HW2 HT
      go_roundg (gk - 1)
      case measure => omega
      case rel => exact ⟨i + 1, by omega, by go_num, HN⟩
    · have hk : i = l.length := by omega
      subst hk
      have HF := HE.out
      rw [List.take_length] at HF
      clear HE HR HN
      go_wp2_with fail
      refine (HJ.out _ _ HF).mono ?_
      rintro e w5 ⟨rfl, hb5⟩
      go_wp2_with fail
      go_ret
      exact ⟨rfl, HF.2.trans (hb5.mono HF.2.size)⟩

end Go.Proofs.YtkjhhooecopolaaGreatDoor

namespace Go.Proofs.YtkjhhooecopolaaGreatDoor.Ge

/-- Two edges give a node. -/
def met (e f : Pt × Pt) (q : Qt) : Prop := crE e f ≠ 0 ∧ q = meetP e f ∧ hq (meetP e f) e = true ∧ hq (meetP e f) f = true
theorem met_swap {e f : Pt × Pt} {q : Qt} (h : met e f q) : met f e q := by
  obtain ⟨a, b, c, d⟩ := h
  have a' : crE f e ≠ 0 := by rw [crE_swap]; omega
  have m := meet_swap a
  exact ⟨a', by rw [m]; exact b, by rw [m]; exact d, by rw [m]; exact c⟩
theorem crE_self (e : Pt × Pt) : crE e e = 0 := by unfold crE; grind
theorem isNode_snoc (l : List (Pt × Pt)) (e : Pt × Pt) (q : Qt) : isNode (l ++ [e]) q ↔ isNode l q ∨ q = pt e.1 ∨ q = pt e.2 ∨ ∃ f ∈ l, met e f q := by
  unfold isNode
  constructor
  · rintro (⟨g, hg, h⟩ | ⟨g, hg, f, hf, h⟩)
    · rcases List.mem_append.1 hg with hg | hg
      · exact Or.inl (Or.inl ⟨g, hg, h⟩)
      · rw [List.mem_singleton] at hg
        subst hg
        rcases h with h | h
        · exact Or.inr (Or.inl h)
        · exact Or.inr (Or.inr (Or.inl h))
    · rcases List.mem_append.1 hg with hg | hg
      · rcases List.mem_append.1 hf with hf | hf
        · exact Or.inl (Or.inr ⟨g, hg, f, hf, h⟩)
        · rw [List.mem_singleton] at hf
          rw [hf] at h
          exact Or.inr (Or.inr (Or.inr ⟨g, hg, met_swap h⟩))
      · rw [List.mem_singleton] at hg
        rw [hg] at h
        rcases List.mem_append.1 hf with hf | hf
        · exact Or.inr (Or.inr (Or.inr ⟨f, hf, h⟩))
        · rw [List.mem_singleton] at hf
          rw [hf] at h
          exact absurd (crE_self e) h.1
  · have m1 : ∀ {x}, x ∈ l → x ∈ l ++ [e] := fun h => List.mem_append_left _ h
    have m2 : e ∈ l ++ [e] := by simp
    rintro ((⟨g, hg, h⟩ | ⟨g, hg, f, hf, h⟩) | h | h | ⟨f, hf, h⟩)
    · exact Or.inl ⟨g, m1 hg, h⟩
    · exact Or.inr ⟨g, m1 hg, f, m1 hf, h⟩
    · exact Or.inl ⟨e, m2, Or.inl h⟩
    · exact Or.inl ⟨e, m2, Or.inr h⟩
    · exact Or.inr ⟨e, m2, f, m1 hf, h⟩

/-- Of neighbours that are the same the last one stays. -/
def cpt : List Nd → List Nd
  | [] => []
  | [a] => [a]
  | a :: b :: r => if a = b then cpt (b :: r) else a :: cpt (b :: r)
theorem cpt_mem : ∀ (l : List Nd) (x : Nd), x ∈ cpt l ↔ x ∈ l
  | [], x => by simp [cpt]
  | [a], x => by simp [cpt]
  | a :: b :: r, x => by
    have ih := cpt_mem (b :: r) x
    unfold cpt
    split
    · rename_i h
      subst h
      rw [ih]
      simp
    · rw [List.mem_cons, ih]
      simp
/-- Not behind. -/
def le (a b : Nd) : Prop := ¬ lt (ndQ b) (ndQ a)
theorem lt_of_le {a b : Nd} (ha : Can a) (hb : Can b) (h : le a b) (hne : a ≠ b) : lt (ndQ a) (ndQ b) := by
  unfold le lt at h
  unfold lt
  rw [pc_swap] at h
  rcases Int.lt_trichotomy (pc (ndQ a) (ndQ b)) 0 with h1 | h1 | h1
  · exact h1
  · exact absurd (pc_nd_zero ha hb h1) hne
  · omega
theorem lt_le_trans {a b c : Nd} (ha : Can a) (hb : Can b) (hc : Can c) (h1 : lt (ndQ a) (ndQ b)) (h2 : le b c) : lt (ndQ a) (ndQ c) := by
  by_cases h : b = c
  · subst h; exact h1
  · exact lt_trans (ndQ_red ha) (ndQ_red hb) (ndQ_red hc) h1 (lt_of_le hb hc h2 h)
theorem cpt_asc : ∀ (l : List Nd), (∀ n ∈ l, Can n) → l.Pairwise le → (cpt l).Pairwise (fun a b => lt (ndQ a) (ndQ b))
  | [], _, _ => List.Pairwise.nil
  | [a], _, _ => by simp [cpt]
  | a :: b :: r, hc, hp => by
    have hp2 := (List.pairwise_cons.1 hp).2
    have hp1 := (List.pairwise_cons.1 hp).1
    have ih := cpt_asc (b :: r) (fun n h => hc n (by simp [List.mem_cons] at h ⊢; exact Or.inr h)) hp2
    unfold cpt
    split
    · exact ih
    · rename_i hne
      refine List.pairwise_cons.2 ⟨fun x hx => ?_, ih⟩
      have hx' := (cpt_mem (b :: r) x).1 hx
      have ca := hc a (by simp)
      have cb := hc b (by simp)
      have hab := lt_of_le ca cb (hp1 b (by simp)) hne
      rcases List.mem_cons.1 hx' with h | h
      · subst h; exact hab
      · exact lt_le_trans ca cb (hc x (by simp [h])) hab ((List.pairwise_cons.1 hp2).1 x h)
/-- THE PROGRAM's LIST IS THE REFERENCE's. -/
theorem nodes_same (es : List (Pt × Pt)) (S : List Nd) (hc : ∀ n ∈ S, Can n) (hp : S.Pairwise le) (hm : ∀ q, (∃ n ∈ S, ndQ n = q) ↔ isNode es q) : (cpt S).map ndQ = nodesL es := by
  obtain ⟨h1, h2, h3⟩ := nodesL_spec es
  refine asc_unique (fun q hq => ?_) h1 ?_ h2 (fun q => ?_)
  · obtain ⟨n, hn, rfl⟩ := List.mem_map.1 hq
    exact ndQ_red (hc n ((cpt_mem S n).1 hn))
  · exact List.pairwise_map.2 (cpt_asc S hc hp)
  · rw [h3, ← hm, List.mem_map]
    constructor
    · rintro ⟨n, hn, h⟩
      exact ⟨n, (cpt_mem S n).1 hn, h⟩
    · rintro ⟨n, hn, h⟩
      exact ⟨n, (cpt_mem S n).2 hn, h⟩

end Go.Proofs.YtkjhhooecopolaaGreatDoor.Ge

namespace Go.Proofs.YtkjhhooecopolaaGreatDoor
open Go.RowKit

theorem ndInfo : (Tryz.prog.info? 83).map (fun i => (i.zero, i.size, i.bytes)) = some (some (.agg #[.complex .f64 0 0, .int .i64 0]), 2, 24) := by kernel_rfl

theorem cpt_len : ∀ l : List Ge.Nd, (Ge.cpt l).length ≤ l.length
  | [] => by simp [Ge.cpt]
  | [a] => by simp [Ge.cpt]
  | a :: b :: r => by
    have ih := cpt_len (b :: r)
    unfold Ge.cpt
    split
    · simp only [List.length_cons] at ih ⊢; omega
    · simp only [List.length_cons] at ih ⊢; omega

/-- The nodes gathered so far. -/
structure NL (w : World) (lv : Value) (L : List Ge.Nd) (wr : World) : Prop where
  own : wr.ownsRow w.heap.size 83 2 lv L.length (ndRow L)
  below : Below w.heap.size w wr
  can : ∀ n ∈ L, Ge.Can n
  inn : ∀ n ∈ L, NodeIn n.1 n.2.1 n.2.2

def NS (w : World) (lv : Value) (l : List Ed) (k : Nat) (wr : World) : Prop :=
  ∃ L, NL w lv L wr ∧ (∀ q, (∃ n ∈ L, Ge.ndQ n = q) ↔ Ge.isNode l q) ∧ L.length ≤ k

/-- Within a round: the edge lies in its box, the nodes gathered are those of the edges ahead, the edge's ends, and where it meets the first j. -/
structure NI2 (w : World) (B : Nat) (x : EB) (e : Ed) (es : List Ed) (i j : Nat) (lv : Value) (L : List Ge.Nd) (wr : World) : Prop where
  nl : NL w lv L wr
  lt : B < wr.heap.size
  ne : lv.ownBlock ≠ some B
  c0 : wr.cell? ⟨B, 0, none⟩ = some (.complex .f64 x.wa x.wb)
  c1 : wr.cell? ⟨B, 1, none⟩ = some (.float .f64 x.sh)
  c2 : wr.cell? ⟨B, 2, none⟩ = some (.complex .f64 x.fa x.fb)
  c3 : wr.cell? ⟨B, 3, none⟩ = some (.complex .f64 x.ta x.tb)
  iff : ∀ q, (∃ n ∈ L, Ge.ndQ n = q) ↔ Ge.isNode (es.take i) q ∨ q = Ge.pt e.1 ∨ q = Ge.pt e.2 ∨ ∃ f ∈ es.take j, Ge.met e f q
  len : L.length ≤ i * 404 + 2 + j

theorem NI2.keep {w : World} {B : Nat} {x : EB} {e : Ed} {es : List Ed} {i j : Nat} {lv : Value} {L : List Ge.Nd} {wr w' : World} (h : NI2 w B x e es i j lv L wr) (hb : Below wr.heap.size wr w') : NI2 w B x e es i j lv L w' :=
  ⟨⟨own_kept h.nl.own fun k hk => hb.block k (own_lt h.nl.own k hk).2, h.nl.below.trans (hb.mono h.nl.below.size), h.nl.can, h.nl.inn⟩, Nat.lt_of_lt_of_le h.lt hb.size, h.ne, (hb.cell (p := ⟨B, 0, none⟩) h.lt).trans h.c0, (hb.cell (p := ⟨B, 1, none⟩) h.lt).trans h.c1, (hb.cell (p := ⟨B, 2, none⟩) h.lt).trans h.c2, (hb.cell (p := ⟨B, 3, none⟩) h.lt).trans h.c3, h.iff, h.len⟩
theorem take_met {es : List Ed} {j : Nat} {f e : Ed} (hf : es[j]? = some f) (q : Ge.Qt) : (∃ f' ∈ es.take (j + 1), Ge.met e f' q) ↔ (∃ f' ∈ es.take j, Ge.met e f' q) ∨ Ge.met e f q := by
  have h : es.take (j + 1) = es.take j ++ [f] := by rw [List.take_add_one, hf]; rfl
  rw [h]
  constructor
  · rintro ⟨g, hg, h⟩
    rcases List.mem_append.1 hg with hg | hg
    · exact Or.inl ⟨g, hg, h⟩
    · rw [List.mem_singleton] at hg
      rw [hg] at h
      exact Or.inr h
  · rintro (⟨g, hg, h⟩ | h)
    · exact ⟨g, by simp [hg], h⟩
    · exact ⟨f, by simp, h⟩
theorem NI2.skip {w : World} {B : Nat} {x : EB} {e : Ed} {es : List Ed} {i j : Nat} {lv : Value} {L : List Ge.Nd} {wr : World} {f : Ed} (h : NI2 w B x e es i j lv L wr) (hf : es[j]? = some f) (hn : ¬ (Ge.crE e f ≠ 0 ∧ Ge.hq (Ge.meetP e f) e = true ∧ Ge.hq (Ge.meetP e f) f = true)) : NI2 w B x e es i (j + 1) lv L wr :=
  ⟨h.nl, h.lt, h.ne, h.c0, h.c1, h.c2, h.c3, fun q => by
    have hm : ¬ Ge.met e f q := fun m => hn ⟨m.1, m.2.2⟩
    rw [h.iff q, take_met hf q]
    simp [hm], by have := h.len; omega⟩

set_option maxRecDepth 100000 in
set_option maxHeartbeats 2000000 in
theorem nodesOf_core (es : List Ed) (v : Value) (w : World) (hR : RdB w v es) (hl : es.length ≤ 402) (hs : ∀ e ∈ es, smallE e)
    (HS : Hid (∀ lv L wr, NL w lv L wr → L.length ≤ 200000 → Calls Tryz.prog 124 #[lv, .func (.func 125) #[] #[]] wr fun r w' => r = .returned (.tuple #[]) ∧ ∃ S, NL w lv S w' ∧ (∀ n, n ∈ S ↔ n ∈ L) ∧ S.length = L.length ∧ S.Pairwise Ge.le))
    (HK : Hid (∀ lv S wr, NL w lv S wr → S.length ≤ 200000 → Calls Tryz.prog 126 #[lv] wr fun r w' => ∃ v', r = .returned v' ∧ RdN w' v' (Ge.cpt S) ∧ Below w.heap.size w w')) :
    Calls Tryz.prog 72 #[v] w fun e w' => ∃ v' l, e = .returned v' ∧ RdN w' v' l ∧ Below w.heap.size w w' ∧ l.map Ge.ndQ = Ge.nodesL es ∧ (∀ n ∈ l, NodeIn n.1 n.2.1 n.2.2) ∧ l.length ≤ 200000 := by
  obtain ⟨so, cap, rfl⟩ := rdB_slice hR
  obtain ⟨i0, hi, hz0, hz1, hz2⟩ := info_parts ndInfo
  have HR : Hid (RdB w (.slice so es.length cap) es) := hR
  clear hR
  go_enter Tryz.func72, Tryz.ntmps72
  go_wp2_with fail
  have HIN : Hid (NS w (.slice none 0 0) [] 0 w) := ⟨[], ⟨World.ownsRow_nil _ _ _ _, Below.refl _ _, fun n h => by simp at h, fun n h => by simp at h⟩, fun q => by simp [Ge.isNode], by simp⟩
  go_loopg [3, 12] es.length (fun m lv iv wr => ∃ i : Nat, i + m = es.length ∧ iv = .int .i64 i ∧ Hid (NS w lv (es.take i) (i * 404) wr))
  case atStart => exact ⟨0, by omega, rfl, HIN⟩
  case round =>
    obtain ⟨i, him, rfl, HE⟩ := hrel
    clear HIN
    by_cases hlt : i < es.length
    · obtain ⟨e, he⟩ : ∃ e, es[i]? = some e := ⟨_, List.getElem?_eq_getElem hlt⟩
      obtain ⟨b, x, rfl, hb, hx, c0, c1, c2, c3⟩ := rdB_get HR.out he
      obtain ⟨L, hNL, hiff, hLl⟩ := HE.out
      have hbel := hNL.below
      have r0 := (hbel.cell (p := ⟨b, i * 4, none⟩) hb).trans c0
      have r1 := (hbel.cell (p := ⟨b, i * 4 + 1, none⟩) hb).trans c1
      have r2 := (hbel.cell (p := ⟨b, i * 4 + 2, none⟩) hb).trans c2
      have r3 := (hbel.cell (p := ⟨b, i * 4 + 3, none⟩) hb).trans c3
      have hse := hs e (List.mem_of_getElem? he)
      obtain ⟨n1, n1c, n1q, n1i, hN1⟩ := nodeAt_all 1 hx.fa hx.fb (by have := hse.a; unfold small at this; omega) (by have := hse.b; unfold small at this; omega) (by omega)
      obtain ⟨n2, n2c, n2q, n2i, hN2⟩ := nodeAt_all 1 hx.ta hx.tb (by have := hse.c; unfold small at this; omega) (by have := hse.d; unfold small at this; omega) (by omega)
      rw [Ge.fr2_one, Ge.fr2_one] at n1q n2q
      have HX : Hid (EBok x e) := hx
      have HEM : Hid (e ∈ es) := List.mem_of_getElem? he
      have HEI : Hid (es[i]? = some e) := he
      have HNL : Hid (NL w u3 L wr) := hNL
      have HIF : Hid (∀ q, (∃ n ∈ L, Ge.ndQ n = q) ↔ Ge.isNode (es.take i) q) := hiff
      have HQ1 : Hid (Ge.ndQ n1 = Ge.pt e.1 ∧ Ge.Can n1 ∧ NodeIn n1.1 n1.2.1 n1.2.2) := ⟨n1q, n1c, n1i⟩
      have HQ2 : Hid (Ge.ndQ n2 = Ge.pt e.2 ∧ Ge.Can n2 ∧ NodeIn n2.1 n2.2.1 n2.2.2) := ⟨n2q, n2c, n2i⟩
      have hki : (i : Int) < (es.length : Int) := by omega
      have hbr : b < wr.heap.size := Nat.lt_of_lt_of_le hb hbel.size
      obtain ⟨wa, wb, sh, fa, fb, ta, tb⟩ := x
      simp only at r0 r1 r2 r3 hN1 hN2
      have HC1 : Hid (∀ w1, Calls Tryz.prog 37 #[.complex .f64 fa fb, .int .i64 1] w1 fun e w' => e = .returned (ndV n1) ∧ Below w1.heap.size w1 w') := hN1
      have HC2 : Hid (∀ w1, Calls Tryz.prog 37 #[.complex .f64 ta tb, .int .i64 1] w1 fun e w' => e = .returned (ndV n2) ∧ Below w1.heap.size w1 w') := hN2
      clear c0 c1 c2 c3 hNL hiff hx hN1 hN2 n1c n1q n1i n2c n2q n2i he HE hse
      go_wp2_with (first | (simp only [st_complex]; go_simp) | (simp only [st_float]; go_simp) | (simp only [st_complex, st_float]; go_simp))
      have hE := heap_alloc_new wr (.cells #[.complex .f64 wa wb, .float .f64 sh, .complex .f64 fa fb, .complex .f64 ta tb] 124)
      have hbW := hbel.alloc hbel.size (.cells #[.complex .f64 wa wb, .float .f64 sh, .complex .f64 fa fb, .complex .f64 ta tb] 124)
      have hoW : (wr.alloc (.cells #[.complex .f64 wa wb, .float .f64 sh, .complex .f64 fa fb, .complex .f64 ta tb] 124)).ownsRow w.heap.size 83 2 u3 L.length (ndRow L) := own_kept HNL.out.own fun k hk => Below.heap_alloc _ _ _ (own_lt HNL.out.own k hk).2
      have hzq : wr.heap.size < (wr.alloc (.cells #[.complex .f64 wa wb, .float .f64 sh, .complex .f64 fa fb, .complex .f64 ta tb] 124)).heap.size := by simp
      have hneq : ∀ k, u3.ownBlock = some k → k < wr.heap.size := fun k hk => (own_lt HNL.out.own k hk).2
      have hwB : w.heap.size ≤ wr.heap.size := hbel.size
      generalize wr.alloc (.cells #[.complex .f64 wa wb, .float .f64 sh, .complex .f64 fa fb, .complex .f64 ta tb] 124) = W at *
      generalize hBq : wr.heap.size = B at *
      have a0 : W.cell? ⟨B, 0, none⟩ = some (.complex .f64 wa wb) := cell_of hE 0
      have a1 : W.cell? ⟨B, 1, none⟩ = some (.float .f64 sh) := cell_of hE 1
      have a2 : W.cell? ⟨B, 2, none⟩ = some (.complex .f64 fa fb) := cell_of hE 2
      have a3 : W.cell? ⟨B, 3, none⟩ = some (.complex .f64 ta tb) := cell_of hE 3
      have HV1 : Hid (ndCells n1 = [.complex .f64 (floatOfInt .f64 n1.1) (floatOfInt .f64 n1.2.1), .int .i64 n1.2.2]) := rfl
      have HV2 : Hid (ndCells n2 = [.complex .f64 (floatOfInt .f64 n2.1) (floatOfInt .f64 n2.2.1), .int .i64 n2.2.2]) := rfl
      unfold ndV at HC1 HC2
      generalize floatOfInt .f64 n1.1 = A1 at *
      generalize floatOfInt .f64 n1.2.1 = A2 at *
      generalize floatOfInt .f64 n2.1 = A4 at *
      generalize floatOfInt .f64 n2.2.1 = A5 at *
      have hneB : some B ≠ u3.ownBlock := fun h => Nat.lt_irrefl _ (hneq B h.symm)
      clear r0 r1 r2 r3 hE
      refine wp_region_held_drew (S := (fun w' => w'.cell? ⟨B, 0, none⟩ = some (.complex .f64 wa wb) ∧ w'.cell? ⟨B, 1, none⟩ = some (.float .f64 sh) ∧ w'.cell? ⟨B, 2, none⟩ = some (.complex .f64 fa fb) ∧ w'.cell? ⟨B, 3, none⟩ = some (.complex .f64 ta tb))) (by kernel_rfl) ⟨a0, a1, a2, a3⟩ (fun hHeld => ?_)
      refine wpAnyH_take (i := 0) (oi := { dst := some 17, op := _, type := _, pos := _, after := _, guard := _ }) (v := ?_) rfl (by kernel_rfl) (by kernel_rfl) (by kernel_rfl) (fun _ _ _ h => h) (Or.inl ⟨by rfl, ?_⟩) hHeld ?_
      rotate_left
      · intro w' hS'
        obtain ⟨s0, s1, s2, s3⟩ := hS'
        go_simp
        try with_reducible rfl
      simp only [Act.put, List.setIfInBounds_toArray, List.set_cons_zero, List.set_cons_succ]
      refine wpAnyH_take (i := 1) (oi := { dst := some 18, op := _, type := _, pos := _, after := _, guard := _ }) (v := ?_) rfl (by kernel_rfl) (by kernel_rfl) (by kernel_rfl) (fun _ _ _ h => h) (Or.inl ⟨by rfl, ?_⟩) hHeld ?_
      rotate_left
      · intro w' hS'
        obtain ⟨s0, s1, s2, s3⟩ := hS'
        go_simp
        try with_reducible rfl
      simp only [Act.put, List.setIfInBounds_toArray, List.set_cons_zero, List.set_cons_succ]
      refine wpAnyH_take (i := 2) (oi := { dst := some 19, op := _, type := _, pos := _, after := _, guard := _ }) (v := ?_) rfl (by kernel_rfl) (by kernel_rfl) (by kernel_rfl) (fun _ _ _ h => h) (Or.inl ⟨by rfl, ?_⟩) hHeld ?_
      rotate_left
      · intro w' hS'
        obtain ⟨s0, s1, s2, s3⟩ := hS'
        go_simp
        try with_reducible rfl
      simp only [Act.put, List.setIfInBounds_toArray, List.set_cons_zero, List.set_cons_succ]
      refine wpAnyH_take (i := 4) (oi := { dst := some 21, op := _, type := _, pos := _, after := _, guard := _ }) (v := ?_) rfl (by kernel_rfl) (by kernel_rfl) (by kernel_rfl) (fun _ _ _ h => h) (Or.inl ⟨by rfl, ?_⟩) hHeld ?_
      rotate_left
      · intro w' hS'
        obtain ⟨s0, s1, s2, s3⟩ := hS'
        go_simp
        try with_reducible rfl
      simp only [Act.put, List.setIfInBounds_toArray, List.set_cons_zero, List.set_cons_succ]
      refine wpAnyH_take (i := 5) (oi := { dst := some 22, op := _, type := _, pos := _, after := _, guard := _ }) (v := ?_) rfl (by kernel_rfl) (by kernel_rfl) (by kernel_rfl) (fun _ _ _ h => h) (Or.inl ⟨by rfl, ?_⟩) hHeld ?_
      rotate_left
      · intro w' hS'
        obtain ⟨s0, s1, s2, s3⟩ := hS'
        go_simp
        try with_reducible rfl
      simp only [Act.put, List.setIfInBounds_toArray, List.set_cons_zero, List.set_cons_succ]
      refine wpAnyH_ready (rs := [3]) (by kernel_rfl) (by simp) ?_
      refine AllReadyH.cons rfl (fun K hK => ?_) AllReadyH.nil
      go_simp
      refine (HC1.out _).mono ?_
      rintro e w6 ⟨rfl, hb6⟩
      have b0 := (hb6.cell (p := ⟨B, 0, none⟩) hzq).trans a0
      have b1 := (hb6.cell (p := ⟨B, 1, none⟩) hzq).trans a1
      have b2 := (hb6.cell (p := ⟨B, 2, none⟩) hzq).trans a2
      have b3 := (hb6.cell (p := ⟨B, 3, none⟩) hzq).trans a3
      have hz6 := Nat.lt_of_lt_of_le hzq hb6.size
      have ho6 := own_kept hoW.drew fun k hk => hb6.block k (Nat.lt_trans (hneq k hk) hzq)
      go_wp2_with fail
      refine hK.out _ _ ⟨b0, b1, b2, b3⟩ (fun hHeld => ?_)
      clear hK K
      try simp only [Act.put, List.setIfInBounds_toArray, List.set_cons_zero, List.set_cons_succ]
      refine wpAnyH_ready (rs := [6]) (by kernel_rfl) (by simp) ?_
      refine AllReadyH.cons rfl (fun K hK => ?_) AllReadyH.nil
      go_simp
      refine (HC2.out _).mono ?_
      rintro e w7 ⟨rfl, hb7⟩
      have c0 := (hb7.cell (p := ⟨B, 0, none⟩) hz6).trans b0
      have c1 := (hb7.cell (p := ⟨B, 1, none⟩) hz6).trans b1
      have c2 := (hb7.cell (p := ⟨B, 2, none⟩) hz6).trans b2
      have c3 := (hb7.cell (p := ⟨B, 3, none⟩) hz6).trans b3
      have hz7 := Nat.lt_of_lt_of_le hz6 hb7.size
      have ho7 := own_kept ho6 fun k hk => hb7.block k (Nat.lt_trans (hneq k hk) hz6)
      go_wp2_with fail
      refine hK.out _ _ ⟨c0, c1, c2, c3⟩ (fun hHeld => ?_)
      clear hK K
      try simp only [Act.put, List.setIfInBounds_toArray, List.set_cons_zero, List.set_cons_succ]
      refine wpAnyH_ready (rs := [7]) (by kernel_rfl) (by simp) ?_
      refine AllReadyH.cons rfl (fun K hK => ?_) AllReadyH.nil
      go_simp
      refine hK.out _ _ ⟨(cell_alloc _ _ hz7).trans c0, (cell_alloc _ _ hz7).trans c1, (cell_alloc _ _ hz7).trans c2, (cell_alloc _ _ hz7).trans c3⟩ (fun hHeld => ?_)
      clear hK K
      try simp only [Act.put, List.setIfInBounds_toArray, List.set_cons_zero, List.set_cons_succ]
      refine wpAnyH_ready (rs := [8]) (by kernel_rfl) (by simp) ?_
      refine AllReadyH.cons rfl (fun K hK => ?_) AllReadyH.nil
      refine step_append_lies _ rfl (.tmp 17) (.tmp 24) 138 rfl w.heap.size 83 i0 _ 2 24 Tryz.underlying138 hi hz0 hz1 hz2 rfl (by decide) u3 L.length (ndRow L) rfl (own_kept ho7 (fun k hk => Below.heap_alloc _ _ _ (own_lt ho7 k hk).2)) ⟨w7.heap.size, 0, none⟩ 2 2 [.complex .f64 A1 A2, .int .i64 n1.2.2, .complex .f64 A4 A5, .int .i64 n2.2.2] rfl rfl (World.news_of_block (cs := #[.complex .f64 A1 A2, .int .i64 n1.2.2, .complex .f64 A4 A5, .int .i64 n2.2.2]) (t := 83) (fr := (0, 0)) (heap_alloc_new w7 _)) (by simp [Value.oneCell']) (by decide) (by unfold maxLen; omega) (by omega) (by simp; omega) (w7.heap.size + 1) (by simp) ?_
      intro g' cap' w8 ho8 hg8 hat8 hlt8
      have d0 := (hg8.cell_far ⟨B, 0, none⟩ (by simp; omega) hneB).trans ((cell_alloc _ _ hz7).trans c0)
      have d1 := (hg8.cell_far ⟨B, 1, none⟩ (by simp; omega) hneB).trans ((cell_alloc _ _ hz7).trans c1)
      have d2 := (hg8.cell_far ⟨B, 2, none⟩ (by simp; omega) hneB).trans ((cell_alloc _ _ hz7).trans c2)
      have d3 := (hg8.cell_far ⟨B, 3, none⟩ (by simp; omega) hneB).trans ((cell_alloc _ _ hz7).trans c3)
      go_simp
      refine hK.out _ _ ⟨d0, d1, d2, d3⟩ (fun hHeld => ?_)
      clear hK K
      try simp only [Act.put, List.setIfInBounds_toArray, List.set_cons_zero, List.set_cons_succ]
      refine wpAnyH_take (i := 9) (oi := { dst := some 3, op := _, type := _, pos := _, after := _, guard := _ }) (v := ?_) rfl (by kernel_rfl) (by kernel_rfl) (by kernel_rfl) (fun _ _ _ h => h) (Or.inl ⟨by rfl, ?_⟩) hHeld ?_
      rotate_left
      · intro w' hS'
        obtain ⟨s0, s1, s2, s3⟩ := hS'
        go_simp
        try with_reducible rfl
      simp only [Act.put, List.setIfInBounds_toArray, List.set_cons_zero, List.set_cons_succ]
      refine wpAnyH_done (by kernel_rfl) ?_ _
      have hb78 : Below w.heap.size w w8 := by
        have q6 := hbW.drew.trans (hb6.mono (Nat.le_trans hwB (Nat.le_of_lt hzq)))
        have q7 := q6.trans (hb7.mono (Nat.le_trans hwB (Nat.le_of_lt hz6)))
        exact (q7.alloc q7.size _).grown hg8 (by simp; omega) (fun k hk => (own_lt ho7 k hk).1)
      have HN8 : Hid (NL w (.slice (some ⟨g', 0, none⟩) (L.length + 2) cap') (L ++ [n1, n2]) w8) := by
        have hrow : ndRow (L ++ [n1, n2]) = ndRow L ++ [.complex .f64 A1 A2, .int .i64 n1.2.2, .complex .f64 A4 A5, .int .i64 n2.2.2] := by
          have e1 : ndRow (L ++ [n1, n2]) = ndRow L ++ (ndCells n1 ++ ndCells n2) := by simp [ndRow]
          rw [e1, HV1.out, HV2.out]; rfl
        refine ⟨?_, hb78, fun n hn => ?_, fun n hn => ?_⟩
        · rw [hrow, List.length_append]; exact ho8
        · rcases List.mem_append.1 hn with h | h
          · exact HNL.out.can n h
          · rcases List.mem_cons.1 h with h | h
            · rw [h]; exact HQ1.out.2.1
            · rw [List.mem_singleton.1 h]; exact HQ2.out.2.1
        · rcases List.mem_append.1 hn with h | h
          · exact HNL.out.inn n h
          · rcases List.mem_cons.1 h with h | h
            · rw [h]; exact HQ1.out.2.2
            · rw [List.mem_singleton.1 h]; exact HQ2.out.2.2
      have HI0 : Hid (NI2 w B ⟨wa, wb, sh, fa, fb, ta, tb⟩ e es i 0 (.slice (some ⟨g', 0, none⟩) (L.length + 2) cap') (L ++ [n1, n2]) w8) := by
        refine ⟨HN8.out, ?_, ?_, d0, d1, d2, d3, fun q => ?_, by simp; omega⟩
        · have h1 := hg8.size
          simp at h1
          omega
        · show some g' ≠ some B
          intro h
          injection h with h
          rcases hat8 with h8 | h8
          · have := hneq g' h8; omega
          · omega
        · have h1 := HIF.out q
          simp only [List.take_zero, List.not_mem_nil, false_and, exists_false, or_false]
          rw [← h1]
          constructor
          · rintro ⟨n, hn, h⟩
            rcases List.mem_append.1 hn with hn | hn
            · exact Or.inl ⟨n, hn, h⟩
            · rcases List.mem_cons.1 hn with hn | hn
              · exact Or.inr (Or.inl (by rw [← h, hn, HQ1.out.1]))
              · exact Or.inr (Or.inr (by rw [← h, List.mem_singleton.1 hn, HQ2.out.1]))
          · rintro (⟨n, hn, h⟩ | h | h)
            · exact ⟨n, by simp [hn], h⟩
            · exact ⟨n1, by simp, by rw [h, HQ1.out.1]⟩
            · exact ⟨n2, by simp, by rw [h, HQ2.out.1]⟩
      have hcap : ¬ cap < i := by
        obtain ⟨_, _, ho, _⟩ := HR.out
        rcases ho.2 with ⟨hv, _⟩ | ⟨_, _, _, hv, _, _, hc, _⟩
        · cases hv
        · injection hv with _ _ hv; omega
      have hcap' : i ≤ cap := by omega
      clear HC1 HC2 HV1 HV2 a0 a1 a2 a3 b0 b1 b2 b3 c0 c1 c2 c3 ho6 ho7 ho8 hb6 hb7 hoW hneq hneB hz6 hz7 hg8 hat8 hlt8 hHeld
      go_wp2_with fail
      obtain ⟨m1, hm1⟩ : ∃ m1, m1 = gk := ⟨_, rfl⟩
      go_loopg [3, 30] i (fun m lv nv wr => ∃ j : Nat, j + m = i ∧ nv = .int .i64 j ∧ Hid (∃ L', NI2 w B ⟨wa, wb, sh, fa, fb, ta, tb⟩ e es i j lv L' wr))
      case atStart => exact ⟨0, by omega, rfl, ⟨_, HI0.out⟩⟩
      case round =>
        obtain ⟨j, hjm, rfl, HE3⟩ := hrel
        clear HI0 HN8 d0 d1 d2 d3 HIF HNL HQ1 HQ2 hb78
        obtain ⟨L', hI⟩ := HE3.out
        by_cases hlt3 : j < i
        · obtain ⟨f, hf⟩ : ∃ f, es[j]? = some f := ⟨_, List.getElem?_eq_getElem (by omega)⟩
          obtain ⟨b4, y, hb4, _, hy, f0, f1, f2, f3⟩ := rdB_get HR.out hf
          injection hb4 with hb4
          injection hb4 with hb4
          subst hb4
          have hbel3 := hI.nl.below
          have s0 := (hbel3.cell (p := ⟨b, j * 4, none⟩) hb).trans f0
          have s1 := (hbel3.cell (p := ⟨b, j * 4 + 1, none⟩) hb).trans f1
          have s2 := (hbel3.cell (p := ⟨b, j * 4 + 2, none⟩) hb).trans f2
          have s3 := (hbel3.cell (p := ⟨b, j * 4 + 3, none⟩) hb).trans f3
          have a0 := hI.c0
          have a1 := hI.c1
          have a2 := hI.c2
          have a3 := hI.c3
          obtain ⟨vn, bt, nv, hM, ⟨M1, M2, MP, hnv⟩, hbt, hbv⟩ := meeting_any ⟨wa, wb, sh, fa, fb, ta, tb⟩ y e f HX.out hy (hs e (HEM.out)) (hs f (List.mem_of_getElem? hf))
          subst hnv
          have HM : Hid (∀ w, Calls Tryz.prog 123 #[.agg (EB.cells ⟨wa, wb, sh, fa, fb, ta, tb⟩), .agg y.cells] w fun r w' => r = .returned (.tuple #[.agg #[.complex .f64 M1 M2, .int .i64 MP], .bool bt]) ∧ Below w.heap.size w w') := hM
          have HBT : Hid (bt = true ↔ Ge.crE e f ≠ 0 ∧ Ge.hq (Ge.meetP e f) e = true ∧ Ge.hq (Ge.meetP e f) f = true) := hbt
          have HBV : Hid (bt = true → .agg #[.complex .f64 M1 M2, .int .i64 MP] = ndV vn ∧ Ge.Can vn ∧ Ge.ndQ vn = Ge.meetP e f ∧ NodeIn vn.1 vn.2.1 vn.2.2) := hbv
          have HF : Hid (es[j]? = some f) := hf
          obtain ⟨ya, yb, ys, yc, yd, ye, yf⟩ := y
          simp only [EB.cells] at HM s0 s1 s2 s3 a0 a1 a2 a3
          have hki3 : (j : Int) < (i : Int) := by omega
          have hltB := hI.lt
          clear hM hbt hbv f0 f1 f2 f3 hy hf HE3
          go_wp2_with (first | (simp only [st_complex]; go_simp) | (simp only [st_float]; go_simp))
          have hbA : Below wr.heap.size wr (wr.alloc (.cells #[.complex .f64 ya yb, .float .f64 ys, .complex .f64 yc yd, .complex .f64 ye yf] 124)) := (Below.refl _ _).alloc (Nat.le_refl _) _
          refine (HM.out _).mono ?_
          rintro e5 w5 ⟨rfl, hb5⟩
          have hI5 := hI.keep (hbA.trans (hb5.mono hbA.size))
          clear a0 a1 a2 a3 s0 s1 s2 s3 hbA hb5 HM hI hbel3 hltB
          cases bt
          · have hNX := hI5.skip HF.out (fun h => by have := HBT.out.2 h; cases this)
            have hbel5 := hI5.nl.below
            have HIA : Hid (∀ o, NI2 w B ⟨wa, wb, sh, fa, fb, ta, tb⟩ e es i (j + 1) u3 L' (w5.alloc o)) := fun o => hNX.keep ((Below.refl w5.heap.size w5).alloc (Nat.le_refl _) o)
            clear HBV HBT hNX
            go_wp2_with (simp only [st_complex]; go_simp)
            go_roundg (gk - 1)
            case measure => omega
            case rel => exact ⟨j + 1, by omega, by go_num, ⟨_, HIA.out _⟩⟩
          · obtain ⟨hnv, hvc, hvq, hvi⟩ := HBV.out rfl
            have hmt := HBT.out.1 rfl
            have hnc : ndCells vn = [.complex .f64 M1 M2, .int .i64 MP] := by
              unfold ndV at hnv
              injection hnv with hnv
              have := congrArg Array.toList hnv
              exact this.symm
            have HVN : Hid (ndCells vn = [.complex .f64 M1 M2, .int .i64 MP] ∧ Ge.Can vn ∧ Ge.ndQ vn = Ge.meetP e f ∧ NodeIn vn.1 vn.2.1 vn.2.2) := ⟨hnc, hvc, hvq, hvi⟩
            have HMT : Hid (Ge.crE e f ≠ 0 ∧ Ge.hq (Ge.meetP e f) e = true ∧ Ge.hq (Ge.meetP e f) f = true) := hmt
            have hI6 := hI5.keep ((Below.refl w5.heap.size w5).alloc (Nat.le_refl _) (.cells #[.complex .f64 M1 M2, .int .i64 MP] 83))
            have ho6 := hI6.nl.own
            have hlen6 := hI6.len
            have hw6 := hI6.nl.below.size
            have hbox := heap_alloc_new w5 (.cells #[.complex .f64 M1 M2, .int .i64 MP] 83)
            clear HBV HBT hnv hvc hvq hvi hmt hnc hI5
            go_wp2_with (first
              | (at_builtin; refine wpList_append_lies _ rfl (.tmp 41) (.tmp 43) 138 rfl w.heap.size 83 i0 _ 2 24 Tryz.underlying138 hi hz0 hz1 hz2 rfl (by decide) u3 L'.length (ndRow L') rfl (own_kept ho6 (fun k hk => Below.heap_alloc _ _ _ (own_lt ho6 k hk).2)) ⟨w5.heap.size + 1, 0, none⟩ 1 1 [.complex .f64 M1 M2, .int .i64 MP] rfl rfl (World.news_of_block (cs := #[.complex .f64 M1 M2, .int .i64 MP]) (t := 83) (fr := (0, 0)) (by have := heap_alloc_new (w5.alloc (.cells #[.complex .f64 M1 M2, .int .i64 MP] 83)) (.cells #[.complex .f64 M1 M2, .int .i64 MP] 83); simpa using this)) (by simp [Value.oneCell']) (by decide) (by unfold maxLen; omega) (by omega) (by simp at hw6 ⊢; omega) (w5.heap.size + 2) (by simp) ?_; intro g2 cap2 w9 ho9 hg9 hat9 hlt9)
              | (simp only [st_complex]; go_simp))
            have HN9 : Hid (NI2 w B ⟨wa, wb, sh, fa, fb, ta, tb⟩ e es i (j + 1) (.slice (some ⟨g2, 0, none⟩) (L'.length + 1) cap2) (L' ++ [vn]) w9) := by
              have hI7 := hI6.keep ((Below.refl (w5.alloc (.cells #[.complex .f64 M1 M2, .int .i64 MP] 83)).heap.size _).alloc (Nat.le_refl _) (.cells #[.complex .f64 M1 M2, .int .i64 MP] 83))
              have hne : some B ≠ u3.ownBlock := fun h => hI7.ne h.symm
              have hB7 := hI7.lt
              refine ⟨⟨?_, hI7.nl.below.grown hg9 hI7.nl.below.size (fun k hk => (own_lt hI7.nl.own k hk).1), fun n hn => ?_, fun n hn => ?_⟩, ?_, ?_, (hg9.cell_far ⟨B, 0, none⟩ hB7 hne).trans hI7.c0, (hg9.cell_far ⟨B, 1, none⟩ hB7 hne).trans hI7.c1, (hg9.cell_far ⟨B, 2, none⟩ hB7 hne).trans hI7.c2, (hg9.cell_far ⟨B, 3, none⟩ hB7 hne).trans hI7.c3, fun q => ?_, by rw [List.length_append]; show L'.length + 1 ≤ _; omega⟩
              · rw [ndRow_snoc, HVN.out.1, List.length_append]; exact ho9
              · rcases List.mem_append.1 hn with h | h
                · exact hI7.nl.can n h
                · rw [List.mem_singleton.1 h]; exact HVN.out.2.1
              · rcases List.mem_append.1 hn with h | h
                · exact hI7.nl.inn n h
                · rw [List.mem_singleton.1 h]; exact HVN.out.2.2.2
              · exact Nat.lt_of_lt_of_le hB7 hg9.size
              · show some g2 ≠ some B
                intro h
                injection h with h
                rcases hat9 with h9 | h9
                · exact hI7.ne (by rw [h9, h])
                · have := hI6.lt
                  simp at this
                  omega
              · have h1 := hI7.iff q
                rw [take_met HF.out q]
                constructor
                · rintro ⟨n, hn, h⟩
                  rcases List.mem_append.1 hn with hn | hn
                  · rcases h1.1 ⟨n, hn, h⟩ with h | h | h | h
                    · exact Or.inl h
                    · exact Or.inr (Or.inl h)
                    · exact Or.inr (Or.inr (Or.inl h))
                    · exact Or.inr (Or.inr (Or.inr (Or.inl h)))
                  · rw [List.mem_singleton.1 hn, HVN.out.2.2.1] at h
                    exact Or.inr (Or.inr (Or.inr (Or.inr ⟨HMT.out.1, h.symm, HMT.out.2⟩)))
                · rintro (h | h | h | h | h)
                  · obtain ⟨n, hn, h⟩ := h1.2 (Or.inl h); exact ⟨n, by simp [hn], h⟩
                  · obtain ⟨n, hn, h⟩ := h1.2 (Or.inr (Or.inl h)); exact ⟨n, by simp [hn], h⟩
                  · obtain ⟨n, hn, h⟩ := h1.2 (Or.inr (Or.inr (Or.inl h))); exact ⟨n, by simp [hn], h⟩
                  · obtain ⟨n, hn, h⟩ := h1.2 (Or.inr (Or.inr (Or.inr h))); exact ⟨n, by simp [hn], h⟩
                  · exact ⟨vn, by simp, by rw [HVN.out.2.2.1, h.2.1]⟩
            clear ho9 hg9 ho6 hI6 hat9 hlt9 hbox
            go_roundg (gk - 1)
            case measure => omega
            case rel => exact ⟨j + 1, by omega, by go_num, ⟨_, HN9.out⟩⟩
        · have hj : j = i := by omega
          subst hj
          have HNX : Hid (NS w u3 (es.take (j + 1)) ((j + 1) * 404) wr) := by
            have htk : es.take (j + 1) = es.take j ++ [e] := by rw [List.take_add_one, HEI.out]; rfl
            refine ⟨L', hI.nl, fun q => ?_, by have := hI.len; omega⟩
            rw [htk, Ge.isNode_snoc, hI.iff q]
          clear HE3 hI
          go_wp2_with fail
          go_roundg (m1 - 1)
          case measure => omega
          case rel => exact ⟨j + 1, by omega, by go_num, HNX⟩
    · have hk : i = es.length := by omega
      subst hk
      have HF : Hid (NS w u3 es (es.length * 404) wr) := by
        have := HE.out
        rw [List.take_length] at this
        exact this
      clear HE HR
      obtain ⟨L, hNL, hiff, hLl⟩ := HF.out
      have hL2 : L.length ≤ 200000 := by omega
      go_wp2_with fail
      refine (HS.out _ L _ hNL hL2).mono ?_
      rintro e w5 ⟨rfl, S, hS, hmem, hlen, hpw⟩
      go_wp2_with fail
      refine (HK.out _ S _ hS (by omega)).mono ?_
      rintro e w6 ⟨v', rfl, hR6, hb6⟩
      have HR6 : Hid (RdN w6 v' (Ge.cpt S)) := hR6
      have HSM : Hid (S.length ≤ 200000 ∧ ∀ q, (∃ n ∈ S, Ge.ndQ n = q) ↔ Ge.isNode es q) := ⟨by omega, fun q => by
        rw [← hiff q]
        constructor
        · rintro ⟨n, hn, h⟩; exact ⟨n, (hmem n).1 hn, h⟩
        · rintro ⟨n, hn, h⟩; exact ⟨n, (hmem n).2 hn, h⟩⟩
      have HPW : Hid (S.Pairwise Ge.le) := hpw
      have HSI : Hid (NL w u3 S w5) := hS
      clear hR6 hiff hmem hpw hS hNL HF HS HK
      go_wp2_with fail
      go_ret
      exact ⟨v', Ge.cpt S, rfl, HR6.out, hb6, Ge.nodes_same es S HSI.out.can HPW.out HSM.out.2, fun n hn => HSI.out.inn n ((Ge.cpt_mem S n).1 hn), Nat.le_trans (cpt_len S) HSM.out.1⟩

end Go.Proofs.YtkjhhooecopolaaGreatDoor
