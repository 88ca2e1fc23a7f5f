/- Contracts of torsionref01.Add, Sub and Cmp. Contract of made (the law's own). A rule for a region in one order: operations that may be taken first, single operations that alone may come up, and pairs that may come up in either order. Conditions: as the theorem states. Plain mathematics of Euclid's extended algorithm. Contract of integer.groupText; rows of bytes. Contract of integer.groups. Contracts of strings.TrimLeft at one byte and of strings.CutPrefix, by the library's own theorems at this program. Words for regions that write into structs that were there before. Order, floor and nearest integer of fractions: the mathematics of the laws of stage 2. -/
import Derived.Test.YtlpoboikompjfaaGreatDoorVG3DlOnce
import Derived.Test.YtlpoboikompjfaaGreatDoorVG2Sign
import Derived.Test.YtlpoboikompjfaaGreatDoorVG1WordB
import Derived.Test.YtlpoboikompjfaaGreatDoorVG0RatMath
import Derived.Deep.RegionHeld3
import Derived.Laws.CopyOwn
import Derived.Deep.RegionLaw
import Derived.Shelf.Strings.Trim
import Derived.Shelf.Small.Wraps
import Derived.Test.YtlpoboikompjfaaGreatDoorProg
namespace Go.Proofs.YtlpoboikompjfaaGreatDoor
open Go.RowKit
theorem made_val (neg : Bool) (A : Option Addr) (n c v : Nat) (z : Int) (zs : List Nat) (w : World) (ha : Lim w w.heap.size A n c zs) (hn : zs.length ≤ 1000000) (hv : val zs = v) (hz : zOf neg v = z) :
    Calls Tryz.prog 57 #[.slice A n c, .bool neg] w (RetInt w z) := by
  subst hv hz
  exact Made_any neg A n c w.heap.size zs w ha (Nat.le_refl _) (by rw [← ha.len]; exact hn)
set_option maxHeartbeats 1000000 in
theorem radd_same (neg : Bool) (A A' : Option Addr) (n c m d : Nat) (a b : Int) (w : World) (ha : IsInt w neg A n c a) (hb : IsInt w neg A' m d b) (hn : n ≤ 100000) (hm : m ≤ 100000) :
    Calls Tryz.prog 73 #[.agg #[.bool neg, .slice A n c], .agg #[.bool neg, .slice A' m d]] w (RetInt w (a + b)) := by
  have H1 := fun W (hW : Below w.heap.size w W) => plus_any A A' n c m d w.heap.size w.heap.size 100000 (digs a.natAbs) (digs b.natAbs) W (ha.lim.below hW) (hb.lim.below hW) hW.size hW.size hn hm (Nat.le_refl _)
  have e1 : zOf neg (a.natAbs + b.natAbs) = a + b := by
    have h1 := ha.sign
    have h2 := hb.sign
    unfold zOf
    cases neg <;> simp at h1 h2 ⊢ <;> omega
  have H2 := fun A n c zs (W : World) (ha : Lim W W.heap.size A n c zs) (hl : zs.length ≤ 100001) (hv : val zs = val (digs a.natAbs) + val (digs b.natAbs)) => made_val neg A n c (a.natAbs + b.natAbs) (a + b) zs W ha (by omega) (by rw [hv, val_digs, val_digs]) e1
  have H1' := Lib.hid H1
  have H2' := Lib.hid H2
  clear H1 H2 e1
  obtain ⟨HB, P0, P1, R0⟩ := frame21 w (.bool neg) (.slice A n c) (.bool neg) (.slice A' m d)
  have HS : Hid (∀ W, Below (w.heap.size + 1 + 1) (((w.alloc (.cells #[.bool neg, .slice A n c] 26)).alloc (.cells #[.bool neg, .slice A' m d] 26)).alloc (.cells #[.bool false, .slice none 0 0] 26)) W → W.cell? ⟨w.heap.size, 0, none⟩ = some (.bool neg) ∧ W.cell? ⟨w.heap.size, 1, none⟩ = some (.slice A n c) ∧ W.cell? ⟨w.heap.size + 1, 0, none⟩ = some (.bool neg) ∧ W.cell? ⟨w.heap.size + 1, 1, none⟩ = some (.slice A' m d)) :=
    fun W hW => ⟨(P0.below hW (by omega)).1, (P0.below hW (by omega)).2.1, (P1.below hW (by omega)).1, (P1.below hW (by omega)).2.1⟩
  go_enter Tryz.func73, Tryz.ntmps73
  go_wp2_with fail
  go_region_held3 (fun W => W.cell? ⟨w.heap.size, 0, none⟩ = some (.bool neg) ∧ W.cell? ⟨w.heap.size, 1, none⟩ = some (.slice A n c) ∧ W.cell? ⟨w.heap.size + 1, 0, none⟩ = some (.bool neg) ∧ W.cell? ⟨w.heap.size + 1, 1, none⟩ = some (.slice A' m d)) (exact HS.out _ (by first | exact Below.refl _ _ | exact (Below.refl _ _).drew | exact Below.drewN' (Below.refl _ _) _ | exact (Below.drewN' (Below.refl _ _) _).drew | exact D1.mono (by omega) | exact D2.mono (by omega) | exact ((D2.mono (by omega)).setCell (by simp) _).setCell (by simp) _))
    (first
      | (go_at_call 111; refine (H1'.out _ (by first | exact HB | exact HB.drew | exact Below.drewN' HB _ | exact (Below.drewN' HB _).drew)).mono ?_; rintro e w1 ⟨zs, ⟨A1, n1, c1, rfl, hl1, hb1⟩, hv1, hn1⟩; have D1 := Below.trans (by first | exact Below.refl _ _ | exact (Below.refl _ _).drew | exact Below.drewN' (Below.refl _ _) _ | exact (Below.drewN' (Below.refl _ _) _).drew : Below (w.heap.size + 1 + 1 + 1) (((w.alloc (.cells #[.bool neg, .slice A n c] 26)).alloc (.cells #[.bool neg, .slice A' m d] 26)).alloc (.cells #[.bool false, .slice none 0 0] 26)) _) (hb1.mono (by simp)); have HV1 := Lib.hid hv1; clear hv1)
      | (go_at_call 57; refine (H2'.out _ _ _ _ _ hl1 hn1 HV1.out).mono ?_; rintro e w2 ⟨neg2, A2, n2, c2, rfl, hi2, hb2⟩; have D2 := D1.trans (hb2.mono (by have := D1.size; simp at this; omega)); obtain ⟨k0, k1, f0, f1, _⟩ := R0.below D2 (by omega)))
  go_wp2
  exact bodyPost_ret (v := .agg #[.bool neg2, .slice A2 n2 c2]) (by simp [results, Tryz.results73, go_sem, k0, k1]) rfl
    (RetInt.stored hi2 (HB.trans (D1.mono (by omega))) (hb2.mono (by omega)) (by omega) k0 k1 rfl rfl)
set_option maxHeartbeats 1000000 in
theorem radd_lt (neg neg' : Bool) (A A' : Option Addr) (n c m d : Nat) (a b : Int) (w : World) (ha : IsInt w neg A n c a) (hb : IsInt w neg' A' m d b) (_hn : n ≤ 100000) (hm : m ≤ 100000) (hne : (neg == neg') = false) (hlt : a.natAbs < b.natAbs) :
    Calls Tryz.prog 73 #[.agg #[.bool neg, .slice A n c], .agg #[.bool neg', .slice A' m d]] w (RetInt w (a + b)) := by
  have H0 := fun W (hW : Below w.heap.size w W) => less_any A A' n c m d _ _ _ _ W (ha.lim.below hW) (hb.lim.below hW)
  rw [lessV_digs, decide_eq_true hlt] at H0
  have hlen : n ≤ m := by
    rw [← hb.lim.len, ← ha.lim.len]
    exact digs_len_mono (by omega)
  have H1 := fun W (hW : Below w.heap.size w W) => minus_any A' A m d n c w.heap.size w.heap.size (digs b.natAbs) (digs a.natAbs) W (hb.lim.below hW) (ha.lim.below hW) hW.size hW.size (by omega) hlen (by rw [val_digs, val_digs]; omega)
  have e1 : zOf neg' (b.natAbs - a.natAbs) = a + b := by
    have h1 := ha.sign
    have h2 := hb.sign
    unfold zOf
    cases neg <;> cases neg' <;> simp at h1 h2 hne ⊢ <;> omega
  have hlen2 : (digs b.natAbs).length ≤ 100000 := by rw [hb.lim.len]; omega
  have H2 := fun A2 n2 c2 zs (W : World) (ha : Lim W W.heap.size A2 n2 c2 zs) (hl : zs.length = m) (hv : val zs = val (digs b.natAbs) - val (digs a.natAbs)) => made_val neg' A2 n2 c2 (b.natAbs - a.natAbs) (a + b) zs W ha (by omega) (by rw [hv, val_digs, val_digs]) e1
  have H0' := Lib.hid H0
  have H1' := Lib.hid H1
  have H2' := Lib.hid H2
  clear H0 H1 H2 e1 hlt hlen hlen2
  obtain ⟨HB, P0, P1, R0⟩ := frame21 w (.bool neg) (.slice A n c) (.bool neg') (.slice A' m d)
  have HS : Hid (∀ W, Below (w.heap.size + 1 + 1) (((w.alloc (.cells #[.bool neg, .slice A n c] 26)).alloc (.cells #[.bool neg', .slice A' m d] 26)).alloc (.cells #[.bool false, .slice none 0 0] 26)) W → W.cell? ⟨w.heap.size, 0, none⟩ = some (.bool neg) ∧ W.cell? ⟨w.heap.size, 1, none⟩ = some (.slice A n c) ∧ W.cell? ⟨w.heap.size + 1, 0, none⟩ = some (.bool neg') ∧ W.cell? ⟨w.heap.size + 1, 1, none⟩ = some (.slice A' m d)) :=
    fun W hW => ⟨(P0.below hW (by omega)).1, (P0.below hW (by omega)).2.1, (P1.below hW (by omega)).1, (P1.below hW (by omega)).2.1⟩
  go_enter Tryz.func73, Tryz.ntmps73
  go_wp2_with fail
  refine (H0'.out _ HB).mono ?_
  rintro e wq ⟨rfl, hdq⟩
  obtain ⟨q, rfl⟩ := hdq
  go_wp2_with fail
  go_region_held3 (fun W => W.cell? ⟨w.heap.size, 0, none⟩ = some (.bool neg) ∧ W.cell? ⟨w.heap.size, 1, none⟩ = some (.slice A n c) ∧ W.cell? ⟨w.heap.size + 1, 0, none⟩ = some (.bool neg') ∧ W.cell? ⟨w.heap.size + 1, 1, none⟩ = some (.slice A' m d)) (exact HS.out _ (by first | exact Below.refl _ _ | exact (Below.refl _ _).drew | exact Below.drewN' (Below.refl _ _) _ | exact (Below.drewN' (Below.refl _ _) _).drew | exact D1.mono (by omega) | exact D2.mono (by omega) | exact ((D2.mono (by omega)).setCell (by simp) _).setCell (by simp) _))
    (first
      | (go_at_call 112; refine (H1'.out _ (by first | exact HB | exact HB.drew | exact Below.drewN' HB _ | exact (Below.drewN' HB _).drew)).mono ?_; rintro e w1 ⟨zs, ⟨A1, n1, c1, rfl, hl1, hb1⟩, hv1, hn1⟩; have D1 := Below.trans (by first | exact Below.refl _ _ | exact (Below.refl _ _).drew | exact Below.drewN' (Below.refl _ _) _ | exact (Below.drewN' (Below.refl _ _) _).drew : Below (w.heap.size + 1 + 1 + 1) (((w.alloc (.cells #[.bool neg, .slice A n c] 26)).alloc (.cells #[.bool neg', .slice A' m d] 26)).alloc (.cells #[.bool false, .slice none 0 0] 26)) _) (hb1.mono (by simp)); have HV1 := Lib.hid hv1; clear hv1)
      | (go_at_call 57; refine (H2'.out _ _ _ _ _ hl1 hn1 HV1.out).mono ?_; rintro e w2 ⟨neg2, A2, n2, c2, rfl, hi2, hb2⟩; have D2 := D1.trans (hb2.mono (by have := D1.size; simp at this; omega)); obtain ⟨k0, k1, f0, f1, _⟩ := R0.below D2 (by omega)))
  go_wp2
  exact bodyPost_ret (v := .agg #[.bool neg2, .slice A2 n2 c2]) (by simp [results, Tryz.results73, go_sem, k0, k1]) rfl
    (RetInt.stored hi2 (HB.trans (D1.mono (by omega))) (hb2.mono (by omega)) (by omega) k0 k1 rfl rfl)
set_option maxHeartbeats 1000000 in
theorem radd_ge (neg neg' : Bool) (A A' : Option Addr) (n c m d : Nat) (a b : Int) (w : World) (ha : IsInt w neg A n c a) (hb : IsInt w neg' A' m d b) (hn : n ≤ 100000) (_hm : m ≤ 100000) (hne : (neg == neg') = false) (hlt : ¬ a.natAbs < b.natAbs) :
    Calls Tryz.prog 73 #[.agg #[.bool neg, .slice A n c], .agg #[.bool neg', .slice A' m d]] w (RetInt w (a + b)) := by
  have H0 := fun W (hW : Below w.heap.size w W) => less_any A A' n c m d _ _ _ _ W (ha.lim.below hW) (hb.lim.below hW)
  rw [lessV_digs, decide_eq_false hlt] at H0
  have hlen : m ≤ n := by
    rw [← ha.lim.len, ← hb.lim.len]
    exact digs_len_mono (by omega)
  have H1 := fun W (hW : Below w.heap.size w W) => minus_any A A' n c m d w.heap.size w.heap.size (digs a.natAbs) (digs b.natAbs) W (ha.lim.below hW) (hb.lim.below hW) hW.size hW.size (by omega) hlen (by rw [val_digs, val_digs]; omega)
  have e1 : zOf neg (a.natAbs - b.natAbs) = a + b := by
    have h1 := ha.sign
    have h2 := hb.sign
    unfold zOf
    cases neg <;> cases neg' <;> simp at h1 h2 hne ⊢ <;> omega
  have hlen2 : (digs a.natAbs).length ≤ 100000 := by rw [ha.lim.len]; omega
  have H2 := fun A2 n2 c2 zs (W : World) (ha : Lim W W.heap.size A2 n2 c2 zs) (hl : zs.length = n) (hv : val zs = val (digs a.natAbs) - val (digs b.natAbs)) => made_val neg A2 n2 c2 (a.natAbs - b.natAbs) (a + b) zs W ha (by omega) (by rw [hv, val_digs, val_digs]) e1
  have H0' := Lib.hid H0
  have H1' := Lib.hid H1
  have H2' := Lib.hid H2
  clear H0 H1 H2 e1 hlt hlen hlen2
  obtain ⟨HB, P0, P1, R0⟩ := frame21 w (.bool neg) (.slice A n c) (.bool neg') (.slice A' m d)
  have HS : Hid (∀ W, Below (w.heap.size + 1 + 1) (((w.alloc (.cells #[.bool neg, .slice A n c] 26)).alloc (.cells #[.bool neg', .slice A' m d] 26)).alloc (.cells #[.bool false, .slice none 0 0] 26)) W → W.cell? ⟨w.heap.size, 0, none⟩ = some (.bool neg) ∧ W.cell? ⟨w.heap.size, 1, none⟩ = some (.slice A n c) ∧ W.cell? ⟨w.heap.size + 1, 0, none⟩ = some (.bool neg') ∧ W.cell? ⟨w.heap.size + 1, 1, none⟩ = some (.slice A' m d)) :=
    fun W hW => ⟨(P0.below hW (by omega)).1, (P0.below hW (by omega)).2.1, (P1.below hW (by omega)).1, (P1.below hW (by omega)).2.1⟩
  go_enter Tryz.func73, Tryz.ntmps73
  go_wp2_with fail
  refine (H0'.out _ HB).mono ?_
  rintro e wq ⟨rfl, hdq⟩
  obtain ⟨q, rfl⟩ := hdq
  go_wp2_with fail
  go_region_held3 (fun W => W.cell? ⟨w.heap.size, 0, none⟩ = some (.bool neg) ∧ W.cell? ⟨w.heap.size, 1, none⟩ = some (.slice A n c) ∧ W.cell? ⟨w.heap.size + 1, 0, none⟩ = some (.bool neg') ∧ W.cell? ⟨w.heap.size + 1, 1, none⟩ = some (.slice A' m d)) (exact HS.out _ (by first | exact Below.refl _ _ | exact (Below.refl _ _).drew | exact Below.drewN' (Below.refl _ _) _ | exact (Below.drewN' (Below.refl _ _) _).drew | exact D1.mono (by omega) | exact D2.mono (by omega) | exact ((D2.mono (by omega)).setCell (by simp) _).setCell (by simp) _))
    (first
      | (go_at_call 112; refine (H1'.out _ (by first | exact HB | exact HB.drew | exact Below.drewN' HB _ | exact (Below.drewN' HB _).drew)).mono ?_; rintro e w1 ⟨zs, ⟨A1, n1, c1, rfl, hl1, hb1⟩, hv1, hn1⟩; have D1 := Below.trans (by first | exact Below.refl _ _ | exact (Below.refl _ _).drew | exact Below.drewN' (Below.refl _ _) _ | exact (Below.drewN' (Below.refl _ _) _).drew : Below (w.heap.size + 1 + 1 + 1) (((w.alloc (.cells #[.bool neg, .slice A n c] 26)).alloc (.cells #[.bool neg', .slice A' m d] 26)).alloc (.cells #[.bool false, .slice none 0 0] 26)) _) (hb1.mono (by simp)); have HV1 := Lib.hid hv1; clear hv1)
      | (go_at_call 57; refine (H2'.out _ _ _ _ _ hl1 hn1 HV1.out).mono ?_; rintro e w2 ⟨neg2, A2, n2, c2, rfl, hi2, hb2⟩; have D2 := D1.trans (hb2.mono (by have := D1.size; simp at this; omega)); obtain ⟨k0, k1, f0, f1, _⟩ := R0.below D2 (by omega)))
  go_wp2
  exact bodyPost_ret (v := .agg #[.bool neg2, .slice A2 n2 c2]) (by simp [results, Tryz.results73, go_sem, k0, k1]) rfl
    (RetInt.stored hi2 (HB.trans (D1.mono (by omega))) (hb2.mono (by omega)) (by omega) k0 k1 rfl rfl)
theorem radd_any (neg neg' : Bool) (A A' : Option Addr) (n c m d : Nat) (a b : Int) (w : World) (ha : IsInt w neg A n c a) (hb : IsInt w neg' A' m d b) (hn : n ≤ 100000) (hm : m ≤ 100000) :
    Calls Tryz.prog 73 #[.agg #[.bool neg, .slice A n c], .agg #[.bool neg', .slice A' m d]] w (RetInt w (a + b)) := by
  cases h : (neg == neg')
  · by_cases hlt : a.natAbs < b.natAbs
    · exact radd_lt neg neg' A A' n c m d a b w ha hb hn hm h hlt
    · exact radd_ge neg neg' A A' n c m d a b w ha hb hn hm h hlt
  · obtain rfl : neg = neg' := by simpa using h
    exact radd_same neg A A' n c m d a b w ha hb hn hm
end Go.Proofs.YtlpoboikompjfaaGreatDoor
namespace Go.Proofs.YtlpoboikompjfaaGreatDoor
open Go.RowKit
end Go.Proofs.YtlpoboikompjfaaGreatDoor
namespace Go.Proofs.YtlpoboikompjfaaGreatDoor
open Go.RowKit
/-- A way through a region: i alone comes up (one); i is taken first (take); i or m comes up (two). -/
inductive Way where
  | done
  | one (i : Nat) (t : Way)
  | take (i : Nat) (t : Way)
  | two (i : Nat) (t : Way) (m : Nat) (u : Way)
/-- (i, true): taken first; (i, false): alone. -/
def Way.pre : List (Nat × Bool) → Way → Way
  | [], t => t
  | (i, true) :: l, t => .take i (Way.pre l t)
  | (i, false) :: l, t => .one i (Way.pre l t)
def wpSeqH (P : Program) (ops : Array Oper) (Q : Exit → Act → World → Prop) (S : World → Prop) : Way → Act → World → Prop
  | .done, a, w => Q .normal a w
  | .one i t, a, w => wpOp P ops Q i (fun a' w' => S w' ∧ (S w' → wpSeqH P ops Q S t a' w')) a w
  | .take i t, a, w => ∃ o v, ops[i]? = some o ∧ YieldsIf P ops S o v a ∧ wpSeqH P ops Q S t (a.put o.dst v) w
  | .two i t m u, a, w => wpOp P ops Q i (fun a' w' => S w' ∧ (S w' → wpSeqH P ops Q S t a' w')) a w ∧ wpOp P ops Q m (fun a' w' => S w' ∧ (S w' → wpSeqH P ops Q S u a' w')) a w
def Way.len : Way → Nat
  | .done => 0
  | .one _ t => t.len + 1
  | .take _ t => t.len + 1
  | .two _ t _ _ => t.len + 1
def chkSeq (ops : Array Oper) : Way → Array Bool → Bool
  | .done, listed => (Region.ready .any ops listed).isEmpty
  | .one i t, listed => decide (Region.ready .any ops listed = [i]) && chkSeq ops t (listed.setIfInBounds i true)
  | .take i t, listed => (Region.ready .any ops listed).contains i && Region.free .any ops listed i && chkSeq ops t (listed.setIfInBounds i true)
  | .two i t m u, listed => decide (Region.ready .any ops listed = [i, m]) && decide (t.len = u.len) && chkSeq ops t (listed.setIfInBounds i true) && chkSeq ops u (listed.setIfInBounds m true)
theorem wpAnyH_seq {P : Program} {ops : Array Oper} {Q : Exit → Act → World → Prop} {S : World → Prop} (hs : Region.noSelect ops = true) (hQ : ∀ (c : _) (a : Act) (d : Option Tmp) (v : Value) (w : World), Q (.panic c) (a.put d v) w → Q (.panic c) a w) :
    ∀ (l : Way) (listed : Array Bool) (a : Act) (w : World), chkSeq ops l listed = true → S w → wpSeqH P ops Q S l a w → wpAnyH P .any ops Q S l.len listed a w
  | .done, listed, a, w, hc, _, h => wpAnyH_done (by simpa [chkSeq] using hc) h _
  | .one i l, listed, a, w, hc, hS, h => by
    simp only [chkSeq, Bool.and_eq_true, decide_eq_true_eq] at hc
    refine wpAnyH_all hc.1 (by simp) fun j hj => ?_
    obtain rfl : j = i := by simpa using hj
    exact wpOp_mono (fun a' w' h' => ⟨h'.1, wpAnyH_seq hs hQ l _ _ _ hc.2 h'.1 (h'.2 h'.1)⟩) h
  | .take i l, listed, a, w, hc, hS, h => by
    simp only [chkSeq, Bool.and_eq_true] at hc
    obtain ⟨o, v, ho, hy, h⟩ := h
    exact wpAnyH_take ho hs hc.1.2 hc.1.1 (fun c a w => hQ c a _ _ w) hy hS (wpAnyH_seq hs hQ l _ _ _ hc.2 hS h)
  | .two i l m u, listed, a, w, hc, hS, h => by
    simp only [chkSeq, Bool.and_eq_true, decide_eq_true_eq] at hc
    obtain ⟨⟨⟨hr, hl⟩, hc1⟩, hc2⟩ := hc
    refine wpAnyH_all hr (by simp) fun j hj => ?_
    have hj' : j = i ∨ j = m := by simpa using hj
    rcases hj' with rfl | rfl
    · exact wpOp_mono (fun a' w' h' => ⟨h'.1, wpAnyH_seq hs hQ l _ _ _ hc1 h'.1 (h'.2 h'.1)⟩) h.1
    · rw [hl]
      exact wpOp_mono (fun a' w' h' => ⟨h'.1, wpAnyH_seq hs hQ u _ _ _ hc2 h'.1 (h'.2 h'.1)⟩) h.2
theorem wp_region_seq {P : Program} {ops : Array Oper} {id : Nat} {Q : Exit → Act → World → Prop} {a : Act} {w : World} (l : Way) (S : World → Prop) (hm : P.follows .mixedOrders = true) (hs : Region.noSelect ops = true)
    (hc : chkSeq ops l (Array.replicate ops.size false) = true) (hl : l.len = ops.size) (hS : S w.drew) (h : wpSeqH P ops (NoPanic Q) S l a w.drew) : (Code.region id ops true).wp P Q a w := by
  refine wp_region_noPanic (wp_region_held_drew (S := S) hm hS fun _ => ?_)
  have := wpAnyH_seq hs (fun c a d v w h => (h : False).elim) l _ a w.drew hc hS h
  rwa [hl] at this
/-- The step of an operation that is taken first. (The operations as a list: so that the one at hand is found written out.) -/
theorem seq_take {P : Program} {L : List Oper} {Q : Exit → Act → World → Prop} {S : World → Prop} {i : Nat} {l : Way} {a : Act} {w : World} (o : Oper) (v : Value) (ho : L[i]? = some o) (hy : YieldsIf P L.toArray S o v a)
    (h : wpSeqH P L.toArray Q S l (a.put o.dst v) w) : wpSeqH P L.toArray Q S (.take i l) a w := ⟨o, v, by simpa using ho, hy, h⟩
/-- The step of a single operation: S is shown anew behind it. -/
theorem seq_one {P : Program} {L : List Oper} {Q : Exit → Act → World → Prop} {S : World → Prop} {i : Nat} {l : Way} {a : Act} {w : World} (o : Oper) (ho : L[i]? = some o)
    (h : ∀ K : Act → World → Prop, Shut (∀ a w, S w → (S w → wpSeqH P L.toArray Q S l a w) → K a w) → if Region.wanted o (yielded L.toArray a.tmps) = true then Oper.wp P o a w K Q else K (a.put o.dst undef) w) :
    wpSeqH P L.toArray Q S (.one i l) a w :=
  wpOp_step (o := o) (by simpa using ho) fun K hK => h K fun a w hS hW => hK a w ⟨hS, hW⟩
/-- The step of a pair. -/
theorem seq_two {P : Program} {L : List Oper} {Q : Exit → Act → World → Prop} {S : World → Prop} {i m : Nat} {l u : Way} {a : Act} {w : World}
    (h1 : wpSeqH P L.toArray Q S (.one i l) a w) (h2 : wpSeqH P L.toArray Q S (.one m u) a w) : wpSeqH P L.toArray Q S (.two i l m u) a w := ⟨h1, h2⟩
/-- The check in pieces. -/
def chkPre (ops : Array Oper) : List (Nat × Bool) → Array Bool → Bool
  | [], _ => true
  | (i, true) :: l, listed => (Region.ready .any ops listed).contains i && Region.free .any ops listed i && chkPre ops l (listed.setIfInBounds i true)
  | (i, false) :: l, listed => decide (Region.ready .any ops listed = [i]) && chkPre ops l (listed.setIfInBounds i true)
def aft : List (Nat × Bool) → Array Bool → Array Bool
  | [], listed => listed
  | (i, _) :: l, listed => aft l (listed.setIfInBounds i true)
theorem chk_pre {ops : Array Oper} : ∀ (l : List (Nat × Bool)) (t : Way) (listed : Array Bool), chkPre ops l listed = true → chkSeq ops t (aft l listed) = true → chkSeq ops (.pre l t) listed = true
  | [], _, _, _, h => h
  | (i, true) :: l, t, listed, h1, h2 => by
    simp only [chkPre, Bool.and_eq_true] at h1
    simp only [Way.pre, chkSeq, Bool.and_eq_true]
    exact ⟨h1.1, chk_pre l t _ h1.2 h2⟩
  | (i, false) :: l, t, listed, h1, h2 => by
    simp only [chkPre, Bool.and_eq_true] at h1
    simp only [Way.pre, chkSeq, Bool.and_eq_true]
    exact ⟨h1.1, chk_pre l t _ h1.2 h2⟩
theorem chk_two {ops : Array Oper} (i : Nat) (t : Way) (m : Nat) (u : Way) (listed : Array Bool) (h : (decide (Region.ready .any ops listed = [i, m]) && decide (t.len = u.len)) = true) (h1 : chkSeq ops t (listed.setIfInBounds i true) = true) (h2 : chkSeq ops u (listed.setIfInBounds m true) = true) :
    chkSeq ops (.two i t m u) listed = true := by
  simp only [chkSeq, Bool.and_eq_true] at h ⊢
  exact ⟨⟨h, h1⟩, h2⟩
/-- A region's operations, taken out of a function. -/
def opsOf : Code → List Oper
  | .region _ ops _ => ops.toList
  | _ => []
end Go.Proofs.YtlpoboikompjfaaGreatDoor
namespace Go.Proofs.YtlpoboikompjfaaGreatDoor
/-- What holds of the rows (g, s, t) and (r, s', t') for the numbers a and b. -/
structure ExtInv (a b g r : Nat) (s s' t t' : Int) : Prop where
  e1 : s * a + t * b = g
  e2 : s' * a + t' * b = r
  a1 : s'.natAbs * g + s.natAbs * r = b
  a2 : t'.natAbs * g + t.natAbs * r = a
  g1 : (0 ≤ s ∧ s' ≤ 0) ∨ (s ≤ 0 ∧ 0 ≤ s')
  g2 : (0 ≤ t ∧ t' ≤ 0) ∨ (t ≤ 0 ∧ 0 ≤ t')
  o1 : s.natAbs ≤ 1 ∨ 2 * s.natAbs ≤ s'.natAbs ∨ (s.natAbs ≤ s'.natAbs ∧ r ≠ 0)
  o2 : t.natAbs ≤ 1 ∨ 2 * t.natAbs ≤ t'.natAbs ∨ (t.natAbs ≤ t'.natAbs ∧ r ≠ 0)
  lt : r < g ∨ (s'.natAbs ≤ 1 ∧ t'.natAbs ≤ 1)
  gc : Nat.gcd g r = Nat.gcd a b
theorem ExtInv.start (a b : Nat) : ExtInv a b a b 1 0 0 1 :=
  ⟨by omega, by omega, by simp, by simp, .inl ⟨by omega, by omega⟩, .inr ⟨by omega, by omega⟩, .inl (by decide), .inl (by decide), .inr ⟨by decide, by decide⟩, rfl⟩
theorem natAbs_step {s s' : Int} (q : Nat) (h : (0 ≤ s ∧ s' ≤ 0) ∨ (s ≤ 0 ∧ 0 ≤ s')) :
    (s - q * s').natAbs = s.natAbs + q * s'.natAbs ∧ ((0 ≤ s' ∧ s - q * s' ≤ 0) ∨ (s' ≤ 0 ∧ 0 ≤ s - q * s')) := by
  rcases h with ⟨h1, h2⟩ | ⟨h1, h2⟩
  · obtain ⟨x, rfl⟩ := Int.eq_ofNat_of_zero_le h1
    obtain ⟨y, hy⟩ := Int.eq_ofNat_of_zero_le (show 0 ≤ -s' by omega)
    obtain rfl : s' = -(y : Int) := by omega
    have e : (x : Int) - q * -(y : Int) = ((x + q * y : Nat) : Int) := by rw [Int.mul_neg, Int.natCast_add, Int.natCast_mul]; omega
    rw [e]
    refine ⟨by rw [Int.natAbs_natCast, Int.natAbs_natCast, Int.natAbs_neg, Int.natAbs_natCast], .inr ⟨by omega, by omega⟩⟩
  · obtain ⟨y, rfl⟩ := Int.eq_ofNat_of_zero_le h2
    obtain ⟨x, hx⟩ := Int.eq_ofNat_of_zero_le (show 0 ≤ -s by omega)
    obtain rfl : s = -(x : Int) := by omega
    have e : -(x : Int) - q * (y : Int) = -((x + q * y : Nat) : Int) := by rw [Int.natCast_add, Int.natCast_mul]; omega
    rw [e]
    refine ⟨by rw [Int.natAbs_neg, Int.natAbs_natCast, Int.natAbs_neg, Int.natAbs_natCast, Int.natAbs_natCast], .inl ⟨by omega, by omega⟩⟩
theorem ord_step {x y z q r2 : Nat} (hz : z = x + q * y) (h0 : q = 0 → y ≤ 1) (h1 : q = 1 → r2 = 0 → y ≤ 1) : y ≤ 1 ∨ 2 * y ≤ z ∨ (y ≤ z ∧ r2 ≠ 0) := by
  rcases Nat.lt_or_ge q 2 with h | h
  · rcases Nat.eq_zero_or_pos q with e | e
    · exact .inl (h0 e)
    · have e : q = 1 := by omega
      subst e
      by_cases hr : r2 = 0
      · exact .inl (h1 rfl hr)
      · exact .inr (.inr ⟨by omega, hr⟩)
  · have : 2 * y ≤ q * y := Nat.mul_le_mul_right y h
    exact .inr (.inl (by omega))
theorem ExtInv.step {a b g r : Nat} {s s' t t' : Int} (h : ExtInv a b g r s s' t t') (hr : 0 < r) :
    ExtInv a b r (g % r) s' (s - (g / r : Nat) * s') t' (t - (g / r : Nat) * t') := by
  have hd := Nat.div_add_mod g r
  have hm := Nat.mod_lt g hr
  obtain ⟨n1, k1⟩ := natAbs_step (g / r) h.g1
  obtain ⟨n2, k2⟩ := natAbs_step (g / r) h.g2
  have q0 : g / r = 0 → s'.natAbs ≤ 1 ∧ t'.natAbs ≤ 1 := fun e => by
    rcases h.lt with l | l
    · exfalso
      have : 0 < g / r := Nat.div_pos (Nat.le_of_lt l) hr
      omega
    · exact l
  have q1 : g / r = 1 → g % r = 0 → s'.natAbs ≤ 1 ∧ t'.natAbs ≤ 1 := fun e1 e2 => by
    rw [e1, e2] at hd
    rcases h.lt with l | l
    · omega
    · exact l
  have hgc : Nat.gcd r (g % r) = Nat.gcd a b := by rw [← h.gc, Nat.gcd_comm g r, Nat.gcd_rec r g, Nat.gcd_comm]
  have hdi : (g : Int) = (r : Int) * ((g / r : Nat) : Int) + ((g % r : Nat) : Int) := by exact_mod_cast hd.symm
  generalize g / r = q at *
  generalize g % r = r2 at *
  refine ⟨h.e2, ?_, ?_, ?_, ?_, ?_, ord_step n1 (fun e => (q0 e).1) (fun e1 e2 => (q1 e1 e2).1), ord_step n2 (fun e => (q0 e).2) (fun e1 e2 => (q1 e1 e2).2), .inl hm, hgc⟩
  · have e1 := h.e1
    have e2 := h.e2
    have : (s - (q : Int) * s') * a + (t - (q : Int) * t') * b = (s * a + t * b) - q * (s' * a + t' * b) := by
      rw [Int.sub_mul, Int.sub_mul, Int.mul_add, Int.mul_assoc, Int.mul_assoc]; omega
    rw [this, e1, e2, hdi, Int.mul_comm (r : Int)]; omega
  · rw [n1, Nat.add_mul]
    have := h.a1
    rw [← hd, Nat.mul_add] at this
    rw [Nat.mul_comm q, Nat.mul_assoc, Nat.mul_comm q r]
    omega
  · rw [n2, Nat.add_mul]
    have := h.a2
    rw [← hd, Nat.mul_add] at this
    rw [Nat.mul_comm q, Nat.mul_assoc, Nat.mul_comm q r]
    omega
  · exact k1
  · exact k2
end Go.Proofs.YtlpoboikompjfaaGreatDoor
namespace Go.Proofs.YtlpoboikompjfaaGreatDoor
open Go.RowKit
def byt (xs : List Nat) : List Value := xs.map fun (x : Nat) => Value.int .u8 (x : Int)
theorem byt_len (xs : List Nat) : (byt xs).length = xs.length := by simp [byt]
theorem byt_get (xs : List Nat) (k : Nat) (h : k < xs.length) : (byt xs)[k]? = some (.int .u8 ((xs.getD k 0 : Nat) : Int)) := by
  simp [byt, List.getD_eq_getElem?_getD, List.getElem?_eq_getElem h]
theorem byt_one (xs : List Nat) : ∀ u ∈ byt xs, u.oneCell' = true := by
  intro u hu
  simp only [byt, List.mem_map] at hu
  obtain ⟨x, _, rfl⟩ := hu
  rfl
/-- A block that holds just these bytes. -/
def RowB (w : World) (g : Nat) (t : TypeId) (xs : List Nat) : Prop := w.heap[g]? = some (.cells (byt xs).toArray t (0, 0))
section
variable {w w' : World} {g : Nat} {t : TypeId} {xs : List Nat}
theorem RowB.lt (h : RowB w g t xs) : g < w.heap.size := (Array.getElem?_eq_some_iff.1 h).1
theorem RowB.cell (h : RowB w g t xs) {k : Nat} (hk : k < xs.length) : w.cell? ⟨g, k, none⟩ = some (.int .u8 ((xs.getD k 0 : Nat) : Int)) := by
  rw [cell_of_row w g k _ _ _ h, List.getElem?_toArray, byt_get xs k hk]
theorem RowB.frozen (h : RowB w g t xs) (i : Nat) : w.frozen? ⟨g, i, none⟩ = false := by
  unfold RowB at h
  simp [World.frozen?, h]
theorem RowB.below {B : Nat} (h : RowB w g t xs) (hb : Below B w w') (hg : g < B) : RowB w' g t xs := (hb.block g hg).trans h
theorem RowB.alloc (h : RowB w g t xs) (o : Obj) : RowB (w.alloc o) g t xs := (Below.heap_alloc w o g h.lt).trans h
theorem RowB.drewN (h : RowB w g t xs) (n : Nat) : RowB (w.drewN n) g t xs := h
theorem RowB.drew (h : RowB w g t xs) : RowB w.drew g t xs := h
theorem RowB.far (h : RowB w g t xs) {p : Addr} (hp : g ≠ p.block) (u : Value) : RowB (w.setCell p u) g t xs := (Below.heap_setCell w p u g hp).trans h
theorem RowB.set (h : RowB w g t xs) (k x : Nat) : RowB (w.setCell ⟨g, k, none⟩ (.int .u8 (x : Int))) g t (xs.set k x) := by
  unfold RowB at h ⊢
  simp [World.setCell, Array.getElem?_modify, h, byt, List.map_set]
end
/-- The last j decimal digits of n, as characters. -/
def low : Nat → Nat → List Nat
  | 0, _ => []
  | j + 1, n => (48 + n / 10 ^ j % 10) :: low j n
theorem low_len (j n : Nat) : (low j n).length = j := by induction j with
  | zero => rfl
  | succ j ih => simp [low, ih]
theorem low_set (j k n : Nat) : (List.replicate (k + 1) 0 ++ low j n).set k (48 + n / 10 ^ j % 10) = List.replicate k 0 ++ low (j + 1) n := by
  rw [List.replicate_succ', List.append_assoc, List.set_append_right _ _ (by simp)]
  simp [low]
set_option maxHeartbeats 2000000 in
theorem groupText_any (n : Nat) (w : World) (hn : n < 4294967296) :
    Calls Tryz.prog 139 #[.int .u32 (n : Int)] w fun e w' => e = .returned (.agg (byt (low 9 n)).toArray) ∧ Below w.heap.size w w' := by
  go_enter Tryz.func139, Tryz.ntmps139
  go_wp2
  go_loopw [0, 4] (fun v i wr => ∃ (j k m : Nat) (bs : List Nat), j + k = 9 ∧ i = .int .i64 ((k : Int) - 1) ∧ v = .int .u32 m ∧ m < 4294967296 ∧ Hid (m = n / 10 ^ j) ∧ RowB wr (w.heap.size + 1) 148 bs ∧ Hid (bs = List.replicate k 0 ++ low j n) ∧ RowB wr w.heap.size 148 (List.replicate 9 0) ∧ Below w.heap.size w wr) (fun _ i _ => ((intOf i) + 1).toNat)
  case atStart =>
    refine ⟨0, 9, n, List.replicate 9 0, rfl, rfl, rfl, hn, by simp [Hid], ?_, by simp [Hid, low], ?_, ((Below.refl _ _).alloc (Nat.le_refl _) _).alloc (by simp) _⟩
    · have := heap_alloc_new (w.alloc (.cells #[.int .u8 0, .int .u8 0, .int .u8 0, .int .u8 0, .int .u8 0, .int .u8 0, .int .u8 0, .int .u8 0, .int .u8 0] 148)) (.cells #[.int .u8 0, .int .u8 0, .int .u8 0, .int .u8 0, .int .u8 0, .int .u8 0, .int .u8 0, .int .u8 0, .int .u8 0] 148)
      rw [World.size_alloc] at this
      exact this
    · exact RowB.alloc (xs := List.replicate 9 0) (heap_alloc_new w (.cells #[.int .u8 0, .int .u8 0, .int .u8 0, .int .u8 0, .int .u8 0, .int .u8 0, .int .u8 0, .int .u8 0, .int .u8 0] 148)) _
  case round =>
    obtain ⟨j, k, m, bs, hjk, rfl, rfl, hm, hmn, hR, hbs, hR0, hbel⟩ := hrel
    rcases Nat.eq_zero_or_pos k with rfl | hk
    · obtain rfl : j = 9 := by omega
      obtain ⟨a0, a1, a2, a3, a4, a5, a6, a7, a8, hb⟩ : ∃ a0 a1 a2 a3 a4 a5 a6 a7 a8, low 9 n = [a0, a1, a2, a3, a4, a5, a6, a7, a8] := ⟨_, _, _, _, _, _, _, _, _, rfl⟩
      obtain rfl : bs = [a0, a1, a2, a3, a4, a5, a6, a7, a8] := by rw [hbs.out, hb]; rfl
      have c0 := hR.cell (k := 0) (by simp)
      have z0 := hR0.cell (k := 0) (by simp)
      have f0 := hR0.frozen 0
      have c1 := hR.cell (k := 1) (by simp)
      have z1 := hR0.cell (k := 1) (by simp)
      have f1 := hR0.frozen 1
      have c2 := hR.cell (k := 2) (by simp)
      have z2 := hR0.cell (k := 2) (by simp)
      have f2 := hR0.frozen 2
      have c3 := hR.cell (k := 3) (by simp)
      have z3 := hR0.cell (k := 3) (by simp)
      have f3 := hR0.frozen 3
      have c4 := hR.cell (k := 4) (by simp)
      have z4 := hR0.cell (k := 4) (by simp)
      have f4 := hR0.frozen 4
      have c5 := hR.cell (k := 5) (by simp)
      have z5 := hR0.cell (k := 5) (by simp)
      have f5 := hR0.frozen 5
      have c6 := hR.cell (k := 6) (by simp)
      have z6 := hR0.cell (k := 6) (by simp)
      have f6 := hR0.frozen 6
      have c7 := hR.cell (k := 7) (by simp)
      have z7 := hR0.cell (k := 7) (by simp)
      have f7 := hR0.frozen 7
      have c8 := hR.cell (k := 8) (by simp)
      have z8 := hR0.cell (k := 8) (by simp)
      have f8 := hR0.frozen 8
      simp only [List.getD_cons_zero, List.getD_cons_succ] at c0 c1 c2 c3 c4 c5 c6 c7 c8
      simp [List.replicate] at z0 z1 z2 z3 z4 z5 z6 z7 z8
      have HB := Lib.hid hb
      clear hb hbs
      go_wp2
      refine bodyPost_ret (v := .agg #[.int .u8 (a0 : Int), .int .u8 (a1 : Int), .int .u8 (a2 : Int), .int .u8 (a3 : Int), .int .u8 (a4 : Int), .int .u8 (a5 : Int), .int .u8 (a6 : Int), .int .u8 (a7 : Int), .int .u8 (a8 : Int)]) (by simp [results, Tryz.results139, go_sem, z0, z1, z2, z3, z4, z5, z6, z7, z8]) rfl ⟨by rw [HB.out]; rfl, (((((((((hbel.setCell (by simp) _).setCell (by simp) _).setCell (by simp) _).setCell (by simp) _).setCell (by simp) _).setCell (by simp) _).setCell (by simp) _).setCell (by simp) _).setCell (by simp) _)⟩
    · obtain ⟨k, rfl⟩ : ∃ q, k = q + 1 := ⟨k - 1, by omega⟩
      have hlen : bs.length = 9 := by rw [hbs.out]; simp [low_len]; omega
      have hc := hR.cell (k := k) (by omega)
      have hf := hR.frozen k
      go_wp2
      have e1 : ((48 + m % 10 : Nat) : Int) = 48 + (m : Int) % 10 := by omega
      have e2 : ((m / 10 : Nat) : Int) = (m : Int) / 10 := by omega
      rw [← e1, ← e2]
      refine ⟨⟨j + 1, k, m / 10, bs.set k (48 + m % 10), by omega, rfl, rfl, by omega, ?_, hR.set k _, ?_, hR0.far (by simp) _, hbel.setCell (by simp) _⟩, by simp [intOf] <;> omega⟩
      · rw [Hid, hmn.out, Nat.div_div_eq_div_mul, Nat.pow_succ]
      · rw [Hid, hbs.out, hmn.out, low_set]
end Go.Proofs.YtlpoboikompjfaaGreatDoor
namespace Go.Proofs.YtlpoboikompjfaaGreatDoor
open Go.RowKit
theorem infoB : (Tryz.prog.info? 5).map (fun i => (i.zero, i.size, i.bytes)) = some (some (.int .u8 0), 1, 1) := by kernel_rfl
theorem make_u8 (n : Nat) (h : n ≤ 2000002) (W : World) : (Instr.makeSlice 119 (.int .i64 (n : Int)) (.int .i64 (n : Int))).run Tryz.prog W =
    .ok (.slice (some ⟨W.heap.size, 0, none⟩) n n) (W.alloc (.cells (madeCells #[.int .u8 0] n) 5)) := by
  obtain ⟨i0, hi, hz0, hz1, hz2⟩ := info_parts infoB
  have := run_make (P := Tryz.prog) W 119 5 i0 _ Tryz.underlying119 hi hz0 .i64 .i64 (n : Int) (n : Int) (by omega) (by omega) (by rw [hz2]; omega) (by omega)
  rw [hz1, Nat.mul_one, Int.toNat_natCast] at this
  exact this
theorem RowB.made (w : World) (n : Nat) : RowB (w.alloc (.cells (madeCells #[.int .u8 0] n) 5)) w.heap.size 5 (List.replicate n 0) := by
  unfold RowB
  rw [heap_alloc_new]
  congr 2
  rw [← Array.toList_inj, toList_madeCells_one]
  simp [byt]
theorem Row.pre {w : World} {g : Nat} {xs tl : List Nat} (h : Row w g (xs ++ tl)) (hl : Limbs xs) (c : Nat) (hc : xs.length ≤ c) (hc' : c ≤ 9223372036854775807) : Lim w w.heap.size (some ⟨g, 0, none⟩) xs.length c xs :=
  ⟨⟨hc, hc'⟩, rfl, hl, fun _ => ⟨_, rfl, h.lt, fun k hk => by
    rw [Addr.add_lit, Nat.zero_add]
    have := h.cell (k := k) (by rw [List.length_append]; omega)
    rwa [getD_left _ _ hk] at this⟩⟩
/-- The number that a row of characters stands for. -/
def decN (l : List Nat) : Nat := l.foldl (fun a c => 10 * a + (c - 48)) 0
theorem decN_from (l : List Nat) : ∀ a : Nat, l.foldl (fun a c => 10 * a + (c - 48)) a = a * 10 ^ l.length + decN l := by
  induction l with
  | nil => intro a; simp [decN]
  | cons x l ih =>
    intro a
    have h1 := ih (10 * a + (x - 48))
    have h2 := ih (10 * 0 + (x - 48))
    have h3 : decN (x :: l) = l.foldl (fun a c => 10 * a + (c - 48)) (10 * 0 + (x - 48)) := rfl
    rw [List.foldl_cons, h1, h3, h2, List.length_cons, Nat.pow_succ, Nat.add_mul, Nat.mul_zero, Nat.zero_add, Nat.mul_comm 10 a, Nat.mul_assoc, Nat.mul_comm 10, Nat.add_assoc]
theorem decN_append (l m : List Nat) : decN (l ++ m) = decN l * 10 ^ m.length + decN m := by
  rw [decN, List.foldl_append]
  exact decN_from m _
theorem decN_cons (x : Nat) (l : List Nat) : decN (x :: l) = (x - 48) * 10 ^ l.length + decN l := by
  have := decN_append [x] l
  simpa [decN] using this
theorem decN_low (n : Nat) : ∀ j, decN (low j n) = n % 10 ^ j
  | 0 => by simp [low, decN, Nat.mod_one]
  | j + 1 => by
    rw [low, decN_cons, low_len, decN_low n j, Nat.add_sub_cancel_left, Nat.pow_succ, Nat.mod_mul, Nat.mul_comm (10 ^ j), Nat.add_comm]
theorem low_dig (n : Nat) : ∀ j, ∀ b ∈ low j n, 48 ≤ b ∧ b ≤ 57
  | 0 => by simp [low]
  | j + 1 => by
    intro b hb
    rw [low, List.mem_cons] at hb
    rcases hb with rfl | hb
    · omega
    · exact low_dig n j b hb
theorem digs_room {u v n l : Nat} (hu : 0 < u) (hv : u * 10 ^ l ≤ v) (hn : (digs v).length = n) : l < 10 * n := by
  have h1 : v < 4294967296 ^ n := by rw [← hn]; exact lt_digs_len v
  have h2 : 4294967296 ^ n ≤ (10 ^ 10) ^ n := Nat.pow_le_pow_left (by decide) n
  rw [← Nat.pow_mul] at h2
  have h3 : 10 ^ l ≤ u * 10 ^ l := Nat.le_mul_of_pos_left _ hu
  exact (Nat.pow_lt_pow_iff_right (by decide : 1 < 10)).1 (by omega : 10 ^ l < 10 ^ (10 * n))
/-- A slice of characters comes back that stand for v. -/
def RetBytes (w : World) (v : Nat) (e : Ending) (w' : World) : Prop := ∃ g off L cap pad bs, e = .returned (.slice (some ⟨g, off, none⟩) L cap) ∧ RowB w' g 5 (pad ++ bs) ∧ pad.length = off ∧ bs.length = L ∧ (∀ b ∈ bs, 48 ≤ b ∧ b ≤ 57) ∧ decN bs = v ∧ L ≤ cap ∧ L ≤ 200000 ∧ Below w.heap.size w w'
set_option maxHeartbeats 4000000 in
theorem groups_any (A : Option Addr) (n c B v : Nat) (w : World) (ha : Lim w B A n c (digs v)) (hB : B ≤ w.heap.size) (hn : n ≤ 10000) (hv0 : 0 < v) :
    Calls Tryz.prog 116 #[.slice A n c] w (RetBytes w v) := by
  have HV0 := Lib.hid hv0
  clear hv0
  have hmk : ∀ W : World, (Instr.makeSlice 22 (.int .i64 (n : Int)) (.int .i64 (n : Int))).run Tryz.prog W =
    .ok (.slice (some ⟨W.heap.size, 0, none⟩) n n) (W.alloc (.cells (madeCells #[.int .u32 0] n) 84)) := fun W => make_u32 n (by omega) W
  have hmb : ∀ W : World, (Instr.makeSlice 119 (.int .i64 (10 * (n : Int) + 9)) (.int .i64 (10 * (n : Int) + 9))).run Tryz.prog W =
    .ok (.slice (some ⟨W.heap.size, 0, none⟩) (10 * n + 9) (10 * n + 9)) (W.alloc (.cells (madeCells #[.int .u8 0] (10 * n + 9)) 5)) := fun W => make_u8 (10 * n + 9) (by omega) W
  have hln := ha.len
  have HL := Lib.hid hln
  clear hln
  have R1 := Row.made w n
  obtain ⟨W1, hW1⟩ : ∃ W1, W1 = w.alloc (.cells (madeCells #[.int .u32 0] n) 84) := ⟨_, rfl⟩
  have B1 : Below w.heap.size w W1 := by rw [hW1]; exact (Below.refl _ _).alloc (Nat.le_refl _) _
  rw [← hW1] at R1
  have ha1 := ha.below (B1.mono hB)
  go_enter Tryz.func116, Tryz.ntmps116
  go_wp2_with (with_reducible refine wpList_copy_splice rfl (.tmp 10) (.tmp 11) 22 22 rfl 84 Tryz.underlying22 (by kernel_rfl) (some ⟨w.heap.size, 0, none⟩) A n n n c rfl rfl w.heap.size 0 (ints (List.replicate n 0)) 84 ?hg (ints (digs v)) ?hnn ?hpos ?hfit ?h1 w.heap.size w ?hb ?hBg ?h)
  case hg => rw [← hW1]; exact R1
  case hnn => rw [ints_len, HL.out]; exact (Nat.min_self n).symm
  case hpos =>
    intro h0
    rw [ints_len, HL.out] at h0
    obtain ⟨ad, rfl, _, hc⟩ := ha1.rd h0
    refine ⟨ad, rfl, fun j u hu => ?_⟩
    rcases Nat.lt_or_ge j n with hj | hj
    · rw [← hW1, hc j hj, ← hu, ints_get _ j (by rw [HL.out]; exact hj)]
    · rw [List.getElem?_eq_none (by rw [ints_len, HL.out]; exact hj)] at hu
      cases hu
  case hBg => exact Nat.le_refl _
  case hfit => rw [ints_len, ints_len, HL.out, List.length_replicate, Nat.zero_add]; exact Nat.le_refl _
  case h1 => exact ints_one _
  case hb => rw [← hW1]; exact B1
  case h =>
    intro W2 hg2 B2
    have R2 : Row W2 w.heap.size (digs v ++ []) := by
      have := hg2.out
      rw [splice, List.take_zero, List.nil_append, List.drop_of_length_le (by rw [ints_len, ints_len, HL.out, List.length_replicate]; omega), List.append_nil] at this
      rw [List.append_nil]; exact this
    have hlt := R2.lt
    have B3 := B2.alloc B2.size (.cells (madeCells #[.int .u8 0] (10 * n + 9)) 5)
    have R3 := R2.alloc (.cells (madeCells #[.int .u8 0] (10 * n + 9)) 5)
    have Q3 := RowB.made W2 (10 * n + 9)
    clear hg2 hW1 R1 B1 ha1 R2 B2
    go_wp2
    go_loopw [3, 5] (fun s3 s5 wr => ∃ (u m cc st : Nat) (tl pad bs : List Nat), s3 = .slice (some ⟨w.heap.size, 0, none⟩) m cc ∧ s5 = .int .i64 st ∧ Hid (m = (digs u).length) ∧ m ≤ n ∧ m ≤ cc ∧ cc ≤ 10000 ∧ Row wr w.heap.size (digs u ++ tl) ∧ RowB wr W2.heap.size 5 (pad ++ bs) ∧ Hid (pad.length = st) ∧ Hid (st + bs.length = 10 * n + 9) ∧ Hid (∀ b ∈ bs, 48 ≤ b ∧ b ≤ 57) ∧ Hid (v = u * 10 ^ bs.length + decN bs) ∧ Below w.heap.size w wr) (fun _ s _ => (intOf s).toNat)
    case atStart => exact ⟨v, n, n, 10 * n + 9, [], List.replicate (10 * n + 9) 0, [], rfl, by simp, HL.out.symm, Nat.le_refl _, Nat.le_refl _, hn, R3, by rw [List.append_nil]; exact Q3, by simp [Hid], by simp [Hid], by simp [Hid], by simp [Hid, decN], B3⟩
    case round =>
      obtain ⟨u, m, cc, st, tl, pad, bs, rfl, rfl, hm, hmn, hmc, hcc, hR, hQ, hpad, hst, hdg, hv, hbel⟩ := hrel
      rcases Nat.eq_zero_or_pos m with rfl | hm0
      · have hu : u = 0 := by
          have := hm.out
          exact digs_len_zero.1 this.symm
        have hsl : st ≤ 10 * n + 9 := by have := hst.out; omega
        have hst2 : bs.length = 10 * n + 9 - st := by have := hst.out; omega
        have hv2 := hv.out
        rw [hu, Nat.zero_mul, Nat.zero_add] at hv2
        have hst3 : st < 10 * n + 9 := by
          rcases Nat.lt_or_ge st (10 * n + 9) with h | h
          · exact h
          · have h2 : bs = [] := List.eq_nil_of_length_eq_zero (by omega)
            rw [h2] at hv2
            have := HV0.out
            rw [hv2] at this
            exact absurd this (by decide)
        have HS := Lib.hid hst2
        have HV2 := Lib.hid hv2
        clear hst2 hv2 hu
        go_wp2
        go_ret
        exact ⟨_, _, _, _, pad, bs, rfl, hQ, hpad.out, HS.out, hdg.out, HV2.out.symm, Nat.le_refl _, by omega, hbel⟩
      · have hu : 0 < u := by
          rcases Nat.eq_zero_or_pos u with h | h
          · have := hm.out
            rw [h, digs_zero] at this
            simp at this
            omega
          · exact h
        have hroom := digs_room (l := bs.length) hu (by have := hv.out; omega) HL.out
        have hst9 : 9 ≤ st ∧ st ≤ 10 * n + 9 := by have := hst.out; omega
        have HD := Lib.hid (divIn_any w.heap.size m cc 1000000000 (digs u) tl wr hR (limbs_digs u) hm.out.symm hmc (by omega) (by decide) (by decide))
        simp only [val_digs] at HD
        have hr := Nat.mod_lt u (show 0 < 1000000000 by decide)
        have hdm := Nat.div_add_mod u 1000000000
        have HQR : Hid (∃ q r, q = u / 1000000000 ∧ r = u % 1000000000) := ⟨_, _, rfl, rfl⟩
        go_wp2_with fail
        refine HD.out.mono ?_
        rintro e w4 ⟨ys, rfl, hR4, hL4, hl4, hv4, hg4⟩
        obtain ⟨r, hre⟩ : ∃ r, r = u % 1000000000 := ⟨_, rfl⟩
        obtain ⟨q, hqe⟩ : ∃ q, q = u / 1000000000 := ⟨_, rfl⟩
        rw [← hre] at hr hdm ⊢
        rw [← hqe] at hv4 hdm
        have HL4 := Lib.hid hl4
        have HV4 := Lib.hid hv4
        have HRE := Lib.hid hre
        have HDM := Lib.hid hdm
        clear hre hqe hdm hl4 hv4 HQR HD
        have hbel4 : Below w.heap.size w w4 := hbel.grown hg4 hbel.size (fun j hj => by cases hj; exact Nat.le_refl _)
        have hQ4 : RowB w4 W2.heap.size 5 (pad ++ bs) := (hg4.block _ hQ.lt (by intro h; have := Option.some.inj h; omega)).trans hQ
        have HG := Lib.hid (fun W => groupText_any r W (by omega))
        obtain ⟨a0, a1, a2, a3, a4, a5, a6, a7, a8, hb⟩ : ∃ a0 a1 a2 a3 a4 a5 a6 a7 a8, low 9 r = [a0, a1, a2, a3, a4, a5, a6, a7, a8] := ⟨_, _, _, _, _, _, _, _, _, rfl⟩
        have hG2 := HG.out
        rw [hb] at hG2
        have HG2 := Lib.hid hG2
        have HB := Lib.hid hb
        clear hG2 hb HG
        go_wp2_with fail
        refine (HG2.out _).mono ?_
        rintro e w5 ⟨rfl, hb5⟩
        have hbel5 := hbel4.trans (hb5.mono hbel4.size)
        have hR5 := hR4.below hb5 hR4.lt
        have hQ5 := hQ4.below hb5 hQ4.lt
        have hsz5 := hQ5.lt
        simp only [byt, List.map_cons, List.map_nil]
        obtain ⟨W6, hW6⟩ : ∃ W6, W6 = w5.alloc (.cells #[.int .u8 (a0 : Int), .int .u8 (a1 : Int), .int .u8 (a2 : Int), .int .u8 (a3 : Int), .int .u8 (a4 : Int), .int .u8 (a5 : Int), .int .u8 (a6 : Int), .int .u8 (a7 : Int), .int .u8 (a8 : Int)] 148) := ⟨_, rfl⟩
        have hbel6 : Below w.heap.size w W6 := by rw [hW6]; exact hbel5.alloc hbel5.size _
        have hR6 : Row W6 w.heap.size (ys ++ tl) := by rw [hW6]; exact hR5.alloc _
        have hQ6 : RowB W6 W2.heap.size 5 (pad ++ bs) := by rw [hW6]; exact hQ5.alloc _
        have hG6 : RowB W6 w5.heap.size 148 [a0, a1, a2, a3, a4, a5, a6, a7, a8] := by rw [hW6]; exact heap_alloc_new w5 _
        have hT := trim_any (some ⟨w.heap.size, 0, none⟩) m cc W6.heap.size ys W6 (by have := hR6.pre hL4 cc (by rw [HL4.out]; exact hmc) (by omega); rwa [HL4.out] at this)
        rw [HV4.out] at hT
        have HT := Lib.hid hT
        have hBlt := B3.size
        have hG9 : ∀ j u, (byt [a0, a1, a2, a3, a4, a5, a6, a7, a8])[j]? = some u → W6.cell? ((⟨w5.heap.size, 0, none⟩ : Addr).add j) = some u := by
          intro j u hu
          rcases Nat.lt_or_ge j 9 with h | h
          · rw [byt_get [a0, a1, a2, a3, a4, a5, a6, a7, a8] j h] at hu
            have := hG6.cell (k := j) h
            rw [Addr.add_lit, Nat.zero_add, this]; exact hu
          · rw [List.getElem?_eq_none (by rw [byt_len]; exact h)] at hu
            cases hu
        have HG9 := Lib.hid hG9
        obtain ⟨st, rfl⟩ : ∃ s, st = s + 9 := ⟨st - 9, by omega⟩
        have hs9 : 9 ≤ 10 * n + 9 - st := by omega
        have hfit : st + 9 ≤ pad.length + bs.length := by have := hpad.out; have := hst.out; omega
        have HF := Lib.hid hfit
        have HW6 := Lib.hid hW6
        clear hT hG9 hfit hW6
        go_wp2_with fail
        rw [← HW6.out]
        refine HT.out.mono ?_
        rintro e w6 ⟨rfl, rfl⟩
        have hle : (st : Int) ≤ 10 * n + 9 := by omega
        have hne : ¬ (10 * n + 9 = st) := by omega
        go_wp2_with fail
        go_region_law (refine step_copy_splice rfl (.tmp 32) (.tmp 33) 119 119 rfl 5 Tryz.underlying119 (by kernel_rfl) (some ⟨W2.heap.size, st, none⟩) (some ⟨w5.heap.size, 0, none⟩) (10 * n + 9 - st) (10 * n + 9 - st) 9 9 (by simp [Act.eval, Act.put]) (by simp [Act.eval, Act.put]) W2.heap.size st (byt (pad ++ bs)) 5 hQ6 (byt [a0, a1, a2, a3, a4, a5, a6, a7, a8]) (by rw [byt_len]; exact (Nat.min_eq_left hs9).symm) (fun _ => ⟨rfl, _, rfl, HG9.out⟩) (by rw [byt_len, byt_len, List.length_append]; exact HF.out) (byt_one _) W2.heap.size W6 (by first | exact Below.refl _ _ | exact Below.drewN' (Below.refl _ _) _ | exact (Below.refl _ _).drew) (Nat.le_refl _) ?_; intro w7 hg7 hb7)
        all_goals (
          have hbel7 : Below w.heap.size w w7 := hbel6.trans (hb7.mono (Nat.le_of_lt hlt))
          have hR7 : Row w7 w.heap.size (digs q ++ (ys.drop (digs q).length ++ tl)) := by
            have e := digs_eq_take hL4
            rw [HV4.out] at e
            have e2 : digs q ++ (ys.drop (digs q).length ++ tl) = ys ++ tl := by
              rw [← List.append_assoc]
              conv => lhs; arg 1; arg 1; rw [e]
              rw [List.take_append_drop]
            rw [e2]
            exact hR6.below hb7 hlt
          have hQ7 : RowB w7 W2.heap.size 5 (pad.take st ++ ([a0, a1, a2, a3, a4, a5, a6, a7, a8] ++ bs)) := by
            have h1 := hg7.out
            have h2 := hpad.out
            have e1 : splice (byt (pad ++ bs)) st (byt [a0, a1, a2, a3, a4, a5, a6, a7, a8]) = byt (pad.take st ++ ([a0, a1, a2, a3, a4, a5, a6, a7, a8] ++ bs)) := by
              rw [splice, byt_len, byt, byt, byt, ← List.map_take, ← List.map_drop, List.map_append, List.map_append, List.take_append_of_le_length (by omega), List.drop_append_of_le_length (by simp; omega), List.drop_of_length_le (by simp; omega), List.nil_append]
            rw [e1] at h1
            exact h1
          go_wp2
          have hmq : (digs q).length ≤ m := by
            have := digs_len_val hL4
            rwa [HV4.out, HL4.out] at this
          refine ⟨⟨q, (digs q).length, (digs q).length, st, ys.drop (digs q).length ++ tl, pad.take st, [a0, a1, a2, a3, a4, a5, a6, a7, a8] ++ bs, rfl, rfl, rfl, by omega, Nat.le_refl _, by omega, hR7, hQ7, ?_, ?_, ?_, ?_, hbel7⟩, by simp [intOf] <;> omega⟩
          · have := hpad.out
            rw [Hid, List.length_take]; omega
          · have := hst.out
            rw [Hid, List.length_append]; simp only [List.length_cons, List.length_nil]; omega
          · intro b hb
            rcases List.mem_append.1 hb with h | h
            · exact low_dig r 9 b (by rw [HB.out]; exact h)
            · exact hdg.out b h
          · have h1 := decN_low r 9
            rw [Nat.mod_eq_of_lt hr, HB.out] at h1
            have h2 : ([a0, a1, a2, a3, a4, a5, a6, a7, a8] ++ bs).length = 9 + bs.length := by rw [List.length_append]; rfl
            rw [Hid, decN_append, h1, h2, Nat.pow_add, ← Nat.add_assoc, ← Nat.mul_assoc, ← Nat.add_mul, hv.out, show q * 10 ^ 9 + r = u by have := HDM.out; omega])
end Go.Proofs.YtlpoboikompjfaaGreatDoor
namespace Go.Proofs.YtlpoboikompjfaaGreatDoor
open Go.Shelf
def lays161_ren : Go.Shelf.Ren := ⟨fun | 161 => 115 | 231 => 135 | 227 => 136 | 233 => 137 | 235 => 138 | 228 => 152 | 197 => 153 | 151 => 154 | 260 => 161 | 152 => 162 | 137 => 163 | 119 => 164 | 224 => 165 | 225 => 166 | 217 => 167 | 266 => 168 | n => n, fun | 9 => 9 | 4 => 4 | 3 => 3 | 5 => 5 | 117 => 144 | 116 => 143 | 0 => 0 | 124 => 147 | 105 => 163 | 21 => 21 | 119 => 172 | 46 => 85 | 139 => 175 | 138 => 174 | n => n, fun | 3 => 2 | 4 => 3 | n => n⟩
theorem lays161 : Go.Proofs.Lays.n161 Tryz.prog lays161_ren := {
  mixed := by kernel_rfl
  f119 := Tryz.func164.trans (congrArg some (by kernel_rfl))
  f137 := Tryz.func163.trans (congrArg some (by kernel_rfl))
  f151 := Tryz.func154.trans (congrArg some (by kernel_rfl))
  f152 := Tryz.func162.trans (congrArg some (by kernel_rfl))
  f161 := Tryz.func115.trans (congrArg some (by kernel_rfl))
  f197 := Tryz.func153.trans (congrArg some (by kernel_rfl))
  f217 := Tryz.func167.trans (congrArg some (by kernel_rfl))
  f224 := Tryz.func165.trans (congrArg some (by kernel_rfl))
  f225 := Tryz.func166.trans (congrArg some (by kernel_rfl))
  f227 := Tryz.func136.trans (congrArg some (by kernel_rfl))
  f228 := Tryz.func152.trans (congrArg some (by kernel_rfl))
  f231 := Tryz.func135.trans (congrArg some (by kernel_rfl))
  f233 := Tryz.func137.trans (congrArg some (by kernel_rfl))
  f235 := Tryz.func138.trans (congrArg some (by kernel_rfl))
  f260 := Tryz.func161.trans (congrArg some (by kernel_rfl))
  f266 := Tryz.func168.trans (congrArg some (by kernel_rfl))
  t0 := Tryz.underlying0
  a0 := Tryz.isAgg0
  z0 := Tryz.sizeOf0
  v0 := Tryz.zeroValue0
  t3 := Tryz.underlying3
  a3 := Tryz.isAgg3
  z3 := Tryz.sizeOf3
  v3 := Tryz.zeroValue3
  t4 := Tryz.underlying4
  a4 := Tryz.isAgg4
  z4 := Tryz.sizeOf4
  v4 := Tryz.zeroValue4
  t5 := Tryz.underlying5
  a5 := Tryz.isAgg5
  z5 := Tryz.sizeOf5
  v5 := Tryz.zeroValue5
  t9 := Tryz.underlying9
  a9 := Tryz.isAgg9
  z9 := Tryz.sizeOf9
  v9 := Tryz.zeroValue9
  t21 := Tryz.underlying21
  a21 := Tryz.isAgg21
  z21 := Tryz.sizeOf21
  v21 := Tryz.zeroValue21
  t46 := Tryz.underlying85
  a46 := Tryz.isAgg85
  z46 := Tryz.sizeOf85
  v46 := Tryz.zeroValue85
  t105 := Tryz.underlying163
  a105 := Tryz.isAgg163
  z105 := Tryz.sizeOf163
  v105 := Tryz.zeroValue163
  t116 := Tryz.underlying143
  a116 := Tryz.isAgg143
  z116 := Tryz.sizeOf143
  t117 := Tryz.underlying144
  a117 := Tryz.isAgg144
  z117 := Tryz.sizeOf144
  v117 := Tryz.zeroValue144
  t119 := Tryz.underlying172
  a119 := Tryz.isAgg172
  z119 := Tryz.sizeOf172
  t124 := Tryz.underlying147
  a124 := Tryz.isAgg147
  z124 := Tryz.sizeOf147
  v124 := Tryz.zeroValue147
  t138 := Tryz.underlying174
  a138 := Tryz.isAgg174
  z138 := Tryz.sizeOf174
  v138 := Tryz.zeroValue174
  t139 := Tryz.underlying175
  a139 := Tryz.isAgg175
  z139 := Tryz.sizeOf175
  v139 := Tryz.zeroValue175
  g3 := by kernel_rfl
  g4 := by kernel_rfl }
open Go.RowKit in
theorem strings_TrimLeft_one (s : ByteArray) (c : UInt8) (hc : c.toNat < 128) (w : World) :
    Calls Tryz.prog 115 #[.string s, .string ⟨#[c]⟩] w fun e w' => e = .returned (.string ⟨(Lib.trimLeftB s.data.toList c).toArray⟩) ∧ w' = w := Any.strings_TrimLeft_one lays161 s c hc w
end Go.Proofs.YtlpoboikompjfaaGreatDoor
namespace Go.Proofs.YtlpoboikompjfaaGreatDoor
open Go.RowKit
/-- The struct at block g: as it was (not yet written), or holding the integer z. -/
def BlkF (w : World) (g : Nat) (a0 a1 : Value) (st : Bool) (z : Int) : Prop := (st = false → Slot2 w g a0 a1) ∧ (st = true → IntAt w g z)
theorem BlkF.below {w w' : World} {g : Nat} {a0 a1 : Value} {st : Bool} {z : Int} (h : BlkF w g a0 a1 st z) (hb : Below w.heap.size w w') : BlkF w' g a0 a1 st z := ⟨fun e => (h.1 e).after hb, fun e => (h.2 e).after hb⟩
theorem BlkF.start {w : World} {g : Nat} {a0 a1 : Value} {z : Int} (h : Slot2 w g a0 a1) : BlkF w g a0 a1 false z := ⟨fun _ => h, (fun e => by cases e)⟩
theorem BlkF.far2 {w : World} {g : Nat} {a0 a1 : Value} {st : Bool} {z : Int} (h : BlkF w g a0 a1 st z) {g' : Nat} (hne : g ≠ g') {b0 b1 : Value} (hs : Slot2 w g' b0 b1) (n0 : noLimb b0 = true) (n1 : noLimb b1 = true) (u0 u1 : Value) : BlkF ((w.setCell ⟨g', 0, none⟩ u0).setCell ⟨g', 1, none⟩ u1) g a0 a1 st z :=
  ⟨fun e => (h.1 e).far2 hne u0 u1, fun e => (h.2 e).far2 hne hs n0 n1 u0 u1⟩
theorem BlkF.near {w : World} {g : Nat} {a0 a1 : Value} {z : Int} {neg : Bool} {A : Option Addr} {n c : Nat} (hi : IsInt w neg A n c z) (hs : Slot2 w g a0 a1) (n0 : noLimb a0 = true) (n1 : noLimb a1 = true) : BlkF ((w.setCell ⟨g, 0, none⟩ (.bool neg)).setCell ⟨g, 1, none⟩ (.slice A n c)) g a0 a1 true z :=
  ⟨(fun e => by cases e), fun _ => IntAt.near2 hi hs n0 n1⟩
/-- The same, where the struct holds an integer from the start. -/
def BlkI (w : World) (g : Nat) (neg : Bool) (A : Option Addr) (n c : Nat) (z0 : Int) (st : Bool) (z : Int) : Prop := (st = false → Slot2 w g (.bool neg) (.slice A n c) ∧ IsInt w neg A n c z0) ∧ (st = true → IntAt w g z)
section
variable {w w' : World} {g : Nat} {neg : Bool} {A : Option Addr} {n c : Nat} {z0 z : Int} {st : Bool}
theorem BlkI.below (h : BlkI w g neg A n c z0 st z) (hb : Below w.heap.size w w') : BlkI w' g neg A n c z0 st z := ⟨fun e => ⟨(h.1 e).1.after hb, (h.1 e).2.below hb⟩, fun e => (h.2 e).after hb⟩
theorem BlkI.start (h : Slot2 w g (.bool neg) (.slice A n c)) (hi : IsInt w neg A n c z0) : BlkI w.drew g neg A n c z0 false z := ⟨fun _ => ⟨h.drew, hi.below (Below.refl _ _).drew⟩, (fun e => by cases e)⟩
theorem BlkI.far2 (h : BlkI w g neg A n c z0 st z) {g' : Nat} (hne : g ≠ g') {b0 b1 : Value} (hs : Slot2 w g' b0 b1) (n0 : noLimb b0 = true) (n1 : noLimb b1 = true) (u0 u1 : Value) : BlkI ((w.setCell ⟨g', 0, none⟩ u0).setCell ⟨g', 1, none⟩ u1) g neg A n c z0 st z :=
  ⟨fun e => ⟨(h.1 e).1.far2 hne u0 u1, (h.1 e).2.set2 hs n0 n1 u0 u1⟩, fun e => (h.2 e).far2 hne hs n0 n1 u0 u1⟩
theorem BlkI.near {neg' : Bool} {A' : Option Addr} {n' c' : Nat} (hi : IsInt w neg' A' n' c' z) (hs : Slot2 w g (.bool neg) (.slice A n c)) : BlkI ((w.setCell ⟨g, 0, none⟩ (.bool neg')).setCell ⟨g, 1, none⟩ (.slice A' n' c')) g neg A n c z0 true z :=
  ⟨(fun e => by cases e), fun _ => IntAt.near2 hi hs rfl rfl⟩
theorem BlkI.at_ (h : BlkI w g neg A n c z0 false z) : IntAt w g z0 := ⟨neg, A, n, c, (h.1 rfl).1, (h.1 rfl).2⟩
end
end Go.Proofs.YtlpoboikompjfaaGreatDoor
namespace Go.Proofs.YtlpoboikompjfaaGreatDoor
/-- What Cmp returns. -/
def cq (a b : Rat) : Int := if a < b then -1 else if b < a then 1 else 0
theorem lt_asy {a b : Rat} (h : a < b) : ¬ b < a := fun h2 => by
  have := Rat.lt_iff a b |>.1 h
  have := Rat.lt_iff b a |>.1 h2
  omega
theorem eq_of {a b : Rat} (h1 : ¬ a < b) (h2 : ¬ b < a) : a = b := Rat.le_antisymm (Rat.not_lt.1 h2) (Rat.not_lt.1 h1)
theorem cq_neg (a b : Rat) : cq a b = -cq b a := by
  unfold cq
  by_cases h1 : a < b
  · rw [if_pos h1, if_neg (lt_asy h1), if_pos h1]
  · by_cases h2 : b < a
    · rw [if_neg h1, if_pos h2, if_pos h2]; rfl
    · rw [if_neg h1, if_neg h2, if_neg h2, if_neg h1]; rfl
theorem cq_zero (a b : Rat) : cq a b = 0 ↔ a = b := by
  unfold cq
  constructor
  · intro h
    by_cases h1 : a < b
    · rw [if_pos h1] at h; omega
    · by_cases h2 : b < a
      · rw [if_neg h1, if_pos h2] at h; omega
      · exact eq_of h1 h2
  · rintro rfl
    rw [if_neg Rat.lt_irrefl, if_neg Rat.lt_irrefl]
theorem cq_pos (a b : Rat) : 0 < cq a b ↔ b < a := by
  unfold cq
  by_cases h1 : a < b
  · rw [if_pos h1]; exact ⟨fun h => by omega, fun h => absurd h (lt_asy h1)⟩
  · by_cases h2 : b < a
    · rw [if_neg h1, if_pos h2]; exact ⟨fun _ => h2, fun _ => by omega⟩
    · rw [if_neg h1, if_neg h2]; exact ⟨fun h => by omega, fun h => absurd h h2⟩
theorem cq_chain (a b c : Rat) : 0 < cq a b ∨ 0 < cq b c ∨ cq a c ≤ 0 := by
  by_cases h1 : 0 < cq a b
  · exact .inl h1
  · by_cases h2 : 0 < cq b c
    · exact .inr (.inl h2)
    · refine .inr (.inr ?_)
      rw [cq_pos] at h1 h2
      have h3 : ¬ c < a := Rat.not_lt.2 (Rat.le_trans (Rat.not_lt.1 h1) (Rat.not_lt.1 h2))
      rw [← cq_pos a c] at h3
      omega
theorem cq_add (a b c : Rat) : cq (a + c) (b + c) = cq a b := by
  unfold cq; simp only [Rat.add_lt_add_right]
theorem cq_mul (a b c : Rat) (hc : 0 < c) : cq (a * c) (b * c) = cq a b := by
  unfold cq; simp only [Rat.mul_lt_mul_right hc]
theorem num_pos {a : Rat} : 0 < a.num ↔ 0 < a := by
  rw [Rat.lt_iff]; simp
theorem num_neg {a : Rat} : a.num < 0 ↔ a < 0 := by
  rw [Rat.lt_iff]; simp
theorem cq_sub (a b : Rat) : (if (a - b).num < 0 then -1 else if 0 < (a - b).num then 1 else 0 : Int) = cq a b := by
  unfold cq
  have h1 : (a - b).num < 0 ↔ a < b := by
    rw [num_neg, ← Rat.neg_lt_neg_iff, Rat.neg_zero, Rat.neg_sub, ← Rat.lt_iff_sub_pos]
  have h2 : 0 < (a - b).num ↔ b < a := by rw [num_pos, ← Rat.lt_iff_sub_pos]
  by_cases h3 : a < b
  · rw [if_pos (h1.2 h3), if_pos h3]
  · rw [if_neg (mt h1.1 h3), if_neg h3]
    by_cases h4 : b < a
    · rw [if_pos (h2.2 h4), if_pos h4]
    · rw [if_neg (mt h2.1 h4), if_neg h4]
/-- What Cmp compares. -/
theorem cq_of (a b : Rat) : (if a.num * b.den < b.num * a.den then -1 else if b.num * a.den < a.num * b.den then 1 else 0 : Int) = cq a b := by
  unfold cq; simp only [Rat.lt_iff]
/-- The distances of floor and nearest integer. -/
theorem fl_low (a : Rat) : 0 ≤ a - (a.floor : Rat) ∧ a - (a.floor : Rat) < 1 := by
  constructor
  · exact (Rat.le_iff_sub_nonneg _ _).1 (Rat.floor_le a)
  · rw [Rat.sub_lt_iff, Rat.add_comm]
    have := Rat.lt_floor_add_one a
    rwa [Rat.intCast_add] at this
theorem fl_int (a : Rat) : a - (a.floor : Rat) = 0 ↔ a.den = 1 := by
  constructor
  · intro h
    have h2 : a = (a.floor : Rat) := by
      have := Rat.sub_add_cancel (a := a) (b := (a.floor : Rat))
      rw [h, Rat.zero_add] at this
      exact this.symm
    rw [h2]; rfl
  · intro h
    have h2 : a = ((a.num : Int) : Rat) := Rat.ext rfl (by rw [h]; rfl)
    rw [h2, Rat.floor_intCast, Rat.sub_self]


theorem hf : (Rat.divInt 1 2) + (Rat.divInt 1 2) = 1 := by decide +kernel
theorem hn : Rat.divInt (-1) 2 = -(Rat.divInt 1 2) := by decide +kernel
/-- The nearest integer: its distance. -/
theorem rd_off (a : Rat) : Rat.divInt (-1) 2 < ((a + Rat.divInt 1 2).floor : Rat) - a ∧ ((a + Rat.divInt 1 2).floor : Rat) - a ≤ Rat.divInt 1 2 := by
  have h1 := Rat.floor_le (a + Rat.divInt 1 2)
  have h2 := Rat.lt_floor_add_one (a + Rat.divInt 1 2)
  rw [Rat.intCast_add] at h2
  generalize (a + Rat.divInt 1 2).floor = F at *
  have hh := hf
  rw [hn]
  generalize Rat.divInt 1 2 = H at *
  constructor
  · rw [Rat.lt_sub_right_iff_add_lt]
    have h3 : a + H - 1 < (F : Rat) := (Rat.sub_lt_iff).2 h2
    have h4 : a + H - 1 = -H + a := by
      rw [← hh, Rat.sub_eq_add_neg, Rat.neg_add, Rat.add_assoc, ← Rat.add_assoc H, Rat.add_neg_cancel, Rat.zero_add, Rat.add_comm]
    rwa [h4] at h3
  · rw [Rat.sub_right_le_iff_le_add, Rat.add_comm]; exact h1
theorem rd_int (a : Rat) : ((a + Rat.divInt 1 2).floor : Rat) - a = 0 ↔ a.den = 1 := by
  constructor
  · intro h
    have h2 : a = ((a + Rat.divInt 1 2).floor : Rat) := by
      have := Rat.sub_add_cancel (a := ((a + Rat.divInt 1 2).floor : Rat)) (b := a)
      rw [h, Rat.zero_add] at this
      exact this
    rw [h2]; rfl
  · intro h
    have h2 : a = ((a.num : Int) : Rat) := Rat.ext rfl (by rw [h]; rfl)
    have h3 : (a + Rat.divInt 1 2).floor = a.num := by
      rw [h2, Rat.add_comm, Rat.floor_add_intCast]
      have : (Rat.divInt 1 2).floor = 0 := by decide +kernel
      rw [this]; simp
    rw [h3, ← h2, Rat.sub_self]
end Go.Proofs.YtlpoboikompjfaaGreatDoor
