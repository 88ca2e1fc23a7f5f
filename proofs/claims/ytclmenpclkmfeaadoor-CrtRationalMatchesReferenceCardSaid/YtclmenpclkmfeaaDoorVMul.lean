/- Contracts of integer.product and integer.Mul. -/
import Derived.Test.YtclmenpclkmfeaaDoorVG2Prod
import Derived.Test.YtclmenpclkmfeaaDoorVG0Words
namespace Go.Proofs.YtclmenpclkmfeaaDoor
open Go.RowKit
theorem prod_any (A A' : Option Addr) (n c m d B B' : Nat) (xs ys : List Nat) (w : World) (ha : Lim w B A n c xs) (hb : Lim w B' A' m d ys) (hB : B ≤ w.heap.size) (hB' : B' ≤ w.heap.size) (hn : n ≤ 1000000) (hm : m ≤ 1000000) :
    Calls Tryd.prog 93 #[.slice A n c, .slice A' m d] w fun e w' => ∃ zs, RetSl w zs e w' ∧ val zs = val xs * val ys ∧ zs.length ≤ n + m := by
  rcases Nat.eq_zero_or_pos n with h0 | h0
  · subst h0
    have hx : xs = [] := List.eq_nil_of_length_eq_zero ha.len
    subst hx
    go_enter Tryd.func93, Tryd.ntmps93
    go_wp2
    go_ret
    exact ⟨[], ⟨none, 0, 0, rfl, Lim.none_ (by omega), Below.refl _ _⟩, by simp [val], by simp⟩
  · rcases Nat.eq_zero_or_pos m with h1 | h1
    · subst h1
      have hy : ys = [] := List.eq_nil_of_length_eq_zero hb.len
      subst hy
      have b1 : ((n : Int) == 0) = false := by simp; omega
      go_enter Tryd.func93, Tryd.ntmps93
      go_wp2
      go_ret
      exact ⟨[], ⟨none, 0, 0, rfl, Lim.none_ (by omega), Below.refl _ _⟩, by simp [val], by simp⟩
    · refine (prod_pos A A' n c m d B B' xs ys w ha hb hB hB' hn hm h0 h1).mono ?_
      rintro e w' ⟨zs, h1, h2, h3⟩
      exact ⟨zs, h1, h2, by omega⟩
theorem trim_digs (A : Option Addr) (n c B v : Nat) (w : World) (ha : Lim w B A n c (digs v)) :
    Calls Tryd.prog 80 #[.slice A n c] w fun e w' => e = .returned (.slice A n n) ∧ w = w' := by
  have := trim_any A n c B (digs v) w ha
  rw [val_digs, ha.len] at this
  exact this
theorem Lim.tight {w : World} {B n c : Nat} {A : Option Addr} {xs : List Nat} (h : Lim w B A n c xs) : Lim w B A n n xs := ⟨⟨Nat.le_refl _, by have := h.cap; omega⟩, h.len, h.lt, h.rd⟩
def ProdRes (v : Nat) (w : World) (e : Ending) (w' : World) : Prop := ∃ zs, RetSl w zs e w' ∧ val zs = v
theorem mul_z (neg neg' : Bool) (a b : Int) (h : neg = decide (a < 0)) (h' : neg' = decide (b < 0)) : zOf (neg != neg') (a.natAbs * b.natAbs) = a * b := by
  subst h h'
  unfold zOf
  have e : ((a.natAbs * b.natAbs : Nat) : Int) = (a.natAbs : Int) * (b.natAbs : Int) := Int.natCast_mul _ _
  rw [e]
  by_cases h1 : a < 0 <;> by_cases h2 : b < 0 <;> simp [h1, h2]
  · rw [show ((a.natAbs : Nat) : Int) = -a by omega, show ((b.natAbs : Nat) : Int) = -b by omega, Int.neg_mul_neg]
  · rw [show ((a.natAbs : Nat) : Int) = -a by omega, show ((b.natAbs : Nat) : Int) = b by omega, Int.neg_mul, Int.neg_neg]
  · rw [show ((a.natAbs : Nat) : Int) = a by omega, show ((b.natAbs : Nat) : Int) = -b by omega, Int.mul_neg, Int.neg_neg]
  · rw [show ((a.natAbs : Nat) : Int) = a by omega, show ((b.natAbs : Nat) : Int) = b by omega]

set_option maxHeartbeats 1000000 in
theorem mul_false_false (A A' : Option Addr) (n c m d : Nat) (a b : Int) (w : World) (ha : IsInt w false A n c a) (hb : IsInt w false A' m d b) (hn : n ≤ 1000000) (hm : m ≤ 1000000) :
    Calls Tryd.prog 64 #[.agg #[.bool false, .slice A n c], .agg #[.bool false, .slice A' m d]] w (RetInt w (a * b)) := by
  have T1 := fun W (hW : Below w.heap.size w W) => trim_digs A n c w.heap.size a.natAbs W (ha.lim.below hW)
  have T2 := fun W (hW : Below w.heap.size w W) => trim_digs A' m d w.heap.size b.natAbs W (hb.lim.below hW)
  have HP : ∀ W (_ : Below w.heap.size w W), Calls Tryd.prog 93 #[.slice A n n, .slice A' m m] W (ProdRes (a.natAbs * b.natAbs) W) := fun W hW =>
    (prod_any A A' n n m m w.heap.size w.heap.size _ _ W (ha.lim.tight.below hW) (hb.lim.tight.below hW) hW.size hW.size hn hm).mono fun e w' ⟨zs, h1, h2, _⟩ => ⟨zs, h1, by rw [h2, val_digs, val_digs]⟩
  have HU : ∀ A k c zs W, Lim W W.heap.size A k c zs → val zs = a.natAbs * b.natAbs → Calls Tryd.prog 77 #[.bool false, .slice A k c] W (RetInt W (a * b)) := fun A k c zs W h hv => by
    have := build_any false A k c W.heap.size zs W h (Nat.le_refl _)
    have e : zOf false (a.natAbs * b.natAbs) = a * b := mul_z false false a b ha.sign hb.sign
    rw [hv, e] at this
    exact this
  have T1' := Lib.hid T1
  have T2' := Lib.hid T2
  have HP' := Lib.hid HP
  have HU' := Lib.hid HU
  clear T1 T2 HP HU ha hb
  obtain ⟨HB, P0, Q0, R0⟩ := frame21 w (.bool false) (.slice A n c) (.bool false) (.slice A' m d)
  go_enter Tryd.func64, Tryd.ntmps64
  go_wp2_with fail
  go_region_held3 (fun W => W.cell? ⟨w.heap.size, 0, none⟩ = some (.bool false) ∧ W.cell? ⟨w.heap.size, 1, none⟩ = some (.slice A n c) ∧ W.cell? ⟨w.heap.size + 1, 0, none⟩ = some (.bool false) ∧ W.cell? ⟨w.heap.size + 1, 1, none⟩ = some (.slice A' m d)) (first | exact ⟨P2.1, P2.2.1, Q2.1, Q2.2.1⟩ | exact ⟨P1.1, P1.2.1, Q1.1, Q1.2.1⟩ | exact ⟨P0.1, P0.2.1, Q0.1, Q0.2.1⟩ | exact ⟨(P2.far2 (by omega) _ _).1, (P2.far2 (by omega) _ _).2.1, (Q2.far2 (by omega) _ _).1, (Q2.far2 (by omega) _ _).2.1⟩)
    (first | (go_at_call 80; (with_reducible refine (T1'.out _ ?_).mono ?_); (first | exact HB | exact HB.drew | exact Below.drewN' HB _); rintro e w1 ⟨rfl, rfl⟩) | (go_at_call 80; (with_reducible refine (T2'.out _ ?_).mono ?_); (first | exact HB | exact HB.drew | exact Below.drewN' HB _); rintro e w1 ⟨rfl, rfl⟩) | (go_at_call 93; refine (HP'.out _ ?_).mono ?_; (first | exact HB | exact HB.drew | exact Below.drewN' HB _); rintro e w1 ⟨zs, ⟨A1, n1, c1, rfl, hl1, hb1⟩, hv1⟩; have B1 := Below.trans (by first | exact HB | exact HB.drew | exact Below.drewN' HB _) (hb1.mono HB.size); have P1 := Slot2.after (by first | exact P0 | exact P0.drew | exact P0.drewN _) hb1; have Q1 := Slot2.after (by first | exact Q0 | exact Q0.drew | exact Q0.drewN _) hb1; have R1 := Slot2.after (by first | exact R0 | exact R0.drew | exact R0.drewN _) hb1; have hv1' := Lib.hid hv1; clear hv1) | (go_at_call 77; refine (HU'.out _ _ _ _ _ hl1 hv1'.out).mono ?_; rintro e w2 ⟨neg2, A2, n2, c2, rfl, hi2, hb2⟩; have P2 := P1.after hb2; have Q2 := Q1.after hb2; obtain ⟨k0, k1, f0, f1, _⟩ := R1.after hb2))
  go_wp2
  exact bodyPost_ret (v := .agg #[.bool neg2, .slice A2 n2 c2]) (by simp [results, Tryd.results64, go_sem, k0, k1]) rfl
    (RetInt.stored hi2 B1 hb2 (by omega) k0 k1 rfl rfl)
set_option maxHeartbeats 1000000 in
theorem mul_false_true (A A' : Option Addr) (n c m d : Nat) (a b : Int) (w : World) (ha : IsInt w false A n c a) (hb : IsInt w true A' m d b) (hn : n ≤ 1000000) (hm : m ≤ 1000000) :
    Calls Tryd.prog 64 #[.agg #[.bool false, .slice A n c], .agg #[.bool true, .slice A' m d]] w (RetInt w (a * b)) := by
  have T1 := fun W (hW : Below w.heap.size w W) => trim_digs A n c w.heap.size a.natAbs W (ha.lim.below hW)
  have T2 := fun W (hW : Below w.heap.size w W) => trim_digs A' m d w.heap.size b.natAbs W (hb.lim.below hW)
  have HP : ∀ W (_ : Below w.heap.size w W), Calls Tryd.prog 93 #[.slice A n n, .slice A' m m] W (ProdRes (a.natAbs * b.natAbs) W) := fun W hW =>
    (prod_any A A' n n m m w.heap.size w.heap.size _ _ W (ha.lim.tight.below hW) (hb.lim.tight.below hW) hW.size hW.size hn hm).mono fun e w' ⟨zs, h1, h2, _⟩ => ⟨zs, h1, by rw [h2, val_digs, val_digs]⟩
  have HU : ∀ A k c zs W, Lim W W.heap.size A k c zs → val zs = a.natAbs * b.natAbs → Calls Tryd.prog 77 #[.bool true, .slice A k c] W (RetInt W (a * b)) := fun A k c zs W h hv => by
    have := build_any true A k c W.heap.size zs W h (Nat.le_refl _)
    have e : zOf true (a.natAbs * b.natAbs) = a * b := mul_z false true a b ha.sign hb.sign
    rw [hv, e] at this
    exact this
  have T1' := Lib.hid T1
  have T2' := Lib.hid T2
  have HP' := Lib.hid HP
  have HU' := Lib.hid HU
  clear T1 T2 HP HU ha hb
  obtain ⟨HB, P0, Q0, R0⟩ := frame21 w (.bool false) (.slice A n c) (.bool true) (.slice A' m d)
  go_enter Tryd.func64, Tryd.ntmps64
  go_wp2_with fail
  go_region_held3 (fun W => W.cell? ⟨w.heap.size, 0, none⟩ = some (.bool false) ∧ W.cell? ⟨w.heap.size, 1, none⟩ = some (.slice A n c) ∧ W.cell? ⟨w.heap.size + 1, 0, none⟩ = some (.bool true) ∧ W.cell? ⟨w.heap.size + 1, 1, none⟩ = some (.slice A' m d)) (first | exact ⟨P2.1, P2.2.1, Q2.1, Q2.2.1⟩ | exact ⟨P1.1, P1.2.1, Q1.1, Q1.2.1⟩ | exact ⟨P0.1, P0.2.1, Q0.1, Q0.2.1⟩ | exact ⟨(P2.far2 (by omega) _ _).1, (P2.far2 (by omega) _ _).2.1, (Q2.far2 (by omega) _ _).1, (Q2.far2 (by omega) _ _).2.1⟩)
    (first | (go_at_call 80; (with_reducible refine (T1'.out _ ?_).mono ?_); (first | exact HB | exact HB.drew | exact Below.drewN' HB _); rintro e w1 ⟨rfl, rfl⟩) | (go_at_call 80; (with_reducible refine (T2'.out _ ?_).mono ?_); (first | exact HB | exact HB.drew | exact Below.drewN' HB _); rintro e w1 ⟨rfl, rfl⟩) | (go_at_call 93; refine (HP'.out _ ?_).mono ?_; (first | exact HB | exact HB.drew | exact Below.drewN' HB _); rintro e w1 ⟨zs, ⟨A1, n1, c1, rfl, hl1, hb1⟩, hv1⟩; have B1 := Below.trans (by first | exact HB | exact HB.drew | exact Below.drewN' HB _) (hb1.mono HB.size); have P1 := Slot2.after (by first | exact P0 | exact P0.drew | exact P0.drewN _) hb1; have Q1 := Slot2.after (by first | exact Q0 | exact Q0.drew | exact Q0.drewN _) hb1; have R1 := Slot2.after (by first | exact R0 | exact R0.drew | exact R0.drewN _) hb1; have hv1' := Lib.hid hv1; clear hv1) | (go_at_call 77; refine (HU'.out _ _ _ _ _ hl1 hv1'.out).mono ?_; rintro e w2 ⟨neg2, A2, n2, c2, rfl, hi2, hb2⟩; have P2 := P1.after hb2; have Q2 := Q1.after hb2; obtain ⟨k0, k1, f0, f1, _⟩ := R1.after hb2))
  go_wp2
  exact bodyPost_ret (v := .agg #[.bool neg2, .slice A2 n2 c2]) (by simp [results, Tryd.results64, go_sem, k0, k1]) rfl
    (RetInt.stored hi2 B1 hb2 (by omega) k0 k1 rfl rfl)
set_option maxHeartbeats 1000000 in
theorem mul_true_false (A A' : Option Addr) (n c m d : Nat) (a b : Int) (w : World) (ha : IsInt w true A n c a) (hb : IsInt w false A' m d b) (hn : n ≤ 1000000) (hm : m ≤ 1000000) :
    Calls Tryd.prog 64 #[.agg #[.bool true, .slice A n c], .agg #[.bool false, .slice A' m d]] w (RetInt w (a * b)) := by
  have T1 := fun W (hW : Below w.heap.size w W) => trim_digs A n c w.heap.size a.natAbs W (ha.lim.below hW)
  have T2 := fun W (hW : Below w.heap.size w W) => trim_digs A' m d w.heap.size b.natAbs W (hb.lim.below hW)
  have HP : ∀ W (_ : Below w.heap.size w W), Calls Tryd.prog 93 #[.slice A n n, .slice A' m m] W (ProdRes (a.natAbs * b.natAbs) W) := fun W hW =>
    (prod_any A A' n n m m w.heap.size w.heap.size _ _ W (ha.lim.tight.below hW) (hb.lim.tight.below hW) hW.size hW.size hn hm).mono fun e w' ⟨zs, h1, h2, _⟩ => ⟨zs, h1, by rw [h2, val_digs, val_digs]⟩
  have HU : ∀ A k c zs W, Lim W W.heap.size A k c zs → val zs = a.natAbs * b.natAbs → Calls Tryd.prog 77 #[.bool true, .slice A k c] W (RetInt W (a * b)) := fun A k c zs W h hv => by
    have := build_any true A k c W.heap.size zs W h (Nat.le_refl _)
    have e : zOf true (a.natAbs * b.natAbs) = a * b := mul_z true false a b ha.sign hb.sign
    rw [hv, e] at this
    exact this
  have T1' := Lib.hid T1
  have T2' := Lib.hid T2
  have HP' := Lib.hid HP
  have HU' := Lib.hid HU
  clear T1 T2 HP HU ha hb
  obtain ⟨HB, P0, Q0, R0⟩ := frame21 w (.bool true) (.slice A n c) (.bool false) (.slice A' m d)
  go_enter Tryd.func64, Tryd.ntmps64
  go_wp2_with fail
  go_region_held3 (fun W => W.cell? ⟨w.heap.size, 0, none⟩ = some (.bool true) ∧ W.cell? ⟨w.heap.size, 1, none⟩ = some (.slice A n c) ∧ W.cell? ⟨w.heap.size + 1, 0, none⟩ = some (.bool false) ∧ W.cell? ⟨w.heap.size + 1, 1, none⟩ = some (.slice A' m d)) (first | exact ⟨P2.1, P2.2.1, Q2.1, Q2.2.1⟩ | exact ⟨P1.1, P1.2.1, Q1.1, Q1.2.1⟩ | exact ⟨P0.1, P0.2.1, Q0.1, Q0.2.1⟩ | exact ⟨(P2.far2 (by omega) _ _).1, (P2.far2 (by omega) _ _).2.1, (Q2.far2 (by omega) _ _).1, (Q2.far2 (by omega) _ _).2.1⟩)
    (first | (go_at_call 80; (with_reducible refine (T1'.out _ ?_).mono ?_); (first | exact HB | exact HB.drew | exact Below.drewN' HB _); rintro e w1 ⟨rfl, rfl⟩) | (go_at_call 80; (with_reducible refine (T2'.out _ ?_).mono ?_); (first | exact HB | exact HB.drew | exact Below.drewN' HB _); rintro e w1 ⟨rfl, rfl⟩) | (go_at_call 93; refine (HP'.out _ ?_).mono ?_; (first | exact HB | exact HB.drew | exact Below.drewN' HB _); rintro e w1 ⟨zs, ⟨A1, n1, c1, rfl, hl1, hb1⟩, hv1⟩; have B1 := Below.trans (by first | exact HB | exact HB.drew | exact Below.drewN' HB _) (hb1.mono HB.size); have P1 := Slot2.after (by first | exact P0 | exact P0.drew | exact P0.drewN _) hb1; have Q1 := Slot2.after (by first | exact Q0 | exact Q0.drew | exact Q0.drewN _) hb1; have R1 := Slot2.after (by first | exact R0 | exact R0.drew | exact R0.drewN _) hb1; have hv1' := Lib.hid hv1; clear hv1) | (go_at_call 77; refine (HU'.out _ _ _ _ _ hl1 hv1'.out).mono ?_; rintro e w2 ⟨neg2, A2, n2, c2, rfl, hi2, hb2⟩; have P2 := P1.after hb2; have Q2 := Q1.after hb2; obtain ⟨k0, k1, f0, f1, _⟩ := R1.after hb2))
  go_wp2
  exact bodyPost_ret (v := .agg #[.bool neg2, .slice A2 n2 c2]) (by simp [results, Tryd.results64, go_sem, k0, k1]) rfl
    (RetInt.stored hi2 B1 hb2 (by omega) k0 k1 rfl rfl)
set_option maxHeartbeats 1000000 in
theorem mul_true_true (A A' : Option Addr) (n c m d : Nat) (a b : Int) (w : World) (ha : IsInt w true A n c a) (hb : IsInt w true A' m d b) (hn : n ≤ 1000000) (hm : m ≤ 1000000) :
    Calls Tryd.prog 64 #[.agg #[.bool true, .slice A n c], .agg #[.bool true, .slice A' m d]] w (RetInt w (a * b)) := by
  have T1 := fun W (hW : Below w.heap.size w W) => trim_digs A n c w.heap.size a.natAbs W (ha.lim.below hW)
  have T2 := fun W (hW : Below w.heap.size w W) => trim_digs A' m d w.heap.size b.natAbs W (hb.lim.below hW)
  have HP : ∀ W (_ : Below w.heap.size w W), Calls Tryd.prog 93 #[.slice A n n, .slice A' m m] W (ProdRes (a.natAbs * b.natAbs) W) := fun W hW =>
    (prod_any A A' n n m m w.heap.size w.heap.size _ _ W (ha.lim.tight.below hW) (hb.lim.tight.below hW) hW.size hW.size hn hm).mono fun e w' ⟨zs, h1, h2, _⟩ => ⟨zs, h1, by rw [h2, val_digs, val_digs]⟩
  have HU : ∀ A k c zs W, Lim W W.heap.size A k c zs → val zs = a.natAbs * b.natAbs → Calls Tryd.prog 77 #[.bool false, .slice A k c] W (RetInt W (a * b)) := fun A k c zs W h hv => by
    have := build_any false A k c W.heap.size zs W h (Nat.le_refl _)
    have e : zOf false (a.natAbs * b.natAbs) = a * b := mul_z true true a b ha.sign hb.sign
    rw [hv, e] at this
    exact this
  have T1' := Lib.hid T1
  have T2' := Lib.hid T2
  have HP' := Lib.hid HP
  have HU' := Lib.hid HU
  clear T1 T2 HP HU ha hb
  obtain ⟨HB, P0, Q0, R0⟩ := frame21 w (.bool true) (.slice A n c) (.bool true) (.slice A' m d)
  go_enter Tryd.func64, Tryd.ntmps64
  go_wp2_with fail
  go_region_held3 (fun W => W.cell? ⟨w.heap.size, 0, none⟩ = some (.bool true) ∧ W.cell? ⟨w.heap.size, 1, none⟩ = some (.slice A n c) ∧ W.cell? ⟨w.heap.size + 1, 0, none⟩ = some (.bool true) ∧ W.cell? ⟨w.heap.size + 1, 1, none⟩ = some (.slice A' m d)) (first | exact ⟨P2.1, P2.2.1, Q2.1, Q2.2.1⟩ | exact ⟨P1.1, P1.2.1, Q1.1, Q1.2.1⟩ | exact ⟨P0.1, P0.2.1, Q0.1, Q0.2.1⟩ | exact ⟨(P2.far2 (by omega) _ _).1, (P2.far2 (by omega) _ _).2.1, (Q2.far2 (by omega) _ _).1, (Q2.far2 (by omega) _ _).2.1⟩)
    (first | (go_at_call 80; (with_reducible refine (T1'.out _ ?_).mono ?_); (first | exact HB | exact HB.drew | exact Below.drewN' HB _); rintro e w1 ⟨rfl, rfl⟩) | (go_at_call 80; (with_reducible refine (T2'.out _ ?_).mono ?_); (first | exact HB | exact HB.drew | exact Below.drewN' HB _); rintro e w1 ⟨rfl, rfl⟩) | (go_at_call 93; refine (HP'.out _ ?_).mono ?_; (first | exact HB | exact HB.drew | exact Below.drewN' HB _); rintro e w1 ⟨zs, ⟨A1, n1, c1, rfl, hl1, hb1⟩, hv1⟩; have B1 := Below.trans (by first | exact HB | exact HB.drew | exact Below.drewN' HB _) (hb1.mono HB.size); have P1 := Slot2.after (by first | exact P0 | exact P0.drew | exact P0.drewN _) hb1; have Q1 := Slot2.after (by first | exact Q0 | exact Q0.drew | exact Q0.drewN _) hb1; have R1 := Slot2.after (by first | exact R0 | exact R0.drew | exact R0.drewN _) hb1; have hv1' := Lib.hid hv1; clear hv1) | (go_at_call 77; refine (HU'.out _ _ _ _ _ hl1 hv1'.out).mono ?_; rintro e w2 ⟨neg2, A2, n2, c2, rfl, hi2, hb2⟩; have P2 := P1.after hb2; have Q2 := Q1.after hb2; obtain ⟨k0, k1, f0, f1, _⟩ := R1.after hb2))
  go_wp2
  exact bodyPost_ret (v := .agg #[.bool neg2, .slice A2 n2 c2]) (by simp [results, Tryd.results64, go_sem, k0, k1]) rfl
    (RetInt.stored hi2 B1 hb2 (by omega) k0 k1 rfl rfl)

theorem mul_any (neg neg' : Bool) (A A' : Option Addr) (n c m d : Nat) (a b : Int) (w : World) (ha : IsInt w neg A n c a) (hb : IsInt w neg' A' m d b) (hn : n ≤ 1000000) (hm : m ≤ 1000000) :
    Calls Tryd.prog 64 #[.agg #[.bool neg, .slice A n c], .agg #[.bool neg', .slice A' m d]] w (RetInt w (a * b)) := by
  cases neg <;> cases neg'
  · exact mul_false_false A A' n c m d a b w ha hb hn hm
  · exact mul_false_true A A' n c m d a b w ha hb hn hm
  · exact mul_true_false A A' n c m d a b w ha hb hn hm
  · exact mul_true_true A A' n c m d a b w ha hb hn hm
end Go.Proofs.YtclmenpclkmfeaaDoor
