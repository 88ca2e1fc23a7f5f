/- The walk of the law IntegerValid, given what its fixed examples return. -/
import Derived.Test.YtdknibhaacbkpaaDoorVG7AddB
import Derived.Test.YtdknibhaacbkpaaDoorVG1Of
namespace Go.Proofs.YtdknibhaacbkpaaDoor
open Go.RowKit
/-- What the fixed examples return. -/
def SanOk : Prop := ∀ W : World, Calls Tryd.prog 12 #[] W fun e w' => e = .returned (.bool true) ∧ Below W.heap.size W w'
theorem valid_lit (neg : Bool) (A : Option Addr) (n c : Nat) (xs : List Nat) (b : Bool) {B : Nat} (w : World) (hv : validV neg xs = b) (ha : Lim w B A n c xs) (hB : B ≤ w.heap.size) :
    Calls Tryd.prog 15 #[.agg #[.bool neg, .slice A n c]] w fun e w' => e = .returned (.bool b) ∧ Below w.heap.size w w' := hv ▸ valid_any neg A n c B xs w ha hB
theorem valid_int (neg : Bool) (A : Option Addr) (n c : Nat) (z : Int) (w : World) (ha : IsInt w neg A n c z) :
    Calls Tryd.prog 15 #[.agg #[.bool neg, .slice A n c]] w fun e w' => e = .returned (.bool true) ∧ Below w.heap.size w w' := by
  refine valid_lit neg A n c (digs z.natAbs) true w ?_ ha.lim (Nat.le_refl _)
  unfold validV
  rcases Nat.eq_zero_or_pos z.natAbs with h | h
  · obtain rfl : z = 0 := by omega
    rw [ha.sign, h, digs_zero]
    rfl
  · have h1 := digs_len_pos h
    have h2 := digs_last (n := z.natAbs) (by intro e; rw [e] at h1; exact absurd h1 (by decide))
    rw [if_neg (by omega)]
    refine decide_eq_true ?_
    rw [List.getLast_eq_getElem] at h2
    rw [List.getD_eq_getElem?_getD, List.getElem?_eq_getElem (by omega)]
    exact h2
set_option maxRecDepth 100000 in
set_option maxHeartbeats 2000000 in
theorem law_valid (HS : SanOk) (A : Option Addr) (n c : Nat) (neg : Bool) (k : Int) (xs : List Nat) (w : World) (ha : Lim w w.heap.size A n c xs) (h1 : -9223372036854775808 ≤ k) (h2 : k ≤ 9223372036854775807) :
    Calls Tryd.prog 3 #[.agg #[.slice A n c, .bool neg], .int .i64 k] w fun e w' => e = .returned (.bool true) ∧ Below w.heap.size w w' := by
  have HS' := Lib.hid HS
  clear HS
  have hcap := ha.cap
  have B0 : Below w.heap.size w (w.alloc (.cells #[.slice A n c, .bool neg] 24)) := (Below.refl _ _).alloc (Nat.le_refl _) _
  have P0 := Slot2.new w (.slice A n c) (.bool neg) 24
  go_enter Tryd.func3, Tryd.ntmps3
  go_wp2_with fail
  refine (HS'.out _).mono ?_
  rintro e w1 ⟨rfl, hb1⟩
  have B1 := B0.trans (hb1.mono B0.size)
  have P1 := P0.after hb1
  have ha1 := ha.below B1
  have ⟨p0, p1, _, _, _⟩ := P1
  have hnc : n ≤ 9223372036854775807 := by omega
  have main : ∃ b : Bool, Hid (validV neg xs = b) ∧ Hid (n = 0 → (b = !neg)) ∧ Hid (∀ x : Nat, 0 < n → x = xs.getD (n - 1) 0 → (b = decide (x ≠ 0))) := by
    refine ⟨validV neg xs, rfl, fun h => ?_, fun x h hx => ?_⟩
    · unfold validV; rw [if_pos (by rw [ha.len]; exact h)]
    · unfold validV; rw [if_neg (by rw [ha.len]; omega), ha.len, ← hx]
  obtain ⟨b, HV, M0, M1⟩ := main
  have HVA := Lib.hid (fun W (hW : Below w.heap.size w W) => valid_lit neg A n c xs b W HV.out (ha.below hW) hW.size)
  rcases Nat.eq_zero_or_pos n with h0 | h0
  case' inl =>
    subst h0
    obtain rfl := M0.out rfl
    cases neg
  case' inr =>
    have hbn : ((n : Int) == 0) = false := by simp; omega
    obtain ⟨ad, rfl, _, x, hx, hxl, hcx⟩ := ha1.at_ (k := n - 1) (by omega)
    have e1 : ((n : Int) - 1).toNat = n - 1 := by omega
    obtain rfl := M1.out x h0 hx.out
    rcases Nat.eq_zero_or_pos x with hx0 | hx0
  case' inr.inl =>
    subst hx0
  case' inr.inr =>
    have hbx : ((x : Int) != 0) = true := by simp; omega
    have hbd : decide (x ≠ 0) = true := decide_eq_true (by omega)
    rw [hbd] at HVA
  all_goals (
    go_wp2_with fail
    refine (of_any k w1 h1 h2).mono ?_
    rintro e w2 ⟨g2, A2, n2, c2, rfl, hi2, hb2⟩
    have B2 := B1.trans (hb2.mono B1.size)
    have P2 := P1.after hb2
    have Q3 := Slot2.new w2 (.bool g2) (.slice A2 n2 c2) 28
    have hi3 := hi2.below (Below.alloc (Below.refl _ _) (Nat.le_refl _) (.cells #[.bool g2, .slice A2 n2 c2] 28))
    have B3 := B2.alloc B2.size (.cells #[.bool g2, .slice A2 n2 c2] 28)
    have P3 := P2.alloc (.cells #[.bool g2, .slice A2 n2 c2] 28)
    have HS2 := Lib.hid hi2.sign
    clear p0 p1
    try clear hcx
    have ⟨q0, q1, _, _, _⟩ := Q3
    go_wp2_with fail
    refine (small_yes _ _ _ _ k _ hi3 h1 h2).mono ?_
    rintro e w4 ⟨rfl, hb4⟩
    have B4 := B3.trans (hb4.mono B3.size)
    have hi4 := hi3.below hb4
    have P4 := P3.after hb4
    have Q4 := Q3.after hb4
    clear q0 q1
    have ⟨p0, p1, _, _, _⟩ := P4
    have ⟨q0, q1, _, _, _⟩ := Q4
    go_wp2_with fail
    refine (HVA.out _ B4).mono ?_
    rintro e w5 ⟨rfl, hb5⟩
    have B5 := B4.trans (hb5.mono B4.size)
    have hi5 := hi4.below hb5
    have Q5 := Q4.after hb5
    clear p0 p1 q0 q1
    have ⟨q0, q1, _, _, _⟩ := Q5
    go_wp2_with fail
    refine (valid_int _ _ _ _ k _ hi5).mono ?_
    rintro e w6 ⟨rfl, hb6⟩
    have B6 := B5.trans (hb6.mono B5.size)
    have Q6 := Q5.after hb6
    clear q0 q1
    have ⟨q0, q1, _, _, _⟩ := Q6
    obtain rfl := HS2.out
    go_wp2_with fail
    go_ret
    exact ⟨rfl, B6⟩)
end Go.Proofs.YtdknibhaacbkpaaDoor
