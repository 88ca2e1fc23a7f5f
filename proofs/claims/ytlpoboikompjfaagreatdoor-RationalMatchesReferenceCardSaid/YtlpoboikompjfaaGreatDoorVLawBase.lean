/- What the fixed examples return; validity of integers. -/
import Derived.Test.YtlpoboikompjfaaGreatDoorVG7AddB
import Derived.Test.YtlpoboikompjfaaGreatDoorVG1WordB
namespace Go.Proofs.YtlpoboikompjfaaGreatDoor
open Go.RowKit
theorem valid_lit (neg : Bool) (A : Option Addr) (n c : Nat) (xs : List Nat) (b : Bool) {B : Nat} (w : World) (hv : validV neg xs = b) (ha : Lim w B A n c xs) (hB : B ≤ w.heap.size) :
    Calls Tryz.prog 69 #[.agg #[.bool neg, .slice A n c]] w fun e w' => e = .returned (.bool b) ∧ Below w.heap.size w w' := hv ▸ valid_any neg A n c B xs w ha hB
theorem valid_int (neg : Bool) (A : Option Addr) (n c : Nat) (z : Int) (w : World) (ha : IsInt w neg A n c z) :
    Calls Tryz.prog 69 #[.agg #[.bool neg, .slice A n c]] w fun e w' => e = .returned (.bool true) ∧ Below w.heap.size w w' := by
  refine valid_lit neg A n c (digs z.natAbs) true w ?_ ha.lim (Nat.le_refl _)
  unfold validV
  rcases Nat.eq_zero_or_pos z.natAbs with h | h
  · obtain rfl : z = 0 := by omega
    rw [ha.sign, h, digs_zero]
    rfl
  · have h1 := digs_len_pos h
    have h2 := digs_last (n := z.natAbs) (by intro e; rw [e] at h1; exact absurd h1 (by decide))
    rw [if_neg (by omega)]
    refine decide_eq_true ?_
    rw [List.getLast_eq_getElem] at h2
    rw [List.getD_eq_getElem?_getD, List.getElem?_eq_getElem (by omega)]
    exact h2
end Go.Proofs.YtlpoboikompjfaaGreatDoor
