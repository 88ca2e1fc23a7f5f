/- The fixed examples of layer 3's statements. -/
import Derived.Test.YtnlmdjbakcjhbaaDoorVModQ
import Derived.Test.YtnlmdjbakcjhbaaDoorVG24Sz
import Derived.Test.YtnlmdjbakcjhbaaDoorVG3Made
namespace Go.Proofs.YtnlmdjbakcjhbaaDoor
open Go.RowKit
/-- What the fixed examples of layer 3 return. -/
def SanM : Prop := ∀ W : World, TabW W → TabN W.heap.size → Calls Tryd.prog 28 #[] W fun e w' => e = .returned (.bool true) ∧ Below W.heap.size W w'
theorem cz {P : Nat → Prop} {c : Nat} (h : c = 0) : ∀ i, i < c → P i := fun i hi => by omega
theorem c1 {P : Nat → Prop} {c : Nat} (h : c = 1) (h0 : P 0) : ∀ i, i < c → P i := fun i hi => by
  obtain rfl : i = 0 := by omega
  exact h0
theorem s_inv (w : World) : Calls Tryd.prog 30 #[.int .u64 7, .int .u64 3] w fun x w' => x = .returned (.tuple #[.int .u64 5, .int .i64 0]) ∧ Below w.heap.size w w' := by
  have hp : IsPrime 7 := (primes15_prime 7 (by decide)).1
  refine (minv_any 7 3 w hp (by decide) (by decide) (by decide)).mono ?_
  rintro e w' ⟨d, rfl, hd, hw⟩
  obtain rfl := hd.unique (⟨by decide, by decide, by decide⟩ : InvOk 7 3 5)
  exact ⟨rfl, hw.below _⟩
theorem s_inv0 (w : World) : Calls Tryd.prog 30 #[.int .u64 7, .int .u64 0] w fun x w' => x = .returned (.tuple #[.int .u64 0, .int .i64 30]) ∧ Below w.heap.size w w' :=
  (minv_zero 7 w (by decide)).mono (fun e w' h => ⟨h.1, h.2.below _⟩)
section
variable (w : World) (hT : TabW w) (h5 : TabN w.heap.size)
include hT h5
theorem s_next1 : Calls Tryd.prog 78 #[.int .u64 2147483628] w (AnsU w 2147483629) :=
  next_at 2147483628 2147483629 0 w hT h5 (by decide) lt_zero (by rw [show wr64 (min 2147483628 2147483648 + 1 + 0) = 2147483629 by decide]; exact pf_L) (by decide)
theorem s_next2 : Calls Tryd.prog 78 #[.int .u64 2147483647] w (AnsU w 0) := next_no 2147483647 w hT h5 (cz (by decide))
theorem s_next3 : Calls Tryd.prog 78 #[.int .u64 0] w (AnsU w 2) :=
  next_at 0 2 1 w hT h5 (by decide) (c1 rfl (by rw [show wr64 (min 0 2147483648 + 1 + 0) = 1 by decide]; exact pf_1)) (by rw [show wr64 (min 0 2147483648 + 1 + 1) = 2 by decide]; exact pf_2) (by decide)
theorem s_bef1 : Calls Tryd.prog 79 #[.int .u64 2] w (AnsU w 0) := before_no 2 w hT h5 (c1 (by decide) (by rw [show wr64 (min 2 2147483648 - 1 - 0) = 1 by decide]; exact pf_1))
theorem s_bef2 : Calls Tryd.prog 79 #[.int .u64 3] w (AnsU w 2) :=
  before_at 3 2 0 w hT h5 (by decide) lt_zero (by rw [show wr64 (min 3 2147483648 - 1 - 0) = 2 by decide]; exact pf_2) (by decide)
theorem s_bef3 : Calls Tryd.prog 79 #[.int .u64 1099511627776] w (AnsU w 2147483647) :=
  before_at 1099511627776 2147483647 0 w hT h5 (by decide) lt_zero (by rw [show wr64 (min 1099511627776 2147483648 - 1 - 0) = 2147483647 by decide]; exact pf_M) (by decide)
end
theorem s_prime (n : Nat) (v : Bool) (w : World) (hn : n < 18446744073709551616) (hT : TabW w) (hv : primeF n = v) : Calls Tryd.prog 80 #[.int .u64 (n : Int)] w fun e w' => e = .returned (.bool v) ∧ Below w.heap.size w w' := by
  subst hv
  exact (prime_any n w hn hT).mono (fun e w' h => ⟨h.1, h.2.below _⟩)
theorem s_red {neg : Bool} {A : Option Addr} {n c : Nat} {w : World} (ha : IsInt w neg A n c (-1)) : Calls Tryd.prog 43 #[.int .u64 7, .agg #[.bool neg, .slice A n c]] w (AnsU w 6) := mred_z 7 (by decide) (by decide) ha
theorem s_sym1 (w : World) : Calls Tryd.prog 40 #[.int .u64 7, .int .u64 6] w (RetInt w (-1)) := msym_any 7 6 w (by decide) (by decide)
theorem s_sym2 (w : World) : Calls Tryd.prog 40 #[.int .u64 2, .int .u64 1] w (RetInt w 1) := msym_any 2 1 w (by decide) (by decide)
theorem s_pow (w : World) : Calls Tryd.prog 38 #[.int .u64 5, .int .u64 0, .int .u64 0] w fun e w' => e = .returned (.int .u64 1) ∧ Below w.heap.size w w' :=
  (mpow_any 5 0 0 w (by decide) (by decide) (by decide) (by decide)).mono (fun e w' h => ⟨h.1, h.2.below _⟩)
set_option maxRecDepth 100000 in
set_option maxHeartbeats 4000000 in
theorem sanm_any : SanM := by
  intro w hT h5
  have B0 := Below.refl w.heap.size w
  have TT := Lib.hid hT
  clear hT
  go_enter Tryd.func28, Tryd.ntmps28
  go_wp2_with fail
  refine (s_inv w).mono ?_
  rintro e w1 ⟨rfl, hb1⟩
  have B1 := B0.trans (hb1.mono B0.size)
  go_wp2_with fail
  refine (s_inv0 w1).mono ?_
  rintro e w2 ⟨rfl, hb2⟩
  have B2 := B1.trans (hb2.mono B1.size)
  go_wp2_with fail
  refine (s_next1 w2 (TT.out.below B2 h5) (h5.le B2.size)).mono ?_
  rintro e w3 ⟨rfl, hb3⟩
  have B3 := B2.trans (hb3.mono B2.size)
  go_wp2_with fail
  refine (s_next2 w3 (TT.out.below B3 h5) (h5.le B3.size)).mono ?_
  rintro e w4 ⟨rfl, hb4⟩
  have B4 := B3.trans (hb4.mono B3.size)
  go_wp2_with fail
  refine (s_next3 w4 (TT.out.below B4 h5) (h5.le B4.size)).mono ?_
  rintro e w5 ⟨rfl, hb5⟩
  have B5 := B4.trans (hb5.mono B4.size)
  go_wp2_with fail
  refine (s_bef1 w5 (TT.out.below B5 h5) (h5.le B5.size)).mono ?_
  rintro e w6 ⟨rfl, hb6⟩
  have B6 := B5.trans (hb6.mono B5.size)
  go_wp2_with fail
  refine (s_bef2 w6 (TT.out.below B6 h5) (h5.le B6.size)).mono ?_
  rintro e w7 ⟨rfl, hb7⟩
  have B7 := B6.trans (hb7.mono B6.size)
  go_wp2_with fail
  refine (s_bef3 w7 (TT.out.below B7 h5) (h5.le B7.size)).mono ?_
  rintro e w8 ⟨rfl, hb8⟩
  have B8 := B7.trans (hb8.mono B7.size)
  go_wp2_with fail
  refine (rof_any (-1) w8 (by decide) (by decide)).mono ?_
  rintro e w9 ⟨g9, A9, n9, c9, rfl, hi9, hb9⟩
  have B9 := B8.trans (hb9.mono B8.size)
  go_wp2_with fail
  refine (s_red hi9).mono ?_
  rintro e w10 ⟨rfl, hb10⟩
  have B10 := B9.trans (hb10.mono B9.size)
  go_wp2_with fail
  refine (s_sym1 w10).mono ?_
  rintro e w11 ⟨g11, A11, n11, c11, rfl, hi11, hb11⟩
  have B11 := B10.trans (hb11.mono B10.size)
  go_wp2_with fail
  refine (rof_any (-1) w11 (by decide) (by decide)).mono ?_
  rintro e w12 ⟨g12, A12, n12, c12, rfl, hi12, hb12⟩
  have B12 := B11.trans (hb12.mono B11.size)
  have hj11 := hi11.below hb12
  go_wp2_with fail
  refine (same_z _ _ _ _ _ _ _ _ _ hj11 hi12 rfl).mono ?_
  rintro e w13 ⟨rfl, hb13⟩
  have B13 := B12.trans (hb13.mono B12.size)
  go_wp2_with fail
  refine (s_sym2 w13).mono ?_
  rintro e w14 ⟨g14, A14, n14, c14, rfl, hi14, hb14⟩
  have B14 := B13.trans (hb14.mono B13.size)
  go_wp2_with fail
  refine (rof_any 1 w14 (by decide) (by decide)).mono ?_
  rintro e w15 ⟨g15, A15, n15, c15, rfl, hi15, hb15⟩
  have B15 := B14.trans (hb15.mono B14.size)
  have hj14 := hi14.below hb15
  go_wp2_with fail
  refine (same_z _ _ _ _ _ _ _ _ _ hj14 hi15 rfl).mono ?_
  rintro e w16 ⟨rfl, hb16⟩
  have B16 := B15.trans (hb16.mono B15.size)
  go_wp2_with fail
  refine (s_prime 1 false w16 (by decide) (TT.out.below B16 h5) pf_1).mono ?_
  rintro e w17 ⟨rfl, hb17⟩
  have B17 := B16.trans (hb17.mono B16.size)
  go_wp2_with fail
  refine (s_prime 2147483659 false w17 (by decide) (TT.out.below B17 h5) pf_big1).mono ?_
  rintro e w18 ⟨rfl, hb18⟩
  have B18 := B17.trans (hb18.mono B17.size)
  go_wp2_with fail
  refine (s_prime 2147483647 true w18 (by decide) (TT.out.below B18 h5) pf_M).mono ?_
  rintro e w19 ⟨rfl, hb19⟩
  have B19 := B18.trans (hb19.mono B18.size)
  go_wp2_with fail
  refine (s_prime 3215031751 false w19 (by decide) (TT.out.below B19 h5) pf_big2).mono ?_
  rintro e w20 ⟨rfl, hb20⟩
  have B20 := B19.trans (hb20.mono B19.size)
  go_wp2_with fail
  refine (s_prime 2047 false w20 (by decide) (TT.out.below B20 h5) pf_2047).mono ?_
  rintro e w21 ⟨rfl, hb21⟩
  have B21 := B20.trans (hb21.mono B20.size)
  go_wp2_with fail
  refine (s_pow w21).mono ?_
  rintro e w22 ⟨rfl, hb22⟩
  have B22 := B21.trans (hb22.mono B21.size)
  go_wp2_with fail
  go_ret
  exact ⟨rfl, B22⟩
end Go.Proofs.YtnlmdjbakcjhbaaDoor
