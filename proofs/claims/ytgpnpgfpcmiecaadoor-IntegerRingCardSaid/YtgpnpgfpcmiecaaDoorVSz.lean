/- Contracts in the form that the laws' walks use: sizes by a bound on the limbs, answers by facts on the integers. -/
import Derived.Test.YtgpnpgfpcmiecaaDoorVG3Made
import Derived.Test.YtgpnpgfpcmiecaaDoorVMul
import Derived.Test.YtgpnpgfpcmiecaaDoorVAdd
import Derived.Test.YtgpnpgfpcmiecaaDoorVG2TextA
import Derived.Test.YtgpnpgfpcmiecaaDoorVG1Of
import Derived.Test.YtgpnpgfpcmiecaaDoorVCmp
namespace Go.Proofs.YtgpnpgfpcmiecaaDoor
open Go.RowKit
/-- z has at most k limbs, and k is small. -/
structure Sz (k : Nat) (z : Int) : Prop where
  le : k ≤ 10000
  len : (digs z.natAbs).length ≤ k
theorem Sz.of {k : Nat} {z : Int} (h : z.natAbs < 4294967296 ^ k) (hk : k ≤ 10000) : Sz k z := ⟨hk, digs_len_le h⟩
theorem Sz.lt {k : Nat} {z : Int} (h : Sz k z) : z.natAbs < 4294967296 ^ k := Nat.lt_of_lt_of_le (lt_digs_len _) (Nat.pow_le_pow_right (by decide) h.len)
theorem Sz.mono {k l : Nat} {z : Int} (h : Sz k z) (hkl : k ≤ l) (hl : l ≤ 10000) : Sz l z := ⟨hl, Nat.le_trans h.len hkl⟩
theorem Sz.mul {k l : Nat} {a b : Int} (ha : Sz k a) (hb : Sz l b) (hk : k + l ≤ 10000) : Sz (k + l) (a * b) := by
  refine Sz.of ?_ hk
  rw [Int.natAbs_mul, Nat.pow_add]
  exact Nat.mul_lt_mul_of_lt_of_le ha.lt (Nat.le_of_lt hb.lt) (Nat.pow_pos (by decide))
theorem Sz.add {k : Nat} {a b : Int} (ha : Sz k a) (hb : Sz k b) (hk : k + 1 ≤ 10000) : Sz (k + 1) (a + b) := by
  refine Sz.of ?_ hk
  have h1 := ha.lt
  have h2 := hb.lt
  have h3 := Int.natAbs_add_le a b
  rw [Nat.pow_succ]
  omega
theorem Sz.neg {k : Nat} {a : Int} (ha : Sz k a) : Sz k (-a) := ⟨ha.le, by rw [Int.natAbs_neg]; exact ha.len⟩
theorem Sz.sub {k : Nat} {a b : Int} (ha : Sz k a) (hb : Sz k b) (hk : k + 1 ≤ 10000) : Sz (k + 1) (a - b) := by
  rw [Int.sub_eq_add_neg]; exact ha.add hb.neg hk
theorem Sz.raw (neg : Bool) (xs : List Nat) (k : Nat) (h : ∀ x ∈ xs, x < 4294967296) (hk : k ≤ 10000) : Sz k (zOf neg (val (xs.take k))) := by
  refine Sz.of ?_ hk
  rw [zOf_natAbs]
  have h1 := val_lt (limbs_take h k)
  exact Nat.lt_of_lt_of_le h1 (Nat.pow_le_pow_right (by decide) (by rw [List.length_take]; exact Nat.min_le_left _ _))
theorem IsInt.sz {w : World} {neg : Bool} {A : Option Addr} {n c k : Nat} {z : Int} (h : IsInt w neg A n c z) (s : Sz k z) : n ≤ 10000 := by
  rw [← h.lim.len]; exact Nat.le_trans s.len s.le
section
variable (neg neg' : Bool) (A A' : Option Addr) (n c m d : Nat) {k l : Nat} {a b : Int} (w : World)
theorem add_z (ha : IsInt w neg A n c a) (hb : IsInt w neg' A' m d b) (sa : Sz k a) (sb : Sz l b) : Calls Tryd.prog 19 #[.agg #[.bool neg, .slice A n c], .agg #[.bool neg', .slice A' m d]] w (RetInt w (a + b)) :=
  add_any neg neg' A A' n c m d a b w ha hb (Nat.le_trans (ha.sz sa) (by decide)) (Nat.le_trans (hb.sz sb) (by decide))
theorem sub_z (ha : IsInt w neg A n c a) (hb : IsInt w neg' A' m d b) (sa : Sz k a) (sb : Sz l b) : Calls Tryd.prog 22 #[.agg #[.bool neg, .slice A n c], .agg #[.bool neg', .slice A' m d]] w (RetInt w (a - b)) :=
  sub_any neg neg' A A' n c m d a b w ha hb (Nat.le_trans (ha.sz sa) (by decide)) (Nat.le_trans (hb.sz sb) (by decide))
theorem mul_z' (ha : IsInt w neg A n c a) (hb : IsInt w neg' A' m d b) (sa : Sz k a) (sb : Sz l b) : Calls Tryd.prog 17 #[.agg #[.bool neg, .slice A n c], .agg #[.bool neg', .slice A' m d]] w (RetInt w (a * b)) :=
  mul_any neg neg' A A' n c m d a b w ha hb (Nat.le_trans (ha.sz sa) (by decide)) (Nat.le_trans (hb.sz sb) (by decide))
theorem neg_z (ha : IsInt w neg A n c a) (sa : Sz k a) : Calls Tryd.prog 21 #[.agg #[.bool neg, .slice A n c]] w (RetInt w (-a)) :=
  neg_any neg A n c a w ha (Nat.le_trans (ha.sz sa) (by decide))
theorem same_z (ha : IsInt w neg A n c a) (hb : IsInt w neg' A' m d b) (h : a = b) : Calls Tryd.prog 18 #[.agg #[.bool neg, .slice A n c], .agg #[.bool neg', .slice A' m d]] w fun e w' => e = .returned (.bool true) ∧ Below w.heap.size w w' :=
  (same_any neg neg' A A' n c m d a b w ha hb).mono (by rintro e w' ⟨rfl, h2⟩; exact ⟨by rw [decide_eq_true h], h2⟩)
theorem same_v (v : Bool) (ha : IsInt w neg A n c a) (hb : IsInt w neg' A' m d b) (h : v = decide (a = b)) : Calls Tryd.prog 18 #[.agg #[.bool neg, .slice A n c], .agg #[.bool neg', .slice A' m d]] w fun e w' => e = .returned (.bool v) ∧ Below w.heap.size w w' := by
  subst h; exact same_any neg neg' A A' n c m d a b w ha hb
theorem sign_z (s : Int) (ha : IsInt w neg A n c a) (h : sgn a = s) : Calls Tryd.prog 20 #[.agg #[.bool neg, .slice A n c]] w fun e w' => e = .returned (.int .i64 s) ∧ Below w.heap.size w w' := by
  subst h; exact sign_any neg A n c a w ha
theorem cmp_z (s : Int) (ha : IsInt w neg A n c a) (hb : IsInt w neg' A' m d b) (h : cmpN a b = s) : Calls Tryd.prog 23 #[.agg #[.bool neg, .slice A n c], .agg #[.bool neg', .slice A' m d]] w fun e w' => e = .returned (.int .i64 s) ∧ Below w.heap.size w w' := by
  subst h; exact cmp_any neg neg' A A' n c m d a b w ha hb
end
theorem sgn_zero {z : Int} (h : z = 0) : sgn z = 0 := by subst h; rfl
end Go.Proofs.YtgpnpgfpcmiecaaDoor
