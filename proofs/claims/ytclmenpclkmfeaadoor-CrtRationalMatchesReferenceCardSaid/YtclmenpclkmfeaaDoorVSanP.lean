/- The law's fixed examples, part A: what the straight statements compute. -/
import Derived.Test.YtclmenpclkmfeaaDoorVExt
import Derived.Test.YtclmenpclkmfeaaDoorVG10DivMod
import Derived.Test.YtclmenpclkmfeaaDoorVG15DivModW
import Derived.Test.YtclmenpclkmfeaaDoorVDivModZ
import Derived.Test.YtclmenpclkmfeaaDoorVG16ModI
import Derived.Test.YtclmenpclkmfeaaDoorVG7AddB
import Derived.Test.YtclmenpclkmfeaaDoorVG2Prod
import Derived.Test.YtclmenpclkmfeaaDoorVG1CrtMap
namespace Go.Proofs.YtclmenpclkmfeaaDoor
open Go.RowKit
theorem below_new (w : World) (o : Obj) : Below w.heap.size w (w.alloc o) := (Below.refl _ _).alloc (Nat.le_refl _) _
theorem IsInt.two {w : World} {neg : Bool} {A : Option Addr} {n c : Nat} {z : Int} (h : IsInt w neg A n c z) (hz : z.natAbs < 18446744073709551616) : n ≤ 2 := by
  rw [← h.lim.len]; exact digs_len_le hz
theorem IsInt.one {w : World} {neg : Bool} {A : Option Addr} {n c : Nat} {z : Int} (h : IsInt w neg A n c z) (hz : z.natAbs < 4294967296) : n ≤ 1 := by
  rw [← h.lim.len]; exact digs_len_le hz
theorem dmz_any (neg neg' : Bool) (A A' : Option Addr) (n c m d : Nat) (a : Int) (w : World) (ha : IsInt w neg A n c a) (hb : IsInt w neg' A' m d 0) :
    Calls Tryd.prog 57 #[.agg #[.bool neg, .slice A n c], .agg #[.bool neg', .slice A' m d]] w (RetZ3 w) := by
  obtain rfl : neg' = false := hb.sign
  obtain rfl : m = 0 := (len_of hb).2 rfl
  exact dm_zero neg A A' n c d a w ha hb
theorem rootn_any (neg : Bool) (A : Option Addr) (n c : Nat) (a : Int) (w : World) (ha : IsInt w neg A n c a) (h : a < 0) :
    Calls Tryd.prog 58 #[.agg #[.bool neg, .slice A n c]] w (RetIE w 0 1) := by
  obtain rfl : neg = true := by rw [ha.sign]; exact decide_eq_true h
  exact root_neg A n c a w ha
theorem root17 (neg : Bool) (A : Option Addr) (n c : Nat) (w : World) (ha : IsInt w neg A n c 17) :
    Calls Tryd.prog 58 #[.agg #[.bool neg, .slice A n c]] w (RetIE w 4 0) := by
  obtain rfl : neg = false := ha.sign
  refine (root_of 2 divOk2 (by decide) A n c 17 w ha (by have := ha.one (by decide); omega)).mono ?_
  rintro e w' ⟨r, h, h1, h2⟩
  obtain rfl : r = 4 := by
    have h3 : r < 5 := Nat.lt_of_not_le fun h => by have := Nat.mul_le_mul h h; omega
    have h4 : 4 ≤ r := by
      rcases Nat.lt_or_ge r 4 with h | h
      · have := Nat.mul_le_mul (show r + 1 ≤ 4 by omega) (show r + 1 ≤ 4 by omega)
        omega
      · exact h
    omega
  exact h
theorem same_true (neg neg' : Bool) (A A' : Option Addr) (n c m d : Nat) (z : Int) (w : World) (ha : IsInt w neg A n c z) (hb : IsInt w neg' A' m d z) :
    Calls Tryd.prog 19 #[.agg #[.bool neg, .slice A n c], .agg #[.bool neg', .slice A' m d]] w fun e w' => e = .returned (.bool true) ∧ Below w.heap.size w w' :=
  (same_any neg neg' A A' n c m d z z w ha hb).mono (by rintro e w' ⟨rfl, h⟩; exact ⟨by rw [decide_eq_true rfl], h⟩)
theorem rsign0 (neg : Bool) (A : Option Addr) (n c : Nat) (w : World) (ha : IsInt w neg A n c 0) :
    Calls Tryd.prog 25 #[.agg #[.bool neg, .slice A n c]] w fun e w' => e = .returned (.int .i64 0) ∧ Below w.heap.size w w' := rsign_any neg A n c 0 w ha
theorem sign0 (neg : Bool) (A : Option Addr) (n c : Nat) (w : World) (ha : IsInt w neg A n c 0) :
    Calls Tryd.prog 88 #[.agg #[.bool neg, .slice A n c]] w fun e w' => e = .returned (.int .i64 0) ∧ Below w.heap.size w w' := sign_any neg A n c 0 w ha
theorem bits8 (neg : Bool) (A : Option Addr) (n c : Nat) (w : World) (ha : IsInt w neg A n c (-8)) :
    Calls Tryd.prog 84 #[.agg #[.bool neg, .slice A n c]] w fun e w' => e = .returned (.int .i64 4) ∧ Below w.heap.size w w' := by
  refine (bits_any neg A n c (-8) w ha (by have := ha.two (by decide); omega)).mono ?_
  rintro e w' ⟨B, ⟨rfl, h⟩, hb⟩
  have h1 : 8 < 2 ^ B := h.1
  have h2 : 2 ^ (B - 1) ≤ 8 ∧ 0 < B := h.2.2 (by decide)
  have h3 : 3 < B := (Nat.pow_lt_pow_iff_right (by decide : 1 < 2)).1 h1
  have h4 : B - 1 ≤ 3 := (Nat.pow_le_pow_iff_right (by decide : 1 < 2)).1 h2.1
  obtain rfl : B = 4 := by omega
  exact ⟨rfl, hb⟩
theorem bits0 (neg : Bool) (A : Option Addr) (n c : Nat) (w : World) (ha : IsInt w neg A n c 0) :
    Calls Tryd.prog 84 #[.agg #[.bool neg, .slice A n c]] w fun e w' => e = .returned (.int .i64 0) ∧ Below w.heap.size w w' := by
  refine (bits_any neg A n c 0 w ha (by have := ha.two (by decide); omega)).mono ?_
  rintro e w' ⟨B, ⟨rfl, h⟩, hb⟩
  obtain rfl : B = 0 := h.2.1 rfl
  exact ⟨rfl, hb⟩
theorem abs3 (neg : Bool) (A : Option Addr) (n c : Nat) (w : World) (ha : IsInt w neg A n c (-3)) :
    Calls Tryd.prog 61 #[.agg #[.bool neg, .slice A n c]] w (RetInt w 3) := abs_any neg A n c (-3) w ha (by have := ha.two (by decide); omega)
theorem below_alloc {w w' : World} (h : Below w.heap.size w w') (o : Obj) : Below w.heap.size w (w'.alloc o) := h.alloc h.size o
theorem lit5 (w : World) : IsInt (w.alloc (.cells #[.int .u32 5] 69)) true (some ⟨w.heap.size, 0, none⟩) 1 1 (-5) := by
  refine ⟨rfl, ?_⟩
  have h : digs (-5 : Int).natAbs = [5] := by
    rw [show (-5 : Int).natAbs = 5 from rfl, digs_pos (by decide)]
    rw [show 5 / 4294967296 = 0 from rfl, digs_zero]
  rw [h]
  exact (row_new w [5] _ rfl).len_lim (by intro z hz; simp at hz; omega) 1 rfl (by omega)
theorem lit01 (w : World) : IsInt (w.alloc (.cells #[.int .u32 0, .int .u32 1] 69)) false (some ⟨w.heap.size, 0, none⟩) 2 2 4294967296 := by
  refine ⟨rfl, ?_⟩
  have h : digs (4294967296 : Int).natAbs = [0, 1] := by
    rw [show (4294967296 : Int).natAbs = 4294967296 from rfl, digs_pos (by decide)]
    rw [show 4294967296 / 4294967296 = 1 from rfl, digs_pos (by decide), show 1 / 4294967296 = 0 from rfl, digs_zero]
  rw [h]
  exact (row_new w [0, 1] _ rfl).len_lim (by intro z hz; simp at hz; omega) 2 rfl (by omega)
theorem lit0 (w : World) : Lim (w.alloc (.cells #[.int .u32 0] 69)) (w.alloc (.cells #[.int .u32 0] 69)).heap.size (some ⟨w.heap.size, 0, none⟩) 1 1 [0] :=
  (row_new w [0] _ rfl).len_lim (by intro z hz; simp at hz; omega) 1 rfl (by omega)
theorem gcd6 (neg neg' : Bool) (A A' : Option Addr) (n c m d : Nat) (w : World) (ha : IsInt w neg A n c (-12)) (hb : IsInt w neg' A' m d 18) :
    Calls Tryd.prog 89 #[.agg #[.bool neg, .slice A n c], .agg #[.bool neg', .slice A' m d]] w (RetInt w 6) :=
  gcd_of 2 divOk2 (by decide) neg neg' A A' n c m d (-12) 18 w ha hb (ha.two (by decide)) (hb.two (by decide))
theorem gcd00 (neg neg' : Bool) (A A' : Option Addr) (n c m d : Nat) (w : World) (ha : IsInt w neg A n c 0) (hb : IsInt w neg' A' m d 0) :
    Calls Tryd.prog 89 #[.agg #[.bool neg, .slice A n c], .agg #[.bool neg', .slice A' m d]] w (RetInt w 0) :=
  gcd_of 2 divOk2 (by decide) neg neg' A A' n c m d 0 0 w ha hb (ha.two (by decide)) (hb.two (by decide))
theorem no_m0 : ¬ readOk ⟨#[45, 48]⟩ := fun h => h.2 ⟨by decide, by rw [ByteArray.toList_eq]; decide⟩
theorem no_007 : ¬ readOk ⟨#[48, 48, 55]⟩ := fun h => by
  have h1 := h.1.2
  rw [ByteArray.toList_eq] at h1
  revert h1
  decide
theorem no_nil : ¬ readOk ⟨#[]⟩ := fun h => by
  have h1 := h.1.2
  rw [ByteArray.toList_eq] at h1
  revert h1
  decide
theorem yes_m7 : readOk ⟨#[45, 55]⟩ ∧ readZ ⟨#[45, 55]⟩ = -7 := by
  refine ⟨⟨⟨?_, .inr (by decide)⟩, fun h => absurd h.2 (by rw [ByteArray.toList_eq]; decide)⟩, by unfold readZ; rw [ByteArray.toList_eq]; decide⟩
  intro j hj
  have : j < 1 := hj
  obtain rfl : j = 0 := by omega
  have key : 48 ≤ ((digOf ⟨#[45, 55]⟩)[0]'(by decide)).toNat ∧ ((digOf ⟨#[45, 55]⟩)[0]'(by decide)).toNat ≤ 57 := by decide
  exact key
/-- The region with this number, taken out of a function's code. -/
def findRegion (n : Nat) : Code → Option Code
  | .region i ops b => if i = n then some (.region i ops b) else none
  | .seq a b => match findRegion n a with
    | some c => some c
    | none => findRegion n b
  | .block _ c => findRegion n c
  | .scope c => findRegion n c
  | .loop c => findRegion n c
  | .cond _ a b => match findRegion n a with
    | some c => some c
    | none => findRegion n b
  | _ => none
def regionOf (n : Nat) (f : Func) : Code := (f.body.bind (findRegion n)).getD .skip
end Go.Proofs.YtclmenpclkmfeaaDoor
