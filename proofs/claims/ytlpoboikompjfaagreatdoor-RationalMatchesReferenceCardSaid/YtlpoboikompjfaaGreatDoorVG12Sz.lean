/- Contracts in the form that the laws' walks use: sizes by a bound on the limbs, answers by facts on the integers. Contracts of torsionref01.Sub and Cmp. Contract of torsionref01.Mul. Contract of torsionref01.Pow. Contract of torsionref01.short. Contract of torsionref01.divide for a divisor of one limb. Contract of torsionref01.estimate. Contract of torsionref01.divide for a divisor of more than one limb. -/
import Derived.Test.YtlpoboikompjfaaGreatDoorVG1WordB
import Derived.Test.YtlpoboikompjfaaGreatDoorVMul
import Derived.Test.YtlpoboikompjfaaGreatDoorVAdd
import Derived.Test.YtlpoboikompjfaaGreatDoorVG2Sign
import Derived.Test.YtlpoboikompjfaaGreatDoorVCmp
import Derived.Test.YtlpoboikompjfaaGreatDoorVG4RAdd
import Derived.Test.YtlpoboikompjfaaGreatDoorVG7AddB
import Derived.Test.YtlpoboikompjfaaGreatDoorVG10DivMod
import Derived.Deep.DeepCutAuto
namespace Go.Proofs.YtlpoboikompjfaaGreatDoor
open Go.RowKit
/-- z has at most k limbs, and k is small. -/
structure Sz (k : Nat) (z : Int) : Prop where
  le : k ≤ 10000
  len : (digs z.natAbs).length ≤ k
theorem Sz.of {k : Nat} {z : Int} (h : z.natAbs < 4294967296 ^ k) (hk : k ≤ 10000) : Sz k z := ⟨hk, digs_len_le h⟩
theorem Sz.lt {k : Nat} {z : Int} (h : Sz k z) : z.natAbs < 4294967296 ^ k := Nat.lt_of_lt_of_le (lt_digs_len _) (Nat.pow_le_pow_right (by decide) h.len)
theorem Sz.mono {k l : Nat} {z : Int} (h : Sz k z) (hkl : k ≤ l) (hl : l ≤ 10000) : Sz l z := ⟨hl, Nat.le_trans h.len hkl⟩
theorem Sz.mul {k l : Nat} {a b : Int} (ha : Sz k a) (hb : Sz l b) (hk : k + l ≤ 10000) : Sz (k + l) (a * b) := by
  refine Sz.of ?_ hk
  rw [Int.natAbs_mul, Nat.pow_add]
  exact Nat.mul_lt_mul_of_lt_of_le ha.lt (Nat.le_of_lt hb.lt) (Nat.pow_pos (by decide))
theorem Sz.add {k : Nat} {a b : Int} (ha : Sz k a) (hb : Sz k b) (hk : k + 1 ≤ 10000) : Sz (k + 1) (a + b) := by
  refine Sz.of ?_ hk
  have h1 := ha.lt
  have h2 := hb.lt
  have h3 := Int.natAbs_add_le a b
  rw [Nat.pow_succ]
  omega
theorem Sz.neg {k : Nat} {a : Int} (ha : Sz k a) : Sz k (-a) := ⟨ha.le, by rw [Int.natAbs_neg]; exact ha.len⟩
theorem Sz.sub {k : Nat} {a b : Int} (ha : Sz k a) (hb : Sz k b) (hk : k + 1 ≤ 10000) : Sz (k + 1) (a - b) := by
  rw [Int.sub_eq_add_neg]; exact ha.add hb.neg hk
theorem Sz.raw (neg : Bool) (xs : List Nat) (k : Nat) (h : ∀ x ∈ xs, x < 4294967296) (hk : k ≤ 10000) : Sz k (zOf neg (val (xs.take k))) := by
  refine Sz.of ?_ hk
  rw [zOf_natAbs]
  have h1 := val_lt (limbs_take h k)
  exact Nat.lt_of_lt_of_le h1 (Nat.pow_le_pow_right (by decide) (by rw [List.length_take]; exact Nat.min_le_left _ _))
theorem IsInt.sz {w : World} {neg : Bool} {A : Option Addr} {n c k : Nat} {z : Int} (h : IsInt w neg A n c z) (s : Sz k z) : n ≤ 10000 := by
  rw [← h.lim.len]; exact Nat.le_trans s.len s.le
section
variable (neg neg' : Bool) (A A' : Option Addr) (n c m d : Nat) {k l : Nat} {a b : Int} (w : World)
theorem add_z (ha : IsInt w neg A n c a) (hb : IsInt w neg' A' m d b) (sa : Sz k a) (sb : Sz l b) : Calls Tryz.prog 91 #[.agg #[.bool neg, .slice A n c], .agg #[.bool neg', .slice A' m d]] w (RetInt w (a + b)) :=
  add_any neg neg' A A' n c m d a b w ha hb (Nat.le_trans (ha.sz sa) (by decide)) (Nat.le_trans (hb.sz sb) (by decide))
theorem sub_z (ha : IsInt w neg A n c a) (hb : IsInt w neg' A' m d b) (sa : Sz k a) (sb : Sz l b) : Calls Tryz.prog 92 #[.agg #[.bool neg, .slice A n c], .agg #[.bool neg', .slice A' m d]] w (RetInt w (a - b)) :=
  sub_any neg neg' A A' n c m d a b w ha hb (Nat.le_trans (ha.sz sa) (by decide)) (Nat.le_trans (hb.sz sb) (by decide))
theorem mul_z' (ha : IsInt w neg A n c a) (hb : IsInt w neg' A' m d b) (sa : Sz k a) (sb : Sz l b) : Calls Tryz.prog 81 #[.agg #[.bool neg, .slice A n c], .agg #[.bool neg', .slice A' m d]] w (RetInt w (a * b)) :=
  mul_any neg neg' A A' n c m d a b w ha hb (Nat.le_trans (ha.sz sa) (by decide)) (Nat.le_trans (hb.sz sb) (by decide))
theorem neg_z (ha : IsInt w neg A n c a) (sa : Sz k a) : Calls Tryz.prog 62 #[.agg #[.bool neg, .slice A n c]] w (RetInt w (-a)) :=
  neg_any neg A n c a w ha (Nat.le_trans (ha.sz sa) (by decide))
theorem same_z (ha : IsInt w neg A n c a) (hb : IsInt w neg' A' m d b) (h : a = b) : Calls Tryz.prog 29 #[.agg #[.bool neg, .slice A n c], .agg #[.bool neg', .slice A' m d]] w fun e w' => e = .returned (.bool true) ∧ Below w.heap.size w w' :=
  (same_any neg neg' A A' n c m d a b w ha hb).mono (by rintro e w' ⟨rfl, h2⟩; exact ⟨by rw [decide_eq_true h], h2⟩)
theorem same_v (v : Bool) (ha : IsInt w neg A n c a) (hb : IsInt w neg' A' m d b) (h : v = decide (a = b)) : Calls Tryz.prog 29 #[.agg #[.bool neg, .slice A n c], .agg #[.bool neg', .slice A' m d]] w fun e w' => e = .returned (.bool v) ∧ Below w.heap.size w w' := by
  subst h; exact same_any neg neg' A A' n c m d a b w ha hb
theorem sign_z (s : Int) (ha : IsInt w neg A n c a) (h : sgn a = s) : Calls Tryz.prog 60 #[.agg #[.bool neg, .slice A n c]] w fun e w' => e = .returned (.int .i64 s) ∧ Below w.heap.size w w' := by
  subst h; exact sign_any neg A n c a w ha
theorem cmp_z (s : Int) (ha : IsInt w neg A n c a) (hb : IsInt w neg' A' m d b) (h : cmpN a b = s) : Calls Tryz.prog 80 #[.agg #[.bool neg, .slice A n c], .agg #[.bool neg', .slice A' m d]] w fun e w' => e = .returned (.int .i64 s) ∧ Below w.heap.size w w' := by
  subst h; exact cmp_any neg neg' A A' n c m d a b w ha hb
end
theorem sgn_zero {z : Int} (h : z = 0) : sgn z = 0 := by subst h; rfl
end Go.Proofs.YtlpoboikompjfaaGreatDoor
namespace Go.Proofs.YtlpoboikompjfaaGreatDoor
open Go.RowKit
theorem IsInt.len_eq {w w' : World} {neg neg' : Bool} {A A' : Option Addr} {n c m d : Nat} {z z' : Int} (h : IsInt w neg A n c z) (k : IsInt w' neg' A' m d z') (e : z.natAbs = z'.natAbs) : n = m := by
  rw [← h.lim.len, ← k.lim.len, e]
set_option maxHeartbeats 1000000 in
theorem rsub_any (neg neg' : Bool) (A A' : Option Addr) (n c m d : Nat) (a b : Int) (w : World) (ha : IsInt w neg A n c a) (hb : IsInt w neg' A' m d b) (hn : n ≤ 100000) (hm : m ≤ 100000) :
    Calls Tryz.prog 96 #[.agg #[.bool neg, .slice A n c], .agg #[.bool neg', .slice A' m d]] w (RetInt w (a - b)) := by
  have H1 := fun W (hW : Below w.heap.size w W) => rneg_any neg' A' m d b W (hb.below hW) (by omega)
  have H2 := fun (W W1 : World) (g1 : Bool) (A1 : Option Addr) (n1 c1 : Nat) (h1 : IsInt W1 g1 A1 n1 c1 (-b)) (hW : Below w.heap.size w W) (hW1 : Below W.heap.size W W1) =>
    radd_any neg g1 A A1 n c n1 c1 a (-b) W1 (ha.below (hW.trans (hW1.mono hW.size))) h1 hn (by rw [h1.len_eq hb (by simp)]; exact hm)
  rw [← Int.sub_eq_add_neg] at H2
  have H1' := Lib.hid H1
  have H2' := Lib.hid H2
  clear H1 H2
  obtain ⟨HB, P0, P1, R0⟩ := frame21 w (.bool neg) (.slice A n c) (.bool neg') (.slice A' m d)
  have HS : Hid (∀ W, Below (w.heap.size + 1 + 1) (((w.alloc (.cells #[.bool neg, .slice A n c] 26)).alloc (.cells #[.bool neg', .slice A' m d] 26)).alloc (.cells #[.bool false, .slice none 0 0] 26)) W → W.cell? ⟨w.heap.size, 0, none⟩ = some (.bool neg) ∧ W.cell? ⟨w.heap.size, 1, none⟩ = some (.slice A n c) ∧ W.cell? ⟨w.heap.size + 1, 0, none⟩ = some (.bool neg') ∧ W.cell? ⟨w.heap.size + 1, 1, none⟩ = some (.slice A' m d)) :=
    fun W hW => ⟨(P0.below hW (by omega)).1, (P0.below hW (by omega)).2.1, (P1.below hW (by omega)).1, (P1.below hW (by omega)).2.1⟩
  go_enter Tryz.func96, Tryz.ntmps96
  go_wp2_with fail
  go_region_held3 (fun W => W.cell? ⟨w.heap.size, 0, none⟩ = some (.bool neg) ∧ W.cell? ⟨w.heap.size, 1, none⟩ = some (.slice A n c) ∧ W.cell? ⟨w.heap.size + 1, 0, none⟩ = some (.bool neg') ∧ W.cell? ⟨w.heap.size + 1, 1, none⟩ = some (.slice A' m d)) (exact HS.out _ (by first | exact Below.refl _ _ | exact (Below.refl _ _).drew | exact Below.drewN' (Below.refl _ _) _ | exact (Below.drewN' (Below.refl _ _) _).drew | exact D1.mono (by omega) | exact D2.mono (by omega) | exact ((D2.mono (by omega)).setCell (by simp) _).setCell (by simp) _))
    (first
      | (go_at_call 64; refine (H1'.out _ (by first | exact HB | exact HB.drew | exact Below.drewN' HB _ | exact (Below.drewN' HB _).drew)).mono ?_; rintro e w1 ⟨neg1, A1, n1, c1, rfl, hi1, hb1⟩; have D1 := Below.trans (by first | exact Below.refl _ _ | exact (Below.refl _ _).drew | exact Below.drewN' (Below.refl _ _) _ | exact (Below.drewN' (Below.refl _ _) _).drew : Below (w.heap.size + 1 + 1 + 1) (((w.alloc (.cells #[.bool neg, .slice A n c] 26)).alloc (.cells #[.bool neg', .slice A' m d] 26)).alloc (.cells #[.bool false, .slice none 0 0] 26)) _) (hb1.mono (by simp)))
      | (go_at_call 73; refine (H2'.out _ _ _ _ _ _ hi1 HB (D1.mono (by simp))).mono ?_; rintro e w2 ⟨neg2, A2, n2, c2, rfl, hi2, hb2⟩; have D2 := D1.trans (hb2.mono (by have := D1.size; simp at this; omega)); obtain ⟨k0, k1, f0, f1, _⟩ := R0.below D2 (by omega)))
  go_wp2
  exact bodyPost_ret (v := .agg #[.bool neg2, .slice A2 n2 c2]) (by simp [results, Tryz.results96, go_sem, k0, k1]) rfl
    (RetInt.stored hi2 (HB.trans (D1.mono (by omega))) (hb2.mono (by omega)) (by omega) k0 k1 rfl rfl)
set_option maxHeartbeats 1000000 in
theorem rcmp_any (neg neg' : Bool) (A A' : Option Addr) (n c m d : Nat) (a b : Int) (w : World) (ha : IsInt w neg A n c a) (hb : IsInt w neg' A' m d b) (hn : n ≤ 100000) (hm : m ≤ 100000) :
    Calls Tryz.prog 71 #[.agg #[.bool neg, .slice A n c], .agg #[.bool neg', .slice A' m d]] w fun e w' => e = .returned (.int .i64 (cmpN a b)) ∧ Below w.heap.size w w' := by
  have H1 := fun W (hW : Below w.heap.size w W) => rsub_any neg neg' A A' n c m d a b W (ha.below hW) (hb.below hW) hn hm
  have H1' := Lib.hid H1
  have HZ := Lib.hid (show sgn (a - b) = cmpN a b by unfold sgn cmpN; split <;> split <;> first | rfl | omega | (split <;> first | rfl | omega))
  clear H1 ha hb
  obtain ⟨HB, P0, P1⟩ := frame20 w (.bool neg) (.slice A n c) (.bool neg') (.slice A' m d)
  go_enter Tryz.func71, Tryz.ntmps71
  go_wp2_with fail
  refine (H1'.out _ HB).mono ?_
  rintro e w1 ⟨neg1, A1, n1, c1, rfl, hi1, hb1⟩
  go_wp2_with fail
  refine (rsign_any _ _ _ _ _ _ hi1).mono ?_
  rintro e w2 ⟨rfl, hb2⟩
  go_wp2
  go_ret
  exact ⟨retI HZ.out, (HB.trans (hb1.mono HB.size)).trans (hb2.mono (HB.trans (hb1.mono HB.size)).size)⟩
end Go.Proofs.YtlpoboikompjfaaGreatDoor
namespace Go.Proofs.YtlpoboikompjfaaGreatDoor
open Go.RowKit
/-- The world in which the loops of Mul start. -/
def Wm (w : World) (a0 a1 b0 b1 : Value) : World := ((w.alloc (.cells #[a0, a1] 26)).alloc (.cells #[b0, b1] 26)).alloc (.cells #[.bool false, .slice none 0 0] 26)
theorem size_Wm (w : World) (a0 a1 b0 b1 : Value) : (Wm w a0 a1 b0 b1).heap.size = w.heap.size + 1 + 1 + 1 := by unfold Wm; simp
/-- What holds of the product at the outer loop's head. -/
structure MulOut (W : World) (g n m : Nat) (xs ys : List Nat) (wr : World) (k : Nat) (R : List Nat) : Prop where
  row : Row wr g R
  lim : Limbs R
  len : R.length = n + m + 1
  zero : ∀ j, k + m ≤ j → R.getD j 0 = 0
  eqn : val R = val (xs.take k) * val ys
  bel : Below g W wr
/-- What holds of it at the inner loop's head. -/
structure MulIn (W : World) (g n m k x : Nat) (ys R : List Nat) (wr : World) (l q : Nat) (S : List Nat) : Prop where
  row : Row wr g S
  lim : Limbs S
  len : S.length = n + m + 1
  zero : ∀ j, k + m + 1 ≤ j → S.getD j 0 = 0
  top : l ≤ m → S.getD (k + m) 0 = 0
  eqn : val S + q * (4294967296 ^ k * 4294967296 ^ l) = val R + x * val (ys.take l) * 4294967296 ^ k
  end_ : l = m + 1 → q = 0
  bel : Below g W wr
theorem MulIn.step {W : World} {g n m k x y r : Nat} {ys R : List Nat} {wr : World} {l q : Nat} {S : List Nat} (h : MulIn W g n m k x ys R wr l q S) (hk : k < n) (hl : l ≤ m) (hy : y = ys.getD l 0) (hr : r = S.getD (k + l) 0) (p : Nat) (hp : p = x * y) (hm : l = m → q < 4294967296 ∧ p = 0) (nn : Nat) :
    MulIn W g n m k x ys R ((wr.drewN nn).setCell ⟨g, k + l, none⟩ (.int .u32 (((q + r + p) % 4294967296 : Nat) : Int))) (l + 1) ((q + r + p) / 4294967296) (S.set (k + l) ((q + r + p) % 4294967296)) := by
  refine ⟨(Row.drewN h.row _).set _ _, limbs_set h.lim _ (by omega), by rw [List.length_set]; exact h.len, fun j hj => ?_, fun hj => ?_, ?_, fun e => ?_, (Below.drewN' h.bel _).setCell (by simp) _⟩
  · rw [getD_set_ne _ _ (by omega)]; exact h.zero j hj
  · rw [getD_set_ne _ _ (by omega)]; exact h.top hl
  · have h1 := val_set S (k + l) ((q + r + p) % 4294967296) (by rw [h.len]; omega)
    rw [← hr, Nat.pow_add] at h1
    rw [val_take_succ ys, ← hy, Nat.pow_succ]
    have e : q + r + p = p + r + q := by omega
    rw [e] at h1 ⊢
    exact prod_step h.eqn (by rw [hp]) h1
  · obtain ⟨h1, h2⟩ := hm (by omega)
    have e2 : r = 0 := by rw [hr]; have : l = m := by omega
                          subst this; exact h.top (Nat.le_refl _)
    rw [h2, e2]; omega
set_option maxHeartbeats 2000000 in
theorem rmul_any (neg neg' : Bool) (A A' : Option Addr) (n c m d : Nat) (a b : Int) (w : World) (ha : IsInt w neg A n c a) (hb : IsInt w neg' A' m d b) (hn : n ≤ 100000) (hm : m ≤ 100000) :
    Calls Tryz.prog 43 #[.agg #[.bool neg, .slice A n c], .agg #[.bool neg', .slice A' m d]] w (RetInt w (a * b)) := by
  have hmk : ∀ W : World, (Instr.makeSlice 22 (.int .i64 ((n : Int) + m + 1)) (.int .i64 ((n : Int) + m + 1))).run Tryz.prog W =
    .ok (.slice (some ⟨W.heap.size, 0, none⟩) (n + m + 1) (n + m + 1)) (W.alloc (.cells (madeCells #[.int .u32 0] (n + m + 1)) 84)) := fun W => make_u32 (n + m + 1) (by omega) W
  have H2 := fun A2 n2 c2 zs (W : World) (hz : Lim W W.heap.size A2 n2 c2 zs) (hl : zs.length ≤ 300000) (hv : val zs = val (digs a.natAbs) * val (digs b.natAbs)) => made_val (neg != neg') A2 n2 c2 (a.natAbs * b.natAbs) (a * b) zs W hz (by omega) (by rw [hv, val_digs, val_digs]) (mul_z neg neg' a b ha.sign hb.sign)
  have H2' := Lib.hid H2
  clear H2
  obtain ⟨HB, P0, P1, R0⟩ := frame21 w (.bool neg) (.slice A n c) (.bool neg') (.slice A' m d)
  have hla := ha.lim
  have hlb := hb.lim
  clear ha hb
  have hcn := hla.cap
  have hcm := hlb.cap
  generalize digs a.natAbs = xs at *
  generalize digs b.natAbs = ys at *
  have HLx := Lib.hid hla.len
  have HLy := Lib.hid hlb.len
  have ⟨p0, p1, _, _, _⟩ := P0
  have ⟨q0, q1, _, _, _⟩ := P1
  go_enter Tryz.func43, Tryz.ntmps43
  go_wp2
  clear p0 p1 q0 q1
  have HW : Hid (((w.alloc (.cells #[.bool neg, .slice A n c] 26)).alloc (.cells #[.bool neg', .slice A' m d] 26)).alloc (.cells #[.bool false, .slice none 0 0] 26) = Wm w (.bool neg) (.slice A n c) (.bool neg') (.slice A' m d)) := rfl
  have HWs := Lib.hid (size_Wm w (.bool neg) (.slice A n c) (.bool neg') (.slice A' m d))
  rw [HW.out] at HB P0 P1 R0 ⊢
  generalize Wm w (.bool neg) (.slice A n c) (.bool neg') (.slice A' m d) = W at *
  clear HW
  have hs := HWs.out
  go_loopw [6] (fun i wr => ∃ (k : Nat) (R : List Nat), k ≤ n ∧ i = .int .i64 k ∧ MulOut W (w.heap.size + 1 + 1 + 1) n m xs ys wr k R) (fun i _ => n - (intOf i).toNat)
  case atStart =>
    refine ⟨0, List.replicate (n + m + 1) 0, by omega, rfl, ?_, limbs_zeros _, by simp, fun j hj => (getD_zeros (k := 0 + m) _).out j hj, by simp [val, val_zeros], ?_⟩
    · rw [← hs]; exact Row.made W (n + m + 1)
    · rw [← hs]; exact (Below.refl _ _).alloc (Nat.le_refl _) _
  case round =>
    obtain ⟨k, R, hk, rfl, HO⟩ := hrel
    obtain ⟨p0, p1, _, _, _⟩ := P0.below HO.bel (by omega)
    obtain ⟨q0, q1, _, _, _⟩ := P1.below HO.bel (by omega)
    by_cases hkn : k < n
    · obtain ⟨ad, rfl, _, x, hx, hxl, hcx⟩ := ((hla.below HB).below (HO.bel.mono (by omega))).at_ hkn
      go_wp2
      obtain ⟨wo, rfl⟩ : ∃ wo : World, wo = wr := ⟨_, rfl⟩
      clear p0 p1 q0 q1 hcx
      go_loopw [7, 8] (fun cr i wi => ∃ (l q : Nat) (S : List Nat), l ≤ m + 1 ∧ i = .int .i64 l ∧ cr = .int .u64 q ∧ q < 4294967296 ∧ MulIn W (w.heap.size + 1 + 1 + 1) n m k x ys R wi l q S) (fun _ i _ => m + 1 - (intOf i).toNat)
      case atStart => exact ⟨0, 0, R, by omega, rfl, rfl, by omega, HO.row, HO.lim, HO.len, fun j hj => HO.zero j (by omega), fun _ => HO.zero _ (Nat.le_refl _), by simp [val], fun _ => rfl, HO.bel⟩
      case round =>
        obtain ⟨l, q, S, hl, rfl, rfl, hq, HI⟩ := hrel
        obtain ⟨p0, p1, _, _, _⟩ := P0.below HI.bel (by omega)
        obtain ⟨q0, q1, _, _, _⟩ := P1.below HI.bel (by omega)
        by_cases hlm : l < m
        · have hl' : l ≤ m := by omega
          obtain ⟨ad', rfl, _, y, hy, hyl, hcy⟩ := ((hlb.below HB).below (HI.bel.mono (by omega))).at_ hlm
          obtain ⟨_, e, _, x', hx', _, hcx⟩ := ((hla.below HB).below (HI.bel.mono (by omega))).at_ hkn
          obtain rfl := Option.some.inj e
          obtain rfl : x' = x := hx'.out.trans hx.out.symm
          have hcr := HI.row.cell (k := k + l) (by rw [HI.len]; omega)
          have hfr := HI.row.frozen (k + l)
          obtain ⟨r, hr⟩ : ∃ r, r = S.getD (k + l) 0 := ⟨_, rfl⟩
          have hrl : r < 4294967296 := by
            subst hr
            rw [List.getD_eq_getElem?_getD, List.getElem?_eq_getElem (by rw [HI.len]; omega)]
            exact HI.lim _ (List.getElem_mem _)
          rw [← hr] at hcr
          have HR := Lib.hid hr
          clear hr
          obtain ⟨p, hp⟩ : ∃ p : Nat, p = x' * y := ⟨_, rfl⟩
          have hpl : p ≤ 18446744065119617025 := by
            subst hp
            exact Nat.mul_le_mul (show x' ≤ 4294967295 by omega) (show y ≤ 4294967295 by omega)
          have hxy : (x' : Int) * (y : Int) = (p : Int) := by rw [hp]; exact (Int.natCast_mul x' y).symm
          have HP := Lib.hid hp
          clear hp
          have i0 : (0 : Int) ≤ (k : Int) + l := by omega
          have i1 : (k : Int) + l < (n : Int) + m + 1 := by omega
          have i2 : ((k : Int) + l).toNat = k + l := by omega
          have i3 : (l : Int) < m := by omega
          have i4 : (0 : Int) ≤ l := by omega
          have w0 : IntKind.i64.wrap ((k : Int) + l) = (k : Int) + l := by rw [IntKind.wrap_i64]; omega
          have w1 : IntKind.u64.wrap (p : Int) = (p : Int) := by rw [IntKind.wrap_u64]; omega
          have w2 : IntKind.u64.wrap ((q : Int) + r) = (q : Int) + r := by rw [IntKind.wrap_u64]; omega
          have w3 : IntKind.u64.wrap ((q : Int) + r + p) = (q : Int) + r + p := by rw [IntKind.wrap_u64]; omega
          go_wp2
          go_quiet (fail)
          go_wp2
          go_roundw
          case rel =>
            have e1 : (((q + r + p) % 4294967296 : Nat) : Int) = ((q : Int) + r + p) % 4294967296 := by omega
            have e2 : (((q + r + p) / 4294967296 : Nat) : Int) = ((q : Int) + r + p) / 4294967296 := by omega
            rw [← e1, ← e2]
            exact ⟨l + 1, (q + r + p) / 4294967296, _, by omega, by go_num, rfl, by omega, HI.step hkn hl' hy.out HR.out p HP.out (fun e => absurd hlm (by omega)) _⟩
          case measure => simp [intOf] <;> omega
        · rcases Nat.eq_zero_or_pos q with rfl | hq0
          · go_wp2
            go_roundw
            case rel =>
              refine ⟨k + 1, S, by omega, by go_num, HI.row, HI.lim, HI.len, fun j hj => HI.zero j (by omega), ?_, HI.bel⟩
              have h1 := HI.eqn
              rw [List.take_of_length_le (l := ys) (by rw [HLy.out]; omega), Nat.zero_mul, Nat.add_zero, HO.eqn] at h1
              rw [h1, val_take_succ xs, ← hx.out, Nat.add_mul, Nat.mul_comm (4294967296 ^ k) x, Nat.mul_right_comm x (4294967296 ^ k)]
            case measure => simp [intOf] <;> omega
          · obtain rfl : l = m := by
              rcases Nat.lt_or_ge m l with h | h
              · have := HI.end_ (by omega); omega
              · omega
            have hcr := HI.row.cell (k := k + l) (by rw [HI.len]; omega)
            have hfr := HI.row.frozen (k + l)
            rw [HI.top (Nat.le_refl _)] at hcr
            have i0 : (0 : Int) ≤ (k : Int) + l := by omega
            have i1 : (k : Int) + l < (n : Int) + l + 1 := by omega
            have i2 : ((k : Int) + l).toNat = k + l := by omega
            go_wp2
            go_roundw
            case rel =>
              have e1 : (((q + 0 + 0) % 4294967296 : Nat) : Int) = (q : Int) := by omega
              have e2 : (q + 0 + 0) / 4294967296 = 0 := by omega
              have hst := HI.step (y := 0) (r := 0) hkn (Nat.le_refl _) (take_none (by rw [HLy.out]; exact Nat.le_refl _)).symm (HI.top (Nat.le_refl _)).symm 0 (by simp) (fun _ => ⟨hq, rfl⟩) 0
              rw [e1, e2] at hst
              refine ⟨l + 1, 0, _, by omega, by go_num, ?_, by omega, hst⟩
              congr 1
              omega
            case measure => simp [intOf] <;> omega
    · obtain rfl : k = n := by omega
      go_wp2_with fail
      refine (H2'.out _ _ _ R _ ((HO.row.len_lim HO.lim _ HO.len (by omega))) (by rw [HO.len]; omega) ?_).mono ?_
      · rw [HO.eqn, List.take_of_length_le (by rw [HLx.out]; exact Nat.le_refl _)]
      rintro e w2 ⟨neg2, A2, n2, c2, rfl, hi2, hb2⟩
      have B2 := HO.bel.trans (hb2.mono (by have := HO.bel.size; omega))
      obtain ⟨k0, k1, f0, f1, _⟩ := R0.below B2 (by omega)
      go_wp2
      exact bodyPost_ret (v := .agg #[.bool neg2, .slice A2 n2 c2]) (by simp [results, Tryz.results43, go_sem, k0, k1]) rfl
        (RetInt.stored hi2 (HB.trans (HO.bel.mono (by omega))) hb2 (by omega) k0 k1 rfl rfl)
end Go.Proofs.YtlpoboikompjfaaGreatDoor
namespace Go.Proofs.YtlpoboikompjfaaGreatDoor
open Go.RowKit
end Go.Proofs.YtlpoboikompjfaaGreatDoor
namespace Go.Proofs.YtlpoboikompjfaaGreatDoor
open Go.RowKit
/-- What holds of a short division at a round's head: the limbs from place k + 1 on are done. -/
structure ShInv (w : World) (n d : Nat) (xs : List Nat) (wr : World) (k r : Nat) (ys : List Nat) : Prop where
  row : Row wr w.heap.size ys
  lim : Limbs ys
  len : ys.length = n
  eqn : val (xs.drop k) = val (ys.drop k) * d + r
  bel : Below w.heap.size w wr
theorem ShInv.step {w : World} {n d : Nat} {xs : List Nat} {wr : World} {k r x : Nat} {ys : List Nat} (h : ShInv w n d xs wr (k + 1) r ys) (hk : k < n) (hl : xs.length = n) (hd : 0 < d) (hx : x = xs.getD k 0) (hr : r < d) (hxl : x < 4294967296) :
    (r * 4294967296 + x) / d < 4294967296 ∧ ShInv w n d xs (wr.setCell ⟨w.heap.size, k, none⟩ (.int .u32 (((r * 4294967296 + x) / d : Nat) : Int))) k ((r * 4294967296 + x) % d) (ys.set k ((r * 4294967296 + x) / d)) := by
  have hv1 : (r * 4294967296 + x) / d < 4294967296 := by
    rw [Nat.div_lt_iff_lt_mul hd]
    have : 4294967296 * (r + 1) ≤ 4294967296 * d := Nat.mul_le_mul_left _ hr
    omega
  refine ⟨hv1, h.row.set _ _, limbs_set h.lim _ hv1, by rw [List.length_set]; exact h.len, ?_, h.bel.setCell (by simp) _⟩
  have htd := Nat.div_add_mod (r * 4294967296 + x) d
  rw [val_set_drop (by rw [h.len]; exact hk), val_drop_cons (xs := xs) (k := k) (by omega), h.eqn, ← hx]
  generalize (r * 4294967296 + x) / d = v at *
  generalize (r * 4294967296 + x) % d = r' at *
  rw [Nat.add_mul, Nat.mul_add, ← Nat.mul_assoc]
  rw [Nat.mul_comm d v] at htd
  omega
theorem retT2 {k : IntKind} {a b : Int} {v : Value} (h : a = b) : Ending.returned (.tuple #[v, .int k a]) = .returned (.tuple #[v, .int k b]) := by rw [h]
set_option maxHeartbeats 1000000 in
theorem short_any (A : Option Addr) (n c B d : Nat) (xs : List Nat) (w : World) (ha : Lim w B A n c xs) (hB : B ≤ w.heap.size) (hn : n ≤ 1000000) (hd : 0 < d) (hdl : d < 4294967296) :
    Calls Tryz.prog 131 #[.slice A n c, .int .u32 (d : Int)] w fun e w' => ∃ A1 zs, e = .returned (.tuple #[.slice A1 n n, .int .u32 ((val xs % d : Nat) : Int)]) ∧ Lim w' w'.heap.size A1 n n zs ∧ val zs = val xs / d ∧ Below w.heap.size w w' := by
  have hmk : ∀ W : World, (Instr.makeSlice 22 (.int .i64 (n : Int)) (.int .i64 (n : Int))).run Tryz.prog W =
    .ok (.slice (some ⟨W.heap.size, 0, none⟩) n n) (W.alloc (.cells (madeCells #[.int .u32 0] n) 84)) := fun W => make_u32 n (by omega) W
  have b1 : ((d : Int) == 0) = false := by simp; omega
  have HL := Lib.hid ha.len
  go_enter Tryz.func131, Tryz.ntmps131
  go_wp2
  go_loopw [7, 8] (fun re i wr => ∃ (k r : Nat) (ys : List Nat), k ≤ n ∧ i = .int .i64 ((k : Int) - 1) ∧ re = .int .u64 r ∧ r < d ∧ ShInv w n d xs wr k r ys) (fun _ i _ => (intOf i + 1).toNat)
  case atStart =>
    refine ⟨n, 0, _, by omega, rfl, rfl, hd, Row.made w n, limbs_zeros _, by simp, ?_, (Below.refl _ _).alloc (Nat.le_refl _) _⟩
    rw [List.drop_of_length_le (by rw [HL.out]; exact Nat.le_refl _), List.drop_of_length_le (by simp)]; simp [val]
  case round =>
    obtain ⟨k, r, ys, hk, rfl, rfl, hr, HI⟩ := hrel
    rcases Nat.eq_zero_or_pos k with rfl | h0
    · go_wp2
      go_ret2
      have hv' := HI.eqn
      rw [List.drop_zero, List.drop_zero] at hv'
      refine ⟨_, ys, ?_, HI.row.len_lim HI.lim n HI.len (by omega), ?_, HI.bel⟩
      · exact retT2 (by rw [hv', Nat.mul_comm, Nat.mul_add_mod, Nat.mod_eq_of_lt hr])
      · rw [hv', Nat.mul_comm, Nat.mul_add_div hd, Nat.div_eq_of_lt hr, Nat.add_zero]
    · obtain ⟨k, rfl⟩ : ∃ j, k = j + 1 := ⟨k - 1, by omega⟩
      obtain ⟨ad, rfl, _, x, hx, hxl, hcx⟩ := (ha.below (HI.bel.mono hB)).at_ (show k < n by omega)
      have hc := HI.row.cell (k := k) (by rw [HI.len]; omega)
      have hf := HI.row.frozen k
      obtain ⟨hv1, HJ⟩ := HI.step (by omega) HL.out hd hx.out hr hxl
      have hm := Nat.mod_lt (r * 4294967296 + x) hd
      have i0 : ((k + 1 : Nat) : Int) - 1 = (k : Int) := by omega
      rw [i0]
      have e2 : ((r : Int) * 4294967296 + x) % (d : Int) = (((r * 4294967296 + x) % d : Nat) : Int) := by rw [Int.natCast_emod, Int.natCast_add, Int.natCast_mul]; rfl
      have e3 : ((r : Int) * 4294967296 + x) / (d : Int) % 4294967296 = (((r * 4294967296 + x) / d : Nat) : Int) := by
        have h : ((r : Int) * 4294967296 + x) / (d : Int) = (((r * 4294967296 + x) / d : Nat) : Int) := by rw [Int.natCast_ediv, Int.natCast_add, Int.natCast_mul]; rfl
        rw [h]; exact Int.emod_eq_of_lt (Int.natCast_nonneg _) (Int.ofNat_lt.2 hv1)
      have E2 := Lib.hid e2
      have E3 := Lib.hid e3
      clear e2 e3 i0
      go_wp2
      rw [E2.out, E3.out]
      exact ⟨⟨k, _, _, by omega, rfl, rfl, hm, HJ⟩, by simp [intOf] <;> omega⟩
end Go.Proofs.YtlpoboikompjfaaGreatDoor
namespace Go.Proofs.YtlpoboikompjfaaGreatDoor
open Go.RowKit
/-- Two integers come back. -/
def RetII (w : World) (x y : Int) (e : Ending) (w' : World) : Prop := ∃ g1 A1 n1 c1 g2 A2 n2 c2, e = .returned (.tuple #[.agg #[.bool g1, .slice A1 n1 c1], .agg #[.bool g2, .slice A2 n2 c2]]) ∧ IsInt w' g1 A1 n1 c1 x ∧ IsInt w' g2 A2 n2 c2 y ∧ Below w.heap.size w w'
/-- Both results, stored into two new structs of the call's own. -/
theorem RetII.stored {w W w1 w2 : World} {q r : Int} {g1 g2 : Bool} {A1 A2 : Option Addr} {n1 c1 n2 c2 g : Nat} (hi1 : IsInt w1 g1 A1 n1 c1 q) (hi2 : IsInt w2 g2 A2 n2 c2 r) (hb2 : Below w1.heap.size w1 w2) (hB : Below w.heap.size w W) (hW : Below W.heap.size W w1) (hg : w.heap.size ≤ g)
    (S0 : Slot2 w2 g (.bool false) (.slice none 0 0)) (S1 : Slot2 w2 (g + 1) (.bool false) (.slice none 0 0)) :
    RetII w q r (.returned (.tuple #[.agg #[.bool g1, .slice A1 n1 c1], .agg #[.bool g2, .slice A2 n2 c2]])) ((((w2.setCell ⟨g, 0, none⟩ (.bool g1)).setCell ⟨g, 1, none⟩ (.slice A1 n1 c1)).setCell ⟨g + 1, 0, none⟩ (.bool g2)).setCell ⟨g + 1, 1, none⟩ (.slice A2 n2 c2)) := by
  obtain ⟨k0, k1, _, _, _⟩ := S0
  obtain ⟨l0, l1, _, _, _⟩ := S1.far2 (g' := g) (by omega) (.bool g1) (.slice A1 n1 c1)
  have B2 : Below w.heap.size w w2 := (hB.trans (hW.mono hB.size)).trans (hb2.mono (Nat.le_trans hB.size hW.size))
  exact ⟨_, _, _, _, _, _, _, _, rfl, ((hi1.below hb2).stored k0 k1 rfl rfl _ _).stored l0 l1 rfl rfl _ _, (hi2.stored k0 k1 rfl rfl _ _).stored l0 l1 rfl rfl _ _, (((B2.setCell hg _).setCell hg _).setCell (Nat.le_succ_of_le hg) _).setCell (Nat.le_succ_of_le hg) _⟩
theorem frame02 (w : World) : Below w.heap.size w ((w.alloc (.cells #[.bool false, .slice none 0 0] 26)).alloc (.cells #[.bool false, .slice none 0 0] 26)) ∧
    Slot2 ((w.alloc (.cells #[.bool false, .slice none 0 0] 26)).alloc (.cells #[.bool false, .slice none 0 0] 26)) w.heap.size (.bool false) (.slice none 0 0) ∧
    Slot2 ((w.alloc (.cells #[.bool false, .slice none 0 0] 26)).alloc (.cells #[.bool false, .slice none 0 0] 26)) (w.heap.size + 1) (.bool false) (.slice none 0 0) := by
  refine ⟨((Below.refl _ _).alloc (Nat.le_refl _) _).alloc (by simp) _, (Slot2.new w _ _ _).alloc _, ?_⟩
  have := Slot2.new (w.alloc (.cells #[.bool false, .slice none 0 0] 26)) (.bool false) (.slice none 0 0) 26
  rwa [World.size_alloc] at this
theorem val_one (r : Nat) : val [r] = r := by simp [val]
set_option maxHeartbeats 1000000 in
theorem rdiv_one (A A' : Option Addr) (n c d a b : Nat) (w : World) (ha : Lim w w.heap.size A n c (digs a)) (hb : Lim w w.heap.size A' 1 d (digs b)) (hn : n ≤ 100000) :
    Calls Tryz.prog 110 #[.slice A n c, .slice A' 1 d] w (RetII w ((a / b : Nat) : Int) ((a % b : Nat) : Int)) := by
  have hb0 : 0 < b := by
    rcases Nat.eq_zero_or_pos b with h | h
    · have := hb.len; rw [h, digs_zero] at this; simp at this
    · exact h
  have hb1 : digs b = [b] := by
    have h1 := digs_pos hb0
    have h2 := hb.len
    rw [h1] at h2
    have h3 : digs (b / 4294967296) = [] := by simpa using h2
    have h4 : b / 4294967296 = 0 := digs_ne.1 h3
    rw [h1, h3, Nat.mod_eq_of_lt (by omega)]
  have hbl : b < 4294967296 := by
    have := limbs_digs b; rw [hb1] at this; exact this b (by simp)
  have HC : ∀ W, Below w.heap.size w W → ∃ ad : Addr, A' = some ad ∧ W.cell? ad = some (.int .u32 (b : Int)) := fun W hW => by
    obtain ⟨ad, e, _, x, hx, _, hc⟩ := (hb.below hW).at_ (k := 0) (by omega)
    rw [hb1] at hx
    have hx' := hx.out
    simp at hx'
    subst hx'
    refine ⟨ad, e, ?_⟩
    rwa [show ad.add 0 = ad by unfold Addr.add; simp] at hc
  have H1 := fun W (hW : Below w.heap.size w W) => short_any A n c w.heap.size b (digs a) W (ha.below hW) hW.size (by omega) hb0 hbl
  have H2 := fun A2 n2 c2 zs (W : World) (v : Nat) (hz : Lim W W.heap.size A2 n2 c2 zs) (hl : zs.length ≤ 1000000) (hv : val zs = v) => made_val false A2 n2 c2 v (v : Int) zs W hz hl hv rfl
  rw [val_digs] at H1
  obtain ⟨HB, P0, P1⟩ := frame02 w
  obtain ⟨ad, rfl, hcb⟩ := HC _ HB
  have H1' := Lib.hid H1
  have H2' := Lib.hid H2
  have HM := Lib.hid (Nat.mod_lt a hb0)
  clear H1 H2 HC hb1
  go_enter Tryz.func110, Tryz.ntmps110
  go_wp2_with fail
  refine (H1'.out _ HB).mono ?_
  rintro e w1 ⟨A1, zs, rfl, hl1, hv1, hb1⟩
  have HV1 := Lib.hid hv1
  clear hv1 hcb
  go_wp2_with fail
  refine (H2'.out _ _ _ zs w1 _ hl1 (by rw [hl1.len]; omega) HV1.out).mono ?_
  rintro e w2 ⟨g2, A2, n2, c2, rfl, hi2, hb2⟩
  have hl3 := (row_new w2 [a % b] #[.int .u32 ((a : Int) % (b : Int))] (by simp [ints])).len_lim (by intro z hz; have := HM.out; simp at hz; omega) 1 rfl (by omega)
  have D3 : Below w2.heap.size w2 (w2.alloc (.cells #[.int .u32 ((a : Int) % (b : Int))] 84)) := (Below.refl _ _).alloc (Nat.le_refl _) _
  go_wp2_with fail
  refine (H2'.out _ _ _ [a % b] _ _ hl3 (by simp) (val_one _)).mono ?_
  rintro e w4 ⟨g4, A4, n4, c4, rfl, hi4, hb4⟩
  have E1 := Below.trans hb1 (hb2.mono hb1.size)
  have E2 := Below.trans D3 (hb4.mono D3.size)
  have S0 := ((P0.after hb1).after hb2).after E2
  have S1 := ((P1.after hb1).after hb2).after E2
  have ⟨k0, k1, k2, k3, _⟩ := S0
  have ⟨m0, m1, m2, m3, _⟩ := S1
  go_wp2
  exact bodyPost_ret (v := .tuple #[.agg #[.bool g2, .slice A2 n2 c2], .agg #[.bool g4, .slice A4 n4 c4]]) (by simp [results, Tryz.results110, go_sem, k0, k1, m0, m1]) rfl
    (RetII.stored (hi2) hi4 E2 HB E1 (Nat.le_refl _) S0 S1)
end Go.Proofs.YtlpoboikompjfaaGreatDoor
namespace Go.Proofs.YtlpoboikompjfaaGreatDoor
open Go.RowKit
/-- A block of limbs of the call's own is an owned row. -/
theorem Row.own {w : World} {g : Nat} {xs : List Nat} (h : Row w g xs) {base n : Nat} (hb : base ≤ g) (hl : xs.length = n) (hn : n ≤ 1000000) : Own w base (.slice (some ⟨g, 0, none⟩) n n) n xs :=
  ⟨by rw [ints_len, hl, Nat.mul_one], .inr ⟨g, n, (ints xs).toArray, rfl, hb, h, Nat.le_refl _, by unfold maxLen; omega, by simp [ints, hl], by rw [Nat.mul_one, List.take_of_length_le (by simp [ints, hl])]⟩⟩
theorem two_limbs (wr : World) (g : Nat) (hg : wr.heap.size = g) (a b : Nat) (ha : a < 4294967296) (hb : b < 4294967296) (u v : Int) (hu : u = (a : Int)) (hv : v = (b : Int)) :
    Lim (wr.alloc (.cells #[.int .u32 u, .int .u32 v] 84)) (g + 1) (some ⟨g, 0, none⟩) 2 2 [a, b] := by
  subst hu hv hg
  have := (row_new wr [a, b] _ rfl).len_lim (by intro z hz; simp at hz; omega) 2 rfl (by omega)
  rwa [World.size_alloc] at this
theorem val_two' (k t : Nat) : val (List.replicate k 0 ++ [t % 4294967296, t / 4294967296]) = t * 4294967296 ^ k := by
  rw [val_append, val_zeros, List.length_replicate, Nat.zero_add, Nat.mul_comm]
  congr 1
  simp only [val]; omega
theorem made_row (w : World) (o : Obj) (q k : Nat) : Row (((w.alloc o).drewN q).alloc (.cells (madeCells #[.int .u32 0] k) 84)) (w.heap.size + 1) (List.replicate k 0) := by
  have h := Row.made ((w.alloc o).drewN q) k
  rwa [show ((w.alloc o).drewN q).heap.size = w.heap.size + 1 by simp] at h
/-- An estimate of the quotient comes back. -/
def RetEst (w : World) (r d : Nat) (e : Ending) (w' : World) : Prop := ∃ s : Nat, RetInt w (s : Int) e w' ∧ 1 ≤ s ∧ s * d ≤ r
set_option maxRecDepth 100000 in
set_option maxHeartbeats 2000000 in
theorem est_eq (A A' : Option Addr) (m c d r dd : Nat) (w : World) (ha : Lim w w.heap.size A (m + 1) c (digs r)) (hb : Lim w w.heap.size A' (m + 1) d (digs dd)) (hn : m ≤ 100000) (hle : dd ≤ r) :
    Calls Tryz.prog 132 #[.slice A (m + 1) c, .slice A' (m + 1) d] w (RetEst w r dd) := by
  have HE := Lib.hid (est_zero ha.len hb.len hle)
  have HB : Below w.heap.size w (w.alloc (.cells #[.bool false, .slice none 0 0] 26)) := (Below.refl _ _).alloc (Nat.le_refl _) _
  have R0 := Slot2.new w (.bool false) (.slice none 0 0) 26
  obtain ⟨ad, rfl, _, x, hx, hxl, hcx⟩ := (ha.below HB).at_ (k := m) (by omega)
  obtain ⟨ad', rfl, _, y, hy, hyl, hcy⟩ := (hb.below HB).at_ (k := m) (by omega)
  rw [← hx.out, ← hy.out] at HE
  have hmc := ha.cap
  have hmd := hb.cap
  obtain ⟨t, ht⟩ : ∃ t, t = x / (y + 1) := ⟨_, rfl⟩
  have htl : t < 4294967296 := by rw [ht]; exact Nat.lt_of_le_of_lt (Nat.div_le_self _ _) hxl
  have e1 : (x : Int) / ((y : Int) + 1) = (t : Int) := by rw [ht, Int.natCast_ediv]; rfl
  rw [← ht] at HE
  clear ht ha hb
  have b1 : ((y : Int) + 1 == 0) = false := by simp; omega
  have i1 : ((m + 1 : Nat) : Int) - 1 = (m : Int) := by omega
  have i2 : ((m + 1 : Nat) : Int) - ((m + 1 : Nat) : Int) = 0 := by omega
  rcases Nat.lt_or_ge 1 t with h1 | h1
  · go_enter Tryz.func132, Tryz.ntmps132
    go_wp2
    go_quiet (fail)
    go_wp2_with fail
    try rw [show max (1 : Int) (t : Int) = (t : Int) by omega]
    refine (rof_any (t : Int) _ (by omega) (by omega)).mono ?_
    rintro e w2 ⟨g2, A2, n2, c2, rfl, hi2, hb2⟩
    obtain ⟨k0, k1, _, _, _⟩ := (R0.drewN nq).after hb2
    go_wp2
    exact bodyPost_ret (v := .agg #[.bool g2, .slice A2 n2 c2]) (by simp [results, Tryz.results132, go_sem, k0, k1]) rfl
      ⟨_, RetInt.stored hi2 (Below.drewN' HB _) hb2 (Nat.le_refl _) k0 k1 rfl rfl, by omega, by have := HE.out; rwa [Nat.max_eq_right (by omega)] at this⟩
  · go_enter Tryz.func132, Tryz.ntmps132
    go_wp2
    go_quiet (fail)
    go_wp2_with fail
    try rw [show max (1 : Int) (t : Int) = 1 by omega]
    refine (rof_any 1 _ (by omega) (by omega)).mono ?_
    rintro e w2 ⟨g2, A2, n2, c2, rfl, hi2, hb2⟩
    obtain ⟨k0, k1, _, _, _⟩ := (R0.drewN nq).after hb2
    go_wp2
    exact bodyPost_ret (v := .agg #[.bool g2, .slice A2 n2 c2]) (by simp [results, Tryz.results132, go_sem, k0, k1]) rfl
      ⟨1, RetInt.stored hi2 (Below.drewN' HB _) hb2 (Nat.le_refl _) k0 k1 rfl rfl, by omega, by rw [Nat.one_mul]; exact hle⟩
set_option maxRecDepth 100000 in
set_option maxHeartbeats 2000000 in
theorem est_gt (A A' : Option Addr) (m k c d r dd : Nat) (w : World) (ha : Lim w w.heap.size A (m + 1 + (k + 1)) c (digs r)) (hb : Lim w w.heap.size A' (m + 1) d (digs dd)) (hn : m + k ≤ 100000) :
    Calls Tryz.prog 132 #[.slice A (m + 1 + (k + 1)) c, .slice A' (m + 1) d] w (RetEst w r dd) := by
  have HE := Lib.hid (est_more ha.len hb.len)
  have HB : Below w.heap.size w (w.alloc (.cells #[.bool false, .slice none 0 0] 26)) := (Below.refl _ _).alloc (Nat.le_refl _) _
  have R0 := Slot2.new w (.bool false) (.slice none 0 0) 26
  obtain ⟨ad', e', _, y, hy, hyl, hcy⟩ := (hb.below HB).at_ (k := m) (by omega)
  obtain ⟨ad, e, _, x, hx, hxl, hcx⟩ := (ha.below HB).at_ (k := m + k + 1) (by omega)
  subst e e'
  obtain ⟨_, e, _, x2, hx2, hxl2, hcx2⟩ := (ha.below HB).at_ (k := m + k) (by omega)
  obtain rfl := Option.some.inj e
  have hcx3 := hcx
  rw [show ad.add (m + k + 1) = ⟨ad.block, ad.off + (m + k + 1), none⟩ by unfold Addr.add; exact if_neg (by omega)] at hcx3
  rw [← hx.out, ← hy.out, ← hx2.out] at HE
  have hmc := ha.cap
  have hmd := hb.cap
  obtain ⟨t, ht⟩ : ∃ t, t = (x * 4294967296 + x2) / (y + 1) := ⟨_, rfl⟩
  have htl : t < 18446744073709551616 := by rw [ht]; exact Nat.lt_of_le_of_lt (Nat.div_le_self _ _) (by omega)
  have e1 : ((x : Int) * 4294967296 + x2) / ((y : Int) + 1) = (t : Int) := by rw [ht, Int.natCast_ediv, Int.natCast_add, Int.natCast_mul]; rfl
  rw [← ht] at HE
  clear ht ha hb
  have b1 : ((y : Int) + 1 == 0) = false := by simp; omega
  have b2 : ((m : Int) + 1 + (k + 1) - (m + 1) == 0) = false := by simp; omega
  have b3 : ((k : Int) + 1 == 0) = false := by simp; omega
  have i1 : (m : Int) + 1 + (k + 1) - (m + 1) = k + 1 := by omega
  have i2 : (m : Int) + 1 + (k + 1) - 1 = m + k + 1 := by omega
  have i3 : (m : Int) + 1 + (k + 1) - 2 = m + k := by omega
  have j1 : ((m : Int) + k + 1).toNat = m + k + 1 := by omega
  have j2 : ((m : Int) + k).toNat = m + k := by omega
  go_enter Tryz.func132, Tryz.ntmps132
  go_wp2
  have w0 : IntKind.i64.wrap ((m : Int) + k + 1) = (m : Int) + k + 1 := by rw [IntKind.wrap_i64]; omega
  have w1 : IntKind.i64.wrap ((m : Int) + k) = (m : Int) + k := by rw [IntKind.wrap_i64]; omega
  have w2 : IntKind.i64.wrap ((k : Int) + 1) = (k : Int) + 1 := by rw [IntKind.wrap_i64]; omega
  have n0 : (0 : Int) ≤ (m : Int) + k + 1 := by omega
  have n1 : (m : Int) + k + 1 < (m : Int) + 1 + (k + 1) := by omega
  have n2 : (0 : Int) ≤ (m : Int) + k := by omega
  have n3 : (m : Int) + k < (m : Int) + 1 + (k + 1) := by omega
  have w3 : IntKind.u64.wrap ((x : Int) * 4294967296) = (x : Int) * 4294967296 := by rw [IntKind.wrap_u64]; omega
  have w4 : IntKind.u64.wrap ((x : Int) * 4294967296 + x2) = (x : Int) * 4294967296 + x2 := by rw [IntKind.wrap_u64]; omega
  go_quiet (fail)
  go_wp2
  go_quiet (fail)
  clear w0 w1 w2 w3 w4
  simp only [e1]
  have hmk : ∀ W : World, (Instr.makeSlice 22 (.int .i64 (k : Int)) (.int .i64 (k : Int))).run Tryz.prog W =
    .ok (.slice (some ⟨W.heap.size, 0, none⟩) k k) (W.alloc (.cells (madeCells #[.int .u32 0] k) 84)) := fun W => make_u32 k (by omega) W
  go_wp2_with (at_builtin; refine wpList_append_lim _ rfl (.tmp 57) (.tmp 63) rfl (w.heap.size + 1) (.slice (some ⟨w.heap.size + 1, 0, none⟩) k k) k (List.replicate k 0) rfl ?h1 ?h2 (w.heap.size + 1 + 1 + 1) (some ⟨w.heap.size + 1 + 1, 0, none⟩) 2 2 [t % 4294967296, t / 4294967296] rfl ?h3 ?h4 ?h5 ?h6)
  case h1 => exact ((made_row _ _ _ _).own (Nat.le_refl _) (by simp) (by omega)).keep ((Below.refl _ _).alloc (Nat.le_refl _) _)
  case h2 => exact limbs_zeros _
  case h3 => exact two_limbs _ _ (by simp) _ _ (by omega) (by omega) _ _ (by omega) (by omega)
  case h4 => omega
  case h5 => simp
  case h6 =>
    intro A1 c1 w1 hl ho hg
    have RG := (((R0.drewN _).alloc _).alloc _).grown hg (by simp [Value.ownBlock])
    have B1 : Below w.heap.size w w1 := (((Below.drewN' HB _).alloc (by simp) _).alloc (by simp; omega) _).grown hg (by simp; omega) (fun j hj => by simp [Value.ownBlock] at hj; omega)
    clear hg ho
    go_wp2_with fail
    refine (made_val false _ _ _ _ ((t * 4294967296 ^ k : Nat) : Int) _ _ hl (by simp; omega) (val_two' _ _) rfl).mono ?_
    rintro e w2 ⟨g2, A2, n2, c2, rfl, hi2, hb2⟩
    obtain ⟨k0, k1, _, _, _⟩ := RG.after hb2
    go_wp2
    exact bodyPost_ret (v := .agg #[.bool g2, .slice A2 n2 c2]) (by simp [results, Tryz.results132, go_sem, k0, k1]) rfl
      ⟨_, RetInt.stored hi2 B1 hb2 (Nat.le_refl _) k0 k1 rfl rfl, Nat.mul_pos HE.out.1 (Nat.pow_pos (by decide)), HE.out.2⟩
end Go.Proofs.YtlpoboikompjfaaGreatDoor
namespace Go.Proofs.YtlpoboikompjfaaGreatDoor
open Go.RowKit
theorem getD_ltR {xs : List Nat} (hL : Limbs xs) (k : Nat) : xs.getD k 0 < 4294967296 := by
  rw [List.getD_eq_getElem?_getD]
  rcases Nat.lt_or_ge k xs.length with h | h
  · rw [List.getElem?_eq_getElem h]; exact hL _ (List.getElem_mem _)
  · rw [List.getElem?_eq_none h]; exact Nat.zero_lt_succ _
theorem isInt_zeroR (w : World) : IsInt w false none 0 0 0 := ⟨by simp, by simpa [digs_zero] using Lim.none_ (by omega)⟩
theorem mulS_z (g g' : Bool) (A A' : Option Addr) (n c m d : Nat) (w : World) {a S : Nat} (ha : IsInt w g A n c (a : Int)) (hb : IsInt w g' A' m d (S : Int)) (h : (digs a).length ≤ 90000 ∧ (digs S).length ≤ 1) :
    Calls Tryz.prog 43 #[.agg #[.bool g, .slice A n c], .agg #[.bool g', .slice A' m d]] w (RetInt w ((a * S : Nat) : Int)) := by
  have h1 : n ≤ 90000 := ha.len_le (by rw [Int.natAbs_natCast]; exact h.1)
  have h2 : m ≤ 1 := hb.len_le (by rw [Int.natAbs_natCast]; exact h.2)
  have := rmul_any g g' A A' n c m d a S w ha hb (by omega) (by omega)
  rwa [← Int.natCast_mul] at this
theorem est_all (A A' : Option Addr) (n m c d r dd : Nat) (w : World) (ha : Lim w w.heap.size A n c (digs r)) (hb : Lim w w.heap.size A' m d (digs dd)) (hn : n ≤ 100000) (_hm : m ≤ 100000) (h0 : 0 < dd) (hle : dd ≤ r) :
    Calls Tryz.prog 132 #[.slice A n c, .slice A' m d] w (RetEst w r dd) := by
  have h1 : m ≤ n := by rw [← ha.len, ← hb.len]; exact digs_len_mono hle
  have h2 : 0 < m := by rw [← hb.len]; exact digs_len_pos h0
  obtain ⟨k, rfl⟩ : ∃ k, m = k + 1 := ⟨m - 1, by omega⟩
  rcases Nat.lt_or_ge (k + 1) n with h3 | h3
  · obtain ⟨l, rfl⟩ : ∃ l, n = k + 1 + (l + 1) := ⟨n - k - 2, by omega⟩
    exact est_gt A A' k l c d r dd w ha hb (by omega)
  · obtain rfl : n = k + 1 := by omega
    exact est_eq A A' k c d r dd w ha hb (by omega) hle
set_option maxRecDepth 1000000 in
set_option maxHeartbeats 4000000 in
theorem rdiv_more (A A' : Option Addr) (n c m dc a b : Nat) (w : World) (ha : Lim w w.heap.size A n c (digs a)) (hb : Lim w w.heap.size A' m dc (digs b)) (hn : n ≤ 80000) (hm : m ≤ 80000) (h2 : 2 ≤ m) :
    Calls Tryz.prog 110 #[.slice A n c, .slice A' m dc] w (RetII w ((a / b : Nat) : Int) ((a % b : Nat) : Int)) := by
  have hb0 : 0 < b := by
    rcases Nat.eq_zero_or_pos b with h | h
    · exfalso; subst h; have := hb.len; rw [digs_zero] at this; simp at this; omega
    · exact h
  obtain ⟨j, hj⟩ : ∃ j, m = j + 1 := ⟨m - 1, by omega⟩
  have htop := (digs_top (k := j) (by rw [hb.len, hj])).2
  have htl := getD_ltR (limbs_digs b) j
  obtain ⟨t, ht⟩ : ∃ t, t = (digs b).getD j 0 := ⟨_, rfl⟩
  rw [← ht] at htop htl
  have HC : ∀ W, Below w.heap.size w W → ∃ ad : Addr, A' = some ad ∧ W.cell? (ad.add (m - 1)) = some (.int .u32 (t : Int)) := fun W hW => by
    obtain ⟨ad, e, _, x, hx, _, hc⟩ := (hb.below hW).at_ (k := m - 1) (by omega)
    have hx' := hx.out
    rw [show m - 1 = j by omega, ← ht] at hx'
    subst hx'
    exact ⟨ad, e, hc⟩
  obtain ⟨HB, P0, P1⟩ := frame02 w
  obtain ⟨ad, rfl, hct⟩ := HC _ HB
  have b1 : ((m : Int) == 1) = false := by simp; omega
  have i1 : IntKind.i64.wrap ((m : Int) - 1) = (m : Int) - 1 := by rw [IntKind.wrap_i64]; omega
  clear HC
  have HT := Lib.hid ht
  clear ht
  have HJ := Lib.hid hj
  clear hj
  go_enter Tryz.func110, Tryz.ntmps110
  go_wp2
  go_loop [8] (fun s8 => ∃ S : Nat, s8 = .int .u32 S ∧ 1 ≤ S ∧ S < 4294967296) (fun s8 => (4294967296 - intOf s8).toNat)
  case atStart => exact ⟨1, by go_num, by omega, by omega⟩
  case round =>
    obtain ⟨S, rfl, hS1, hS2⟩ := hrel
    obtain ⟨p, hp⟩ : ∃ p, p = t * S := ⟨_, rfl⟩
    have hpl : p ≤ 4294967295 * 4294967295 := by rw [hp]; exact Nat.mul_le_mul (by omega) (by omega)
    have hpe : (t : Int) * (S : Int) = (p : Int) := by rw [hp]; exact (Int.natCast_mul t S).symm
    have hps : S ≤ p := by rw [hp]; exact Nat.le_mul_of_pos_left _ (by omega)
    have HP := Lib.hid hp
    clear hp
    by_cases hlt : p < 2147483648
    · have hlt' : (p : Int) < 2147483648 := by omega
      go_wp2
      exact ⟨⟨2 * S, by go_num, by omega, by omega⟩, by simp [intOf]; omega⟩
    · have hlt' : ¬ (p : Int) < 2147483648 := by omega
      have hl0 := (row_new ((w.alloc (.cells #[.bool false, .slice none 0 0] 26)).alloc (.cells #[.bool false, .slice none 0 0] 26)) [S] #[.int .u32 (S : Int)] (by simp [ints])).len_lim (by intro z hz; simp at hz; omega) 1 rfl (by omega)
      rw [show ((w.alloc (.cells #[.bool false, .slice none 0 0] 26)).alloc (.cells #[.bool false, .slice none 0 0] 26)).heap.size = w.heap.size + 1 + 1 by simp] at hl0
      have D0 := (Below.refl ((w.alloc (.cells #[.bool false, .slice none 0 0] 26)).alloc (.cells #[.bool false, .slice none 0 0] 26)).heap.size _).alloc (Nat.le_refl _) (.cells #[.int .u32 (S : Int)] 84)
      go_wp2_with fail
      (with_reducible refine (made_val false _ _ _ S (S : Int) [S] _ hl0 (by simp) (val_one _) rfl).mono ?_)
      rintro e w4 ⟨gF, AF, nF, cF, rfl, iF, bF⟩
      have E0 := Below.trans D0 (bF.mono D0.size)
      have P0' := P0.after E0
      have P1' := P1.after E0
      have B4 := HB.trans (E0.mono HB.size)
      have SF := Slot2.new w4 (.bool gF) (.slice AF nF cF) 26
      have DF := (Below.refl w4.heap.size w4).alloc (Nat.le_refl _) (.cells #[.bool gF, .slice AF nF cF] 26)
      have IF := iF.below DF
      have P0F := P0'.after DF
      have P1F := P1'.after DF
      have BF := B4.trans (DF.mono B4.size)
      have MA := fun W (hW : Below w.heap.size w W) => Made_any false A n c w.heap.size (digs a) W (ha.below hW) hW.size (by omega)
      have MB := fun W (hW : Below w.heap.size w W) => Made_any false (some ad) m dc w.heap.size (digs b) W (hb.below hW) hW.size (by omega)
      have za : zOf false a = (a : Int) := rfl
      have zb : zOf false b = (b : Int) := rfl
      simp only [val_digs, za, zb] at MA MB
      have LA : (digs a).length ≤ 90000 ∧ (digs S).length ≤ 1 := ⟨by rw [ha.len]; omega, digs_len_le (by omega)⟩
      have LB : (digs b).length ≤ 90000 ∧ (digs S).length ≤ 1 := ⟨by rw [hb.len]; omega, digs_len_le (by omega)⟩
      have hal := lt_digs_len a
      rw [ha.len] at hal
      clear hl0 D0 bF E0 P0 P1 hct P0' P1' B4 DF iF za zb ha hb HT
      go_wp2_with fail
      generalize w4.alloc (.cells #[.bool gF, .slice AF nF cF] 26) = wF at *
      go_cut [10, 11, 12] (fun p10 p11 p12 wx => ∃ g0 g1 g2 : Nat, p10 = .pointer (some ⟨g0, 0, none⟩) ∧ p11 = .pointer (some ⟨g1, 0, none⟩) ∧ p12 = .pointer (some ⟨g2, 0, none⟩) ∧ IntAt wx g0 ((a * S : Nat) : Int) ∧ IntAt wx g1 ((b * S : Nat) : Int) ∧ IntAt wx g2 0 ∧ g0 ≠ g1 ∧ g0 ≠ g2 ∧ g1 ≠ g2 ∧ wF.heap.size ≤ g0 ∧ wF.heap.size ≤ g1 ∧ wF.heap.size ≤ g2 ∧ Below wF.heap.size wF wx)
      case first =>
        as_aux_lemma =>
          have HXF : Hid (∀ W, Below wF.heap.size wF W → Slot2 W w4.heap.size (.bool gF) (.slice AF nF cF)) := fun W hW => SF.after hW
          have HMA : Hid (∀ W, Below wF.heap.size wF W → Calls Tryz.prog 57 #[.slice A n c, .bool false] W (RetInt W (a : Int))) := fun W hW => MA W (BF.trans (hW.mono BF.size))
          have HMB : Hid (∀ W, Below wF.heap.size wF W → Calls Tryz.prog 57 #[.slice (some ad) m dc, .bool false] W (RetInt W (b : Int))) := fun W hW => MB W (BF.trans (hW.mono BF.size))
          have HAS := Lib.hid LA
          have HBS := Lib.hid LB
          clear SF MA MB LA LB
          refine wp_region_ev (fun d a0 a' w' => ∃ u48 u49 u50 u51 u52 u53 u54 u55 u56 u10 u11 u12 : Value, a' = ((((((((((((a0.put (some 48) u48).put (some 49) u49).put (some 50) u50).put (some 51) u51).put (some 52) u52).put (some 53) u53).put (some 54) u54).put (some 55) u55).put (some 56) u56).put (some 10) u10).put (some 11) u11).put (some 12) u12) ∧ Below wF.heap.size wF w' ∧ (d 0 = true → u48 = .slice A n c) ∧ (d 1 = true → IntV w' u49 ((a : Int))) ∧ (d 2 = true → u50 = .agg #[.bool gF, .slice AF nF cF]) ∧ (d 3 = true → IntV w' u51 (((a * S : Nat) : Int))) ∧ (d 4 = true → u52 = .slice (some ad) m dc) ∧ (d 5 = true → IntV w' u53 ((b : Int))) ∧ (d 6 = true → u54 = .agg #[.bool gF, .slice AF nF cF]) ∧ (d 7 = true → IntV w' u55 (((b * S : Nat) : Int))) ∧ (d 8 = true → IntV w' u56 (0)) ∧ (d 9 = true → OwnP wF.heap.size w' u10 (d 12) (((a * S : Nat) : Int))) ∧ (d 10 = true → OwnP wF.heap.size w' u11 (d 13) (((b * S : Nat) : Int))) ∧ (d 11 = true → OwnP wF.heap.size w' u12 (d 14) (0)) ∧ (d 9 = true → d 10 = true → u10 ≠ u11) ∧ (d 9 = true → d 11 = true → u10 ≠ u12) ∧ (d 10 = true → d 11 = true → u11 ≠ u12) ∧ (d 12 = true → d 9 = true) ∧ (d 13 = true → d 10 = true) ∧ (d 14 = true → d 11 = true)) (by kernel_rfl) (by kernel_rfl) ?_ ?_ ?_ ?_
          · intro d d' h a' w' hh
            obtain rfl : d = d' := funext h
            exact hh
          · exact ⟨_, _, _, _, _, _, _, _, _, _, _, _, (by simp only [Act.put, List.setIfInBounds_toArray, List.set_cons_zero, List.set_cons_succ]; rfl), (Below.refl _ _).drew, (fun h => by cases h), (fun h => by cases h), (fun h => by cases h), (fun h => by cases h), (fun h => by cases h), (fun h => by cases h), (fun h => by cases h), (fun h => by cases h), (fun h => by cases h), (fun h => by cases h), (fun h => by cases h), (fun h => by cases h), (fun h => by cases h), (fun h => by cases h), (fun h => by cases h), (fun h => by cases h), (fun h => by cases h), (fun h => by cases h)⟩
          · refine ⟨?_, ?_, ?_, ?_, ?_, ?_, ?_, ?_, ?_, ?_, ?_, ?_, ?_, ?_, ?_, trivial⟩
            · intro d a2 w2 hd hm ⟨u48, u49, u50, u51, u52, u53, u54, u55, u56, u10, u11, u12, e, HB, f0, f1, f2, f3, f4, f5, f6, f7, f8, f9, f10, f11, n01, n02, n12, t0, t1, t2⟩ K hK
              subst e
              simp only [Act.put, List.setIfInBounds_toArray, List.set_cons_zero, List.set_cons_succ]
              go_simp
              exact hK.out _ _ ⟨.slice A n c, u49, u50, u51, u52, u53, u54, u55, u56, u10, u11, u12, (by simp only [Act.put, List.setIfInBounds_toArray, List.set_cons_zero, List.set_cons_succ]), HB, (fun _ => rfl), (fun h => (f1 (by simpa using h))), (fun h => f2 (by simpa using h)), (fun h => (f3 (by simpa using h))), (fun h => f4 (by simpa using h)), (fun h => (f5 (by simpa using h))), (fun h => f6 (by simpa using h)), (fun h => (f7 (by simpa using h))), (fun h => (f8 (by simpa using h))), (fun h => by simpa using (f9 (by simpa using h))), (fun h => by simpa using (f10 (by simpa using h))), (fun h => by simpa using (f11 (by simpa using h))), (fun h h' => n01 (by simpa using h) (by simpa using h')), (fun h h' => n02 (by simpa using h) (by simpa using h')), (fun h h' => n12 (by simpa using h) (by simpa using h')), (fun h => by simpa using t0 (by simpa using h)), (fun h => by simpa using t1 (by simpa using h)), (fun h => by simpa using t2 (by simpa using h))⟩
            · intro d a2 w2 hd hm ⟨u48, u49, u50, u51, u52, u53, u54, u55, u56, u10, u11, u12, e, HB, f0, f1, f2, f3, f4, f5, f6, f7, f8, f9, f10, f11, n01, n02, n12, t0, t1, t2⟩ K hK
              subst e
              simp only [Act.put, List.setIfInBounds_toArray, List.set_cons_zero, List.set_cons_succ]
              obtain rfl := f0 (hm ⟨0, .data⟩ (by simp) rfl)
              clear f0
              go_simp
              (with_reducible refine (HMA.out _ HB).mono ?_)
              rintro e w3 ⟨gg, AA, nn, cc, rfl, hi, hb⟩
              have HB3 := HB.trans (hb.mono HB.size)
              go_wp2_with fail
              exact hK.out _ _ ⟨.slice A n c, .agg #[.bool gg, .slice AA nn cc], u50, u51, u52, u53, u54, u55, u56, u10, u11, u12, (by simp only [Act.put, List.setIfInBounds_toArray, List.set_cons_zero, List.set_cons_succ]), HB3, (fun _ => rfl), (fun _ => ⟨_, _, _, _, rfl, hi⟩), (fun h => f2 (by simpa using h)), (fun h => (f3 (by simpa using h)).below hb), (fun h => f4 (by simpa using h)), (fun h => (f5 (by simpa using h)).below hb), (fun h => f6 (by simpa using h)), (fun h => (f7 (by simpa using h)).below hb), (fun h => (f8 (by simpa using h)).below hb), (fun h => by simpa using (f9 (by simpa using h)).below hb), (fun h => by simpa using (f10 (by simpa using h)).below hb), (fun h => by simpa using (f11 (by simpa using h)).below hb), (fun h h' => n01 (by simpa using h) (by simpa using h')), (fun h h' => n02 (by simpa using h) (by simpa using h')), (fun h h' => n12 (by simpa using h) (by simpa using h')), (fun h => by simpa using t0 (by simpa using h)), (fun h => by simpa using t1 (by simpa using h)), (fun h => by simpa using t2 (by simpa using h))⟩
            · intro d a2 w2 hd hm ⟨u48, u49, u50, u51, u52, u53, u54, u55, u56, u10, u11, u12, e, HB, f0, f1, f2, f3, f4, f5, f6, f7, f8, f9, f10, f11, n01, n02, n12, t0, t1, t2⟩ K hK
              subst e
              simp only [Act.put, List.setIfInBounds_toArray, List.set_cons_zero, List.set_cons_succ]
              obtain ⟨q0, q1, _, _, _⟩ := HXF.out w2 HB
              go_simp
              exact hK.out _ _ ⟨u48, u49, .agg #[.bool gF, .slice AF nF cF], u51, u52, u53, u54, u55, u56, u10, u11, u12, (by simp only [Act.put, List.setIfInBounds_toArray, List.set_cons_zero, List.set_cons_succ]), HB, (fun h => f0 (by simpa using h)), (fun h => (f1 (by simpa using h))), (fun _ => rfl), (fun h => (f3 (by simpa using h))), (fun h => f4 (by simpa using h)), (fun h => (f5 (by simpa using h))), (fun h => f6 (by simpa using h)), (fun h => (f7 (by simpa using h))), (fun h => (f8 (by simpa using h))), (fun h => by simpa using (f9 (by simpa using h))), (fun h => by simpa using (f10 (by simpa using h))), (fun h => by simpa using (f11 (by simpa using h))), (fun h h' => n01 (by simpa using h) (by simpa using h')), (fun h h' => n02 (by simpa using h) (by simpa using h')), (fun h h' => n12 (by simpa using h) (by simpa using h')), (fun h => by simpa using t0 (by simpa using h)), (fun h => by simpa using t1 (by simpa using h)), (fun h => by simpa using t2 (by simpa using h))⟩
            · intro d a2 w2 hd hm ⟨u48, u49, u50, u51, u52, u53, u54, u55, u56, u10, u11, u12, e, HB, f0, f1, f2, f3, f4, f5, f6, f7, f8, f9, f10, f11, n01, n02, n12, t0, t1, t2⟩ K hK
              subst e
              simp only [Act.put, List.setIfInBounds_toArray, List.set_cons_zero, List.set_cons_succ]
              obtain ⟨G1, A1, N1, C1, rfl, I1⟩ := f1 (hm ⟨1, .data⟩ (by simp) rfl)
              obtain rfl := f2 (hm ⟨2, .data⟩ (by simp) rfl)
              clear f2
              go_simp
              (with_reducible refine (mulS_z _ _ _ _ _ _ _ _ _ I1 (IF.below HB) HAS.out).mono ?_)
              rintro e w3 ⟨gg, AA, nn, cc, rfl, hi, hb⟩
              have HB3 := HB.trans (hb.mono HB.size)
              go_wp2_with fail
              exact hK.out _ _ ⟨u48, .agg #[.bool G1, .slice A1 N1 C1], .agg #[.bool gF, .slice AF nF cF], .agg #[.bool gg, .slice AA nn cc], u52, u53, u54, u55, u56, u10, u11, u12, (by simp only [Act.put, List.setIfInBounds_toArray, List.set_cons_zero, List.set_cons_succ]), HB3, (fun h => f0 (by simpa using h)), (fun h => (f1 (by simpa using h)).below hb), (fun _ => rfl), (fun _ => ⟨_, _, _, _, rfl, hi⟩), (fun h => f4 (by simpa using h)), (fun h => (f5 (by simpa using h)).below hb), (fun h => f6 (by simpa using h)), (fun h => (f7 (by simpa using h)).below hb), (fun h => (f8 (by simpa using h)).below hb), (fun h => by simpa using (f9 (by simpa using h)).below hb), (fun h => by simpa using (f10 (by simpa using h)).below hb), (fun h => by simpa using (f11 (by simpa using h)).below hb), (fun h h' => n01 (by simpa using h) (by simpa using h')), (fun h h' => n02 (by simpa using h) (by simpa using h')), (fun h h' => n12 (by simpa using h) (by simpa using h')), (fun h => by simpa using t0 (by simpa using h)), (fun h => by simpa using t1 (by simpa using h)), (fun h => by simpa using t2 (by simpa using h))⟩
            · intro d a2 w2 hd hm ⟨u48, u49, u50, u51, u52, u53, u54, u55, u56, u10, u11, u12, e, HB, f0, f1, f2, f3, f4, f5, f6, f7, f8, f9, f10, f11, n01, n02, n12, t0, t1, t2⟩ K hK
              subst e
              simp only [Act.put, List.setIfInBounds_toArray, List.set_cons_zero, List.set_cons_succ]
              go_simp
              exact hK.out _ _ ⟨u48, u49, u50, u51, .slice (some ad) m dc, u53, u54, u55, u56, u10, u11, u12, (by simp only [Act.put, List.setIfInBounds_toArray, List.set_cons_zero, List.set_cons_succ]), HB, (fun h => f0 (by simpa using h)), (fun h => (f1 (by simpa using h))), (fun h => f2 (by simpa using h)), (fun h => (f3 (by simpa using h))), (fun _ => rfl), (fun h => (f5 (by simpa using h))), (fun h => f6 (by simpa using h)), (fun h => (f7 (by simpa using h))), (fun h => (f8 (by simpa using h))), (fun h => by simpa using (f9 (by simpa using h))), (fun h => by simpa using (f10 (by simpa using h))), (fun h => by simpa using (f11 (by simpa using h))), (fun h h' => n01 (by simpa using h) (by simpa using h')), (fun h h' => n02 (by simpa using h) (by simpa using h')), (fun h h' => n12 (by simpa using h) (by simpa using h')), (fun h => by simpa using t0 (by simpa using h)), (fun h => by simpa using t1 (by simpa using h)), (fun h => by simpa using t2 (by simpa using h))⟩
            · intro d a2 w2 hd hm ⟨u48, u49, u50, u51, u52, u53, u54, u55, u56, u10, u11, u12, e, HB, f0, f1, f2, f3, f4, f5, f6, f7, f8, f9, f10, f11, n01, n02, n12, t0, t1, t2⟩ K hK
              subst e
              simp only [Act.put, List.setIfInBounds_toArray, List.set_cons_zero, List.set_cons_succ]
              obtain rfl := f4 (hm ⟨4, .data⟩ (by simp) rfl)
              clear f4
              go_simp
              (with_reducible refine (HMB.out _ HB).mono ?_)
              rintro e w3 ⟨gg, AA, nn, cc, rfl, hi, hb⟩
              have HB3 := HB.trans (hb.mono HB.size)
              go_wp2_with fail
              exact hK.out _ _ ⟨u48, u49, u50, u51, .slice (some ad) m dc, .agg #[.bool gg, .slice AA nn cc], u54, u55, u56, u10, u11, u12, (by simp only [Act.put, List.setIfInBounds_toArray, List.set_cons_zero, List.set_cons_succ]), HB3, (fun h => f0 (by simpa using h)), (fun h => (f1 (by simpa using h)).below hb), (fun h => f2 (by simpa using h)), (fun h => (f3 (by simpa using h)).below hb), (fun _ => rfl), (fun _ => ⟨_, _, _, _, rfl, hi⟩), (fun h => f6 (by simpa using h)), (fun h => (f7 (by simpa using h)).below hb), (fun h => (f8 (by simpa using h)).below hb), (fun h => by simpa using (f9 (by simpa using h)).below hb), (fun h => by simpa using (f10 (by simpa using h)).below hb), (fun h => by simpa using (f11 (by simpa using h)).below hb), (fun h h' => n01 (by simpa using h) (by simpa using h')), (fun h h' => n02 (by simpa using h) (by simpa using h')), (fun h h' => n12 (by simpa using h) (by simpa using h')), (fun h => by simpa using t0 (by simpa using h)), (fun h => by simpa using t1 (by simpa using h)), (fun h => by simpa using t2 (by simpa using h))⟩
            · intro d a2 w2 hd hm ⟨u48, u49, u50, u51, u52, u53, u54, u55, u56, u10, u11, u12, e, HB, f0, f1, f2, f3, f4, f5, f6, f7, f8, f9, f10, f11, n01, n02, n12, t0, t1, t2⟩ K hK
              subst e
              simp only [Act.put, List.setIfInBounds_toArray, List.set_cons_zero, List.set_cons_succ]
              obtain ⟨q0, q1, _, _, _⟩ := HXF.out w2 HB
              go_simp
              exact hK.out _ _ ⟨u48, u49, u50, u51, u52, u53, .agg #[.bool gF, .slice AF nF cF], u55, u56, u10, u11, u12, (by simp only [Act.put, List.setIfInBounds_toArray, List.set_cons_zero, List.set_cons_succ]), HB, (fun h => f0 (by simpa using h)), (fun h => (f1 (by simpa using h))), (fun h => f2 (by simpa using h)), (fun h => (f3 (by simpa using h))), (fun h => f4 (by simpa using h)), (fun h => (f5 (by simpa using h))), (fun _ => rfl), (fun h => (f7 (by simpa using h))), (fun h => (f8 (by simpa using h))), (fun h => by simpa using (f9 (by simpa using h))), (fun h => by simpa using (f10 (by simpa using h))), (fun h => by simpa using (f11 (by simpa using h))), (fun h h' => n01 (by simpa using h) (by simpa using h')), (fun h h' => n02 (by simpa using h) (by simpa using h')), (fun h h' => n12 (by simpa using h) (by simpa using h')), (fun h => by simpa using t0 (by simpa using h)), (fun h => by simpa using t1 (by simpa using h)), (fun h => by simpa using t2 (by simpa using h))⟩
            · intro d a2 w2 hd hm ⟨u48, u49, u50, u51, u52, u53, u54, u55, u56, u10, u11, u12, e, HB, f0, f1, f2, f3, f4, f5, f6, f7, f8, f9, f10, f11, n01, n02, n12, t0, t1, t2⟩ K hK
              subst e
              simp only [Act.put, List.setIfInBounds_toArray, List.set_cons_zero, List.set_cons_succ]
              obtain ⟨G5, A5, N5, C5, rfl, I5⟩ := f5 (hm ⟨5, .data⟩ (by simp) rfl)
              obtain rfl := f6 (hm ⟨6, .data⟩ (by simp) rfl)
              clear f6
              go_simp
              (with_reducible refine (mulS_z _ _ _ _ _ _ _ _ _ I5 (IF.below HB) HBS.out).mono ?_)
              rintro e w3 ⟨gg, AA, nn, cc, rfl, hi, hb⟩
              have HB3 := HB.trans (hb.mono HB.size)
              go_wp2_with fail
              exact hK.out _ _ ⟨u48, u49, u50, u51, u52, .agg #[.bool G5, .slice A5 N5 C5], .agg #[.bool gF, .slice AF nF cF], .agg #[.bool gg, .slice AA nn cc], u56, u10, u11, u12, (by simp only [Act.put, List.setIfInBounds_toArray, List.set_cons_zero, List.set_cons_succ]), HB3, (fun h => f0 (by simpa using h)), (fun h => (f1 (by simpa using h)).below hb), (fun h => f2 (by simpa using h)), (fun h => (f3 (by simpa using h)).below hb), (fun h => f4 (by simpa using h)), (fun h => (f5 (by simpa using h)).below hb), (fun _ => rfl), (fun _ => ⟨_, _, _, _, rfl, hi⟩), (fun h => (f8 (by simpa using h)).below hb), (fun h => by simpa using (f9 (by simpa using h)).below hb), (fun h => by simpa using (f10 (by simpa using h)).below hb), (fun h => by simpa using (f11 (by simpa using h)).below hb), (fun h h' => n01 (by simpa using h) (by simpa using h')), (fun h h' => n02 (by simpa using h) (by simpa using h')), (fun h h' => n12 (by simpa using h) (by simpa using h')), (fun h => by simpa using t0 (by simpa using h)), (fun h => by simpa using t1 (by simpa using h)), (fun h => by simpa using t2 (by simpa using h))⟩
            · intro d a2 w2 hd hm ⟨u48, u49, u50, u51, u52, u53, u54, u55, u56, u10, u11, u12, e, HB, f0, f1, f2, f3, f4, f5, f6, f7, f8, f9, f10, f11, n01, n02, n12, t0, t1, t2⟩ K hK
              subst e
              simp only [Act.put, List.setIfInBounds_toArray, List.set_cons_zero, List.set_cons_succ]
              go_simp
              exact hK.out _ _ ⟨u48, u49, u50, u51, u52, u53, u54, u55, .agg #[.bool false, .slice none 0 0], u10, u11, u12, (by simp only [Act.put, List.setIfInBounds_toArray, List.set_cons_zero, List.set_cons_succ]), HB, (fun h => f0 (by simpa using h)), (fun h => (f1 (by simpa using h))), (fun h => f2 (by simpa using h)), (fun h => (f3 (by simpa using h))), (fun h => f4 (by simpa using h)), (fun h => (f5 (by simpa using h))), (fun h => f6 (by simpa using h)), (fun h => (f7 (by simpa using h))), (fun _ => ⟨_, _, _, _, rfl, isInt_zeroR _⟩), (fun h => by simpa using (f9 (by simpa using h))), (fun h => by simpa using (f10 (by simpa using h))), (fun h => by simpa using (f11 (by simpa using h))), (fun h h' => n01 (by simpa using h) (by simpa using h')), (fun h h' => n02 (by simpa using h) (by simpa using h')), (fun h h' => n12 (by simpa using h) (by simpa using h')), (fun h => by simpa using t0 (by simpa using h)), (fun h => by simpa using t1 (by simpa using h)), (fun h => by simpa using t2 (by simpa using h))⟩
            · intro d a2 w2 hd hm ⟨u48, u49, u50, u51, u52, u53, u54, u55, u56, u10, u11, u12, e, HB, f0, f1, f2, f3, f4, f5, f6, f7, f8, f9, f10, f11, n01, n02, n12, t0, t1, t2⟩ K hK
              subst e
              simp only [Act.put, List.setIfInBounds_toArray, List.set_cons_zero, List.set_cons_succ]
              have hb : Below w2.heap.size w2 (w2.alloc (.cells #[.bool false, .slice none 0 0] 26)) := (Below.refl _ _).alloc (Nat.le_refl _) _
              have HB3 := HB.trans (hb.mono HB.size)
              go_simp
              exact hK.out _ _ ⟨u48, u49, u50, u51, u52, u53, u54, u55, u56, .pointer (some ⟨w2.heap.size, 0, none⟩), u11, u12, (by simp only [Act.put, List.setIfInBounds_toArray, List.set_cons_zero, List.set_cons_succ]), HB3, (fun h => f0 (by simpa using h)), (fun h => (f1 (by simpa using h)).below hb), (fun h => f2 (by simpa using h)), (fun h => (f3 (by simpa using h)).below hb), (fun h => f4 (by simpa using h)), (fun h => (f5 (by simpa using h)).below hb), (fun h => f6 (by simpa using h)), (fun h => (f7 (by simpa using h)).below hb), (fun h => (f8 (by simpa using h)).below hb), (fun _ => by have hs : d 12 = false := (by cases hq : d 12 with | false => rfl | true => (have hz := t0 hq; rw [hd] at hz; cases hz)); simpa [hs] using OwnP.new HB.size (((a * S : Nat) : Int))), (fun h => by simpa using (f10 (by simpa using h)).below hb), (fun h => by simpa using (f11 (by simpa using h)).below hb), (fun _ h' => ((f10 (by simpa using h')).lt).symm), (fun _ h' => ((f11 (by simpa using h')).lt).symm), (fun h h' => n12 (by simpa using h) (by simpa using h')), (fun _ => by simp), (fun h => by simpa using t1 (by simpa using h)), (fun h => by simpa using t2 (by simpa using h))⟩
            · intro d a2 w2 hd hm ⟨u48, u49, u50, u51, u52, u53, u54, u55, u56, u10, u11, u12, e, HB, f0, f1, f2, f3, f4, f5, f6, f7, f8, f9, f10, f11, n01, n02, n12, t0, t1, t2⟩ K hK
              subst e
              simp only [Act.put, List.setIfInBounds_toArray, List.set_cons_zero, List.set_cons_succ]
              have hb : Below w2.heap.size w2 (w2.alloc (.cells #[.bool false, .slice none 0 0] 26)) := (Below.refl _ _).alloc (Nat.le_refl _) _
              have HB3 := HB.trans (hb.mono HB.size)
              go_simp
              exact hK.out _ _ ⟨u48, u49, u50, u51, u52, u53, u54, u55, u56, u10, .pointer (some ⟨w2.heap.size, 0, none⟩), u12, (by simp only [Act.put, List.setIfInBounds_toArray, List.set_cons_zero, List.set_cons_succ]), HB3, (fun h => f0 (by simpa using h)), (fun h => (f1 (by simpa using h)).below hb), (fun h => f2 (by simpa using h)), (fun h => (f3 (by simpa using h)).below hb), (fun h => f4 (by simpa using h)), (fun h => (f5 (by simpa using h)).below hb), (fun h => f6 (by simpa using h)), (fun h => (f7 (by simpa using h)).below hb), (fun h => (f8 (by simpa using h)).below hb), (fun h => by simpa using (f9 (by simpa using h)).below hb), (fun _ => by have hs : d 13 = false := (by cases hq : d 13 with | false => rfl | true => (have hz := t1 hq; rw [hd] at hz; cases hz)); simpa [hs] using OwnP.new HB.size (((b * S : Nat) : Int))), (fun h => by simpa using (f11 (by simpa using h)).below hb), (fun h _ => (f9 (by simpa using h)).lt), (fun h h' => n02 (by simpa using h) (by simpa using h')), (fun _ h' => ((f11 (by simpa using h')).lt).symm), (fun h => by simpa using t0 (by simpa using h)), (fun _ => by simp), (fun h => by simpa using t2 (by simpa using h))⟩
            · intro d a2 w2 hd hm ⟨u48, u49, u50, u51, u52, u53, u54, u55, u56, u10, u11, u12, e, HB, f0, f1, f2, f3, f4, f5, f6, f7, f8, f9, f10, f11, n01, n02, n12, t0, t1, t2⟩ K hK
              subst e
              simp only [Act.put, List.setIfInBounds_toArray, List.set_cons_zero, List.set_cons_succ]
              have hb : Below w2.heap.size w2 (w2.alloc (.cells #[.bool false, .slice none 0 0] 26)) := (Below.refl _ _).alloc (Nat.le_refl _) _
              have HB3 := HB.trans (hb.mono HB.size)
              go_simp
              exact hK.out _ _ ⟨u48, u49, u50, u51, u52, u53, u54, u55, u56, u10, u11, .pointer (some ⟨w2.heap.size, 0, none⟩), (by simp only [Act.put, List.setIfInBounds_toArray, List.set_cons_zero, List.set_cons_succ]), HB3, (fun h => f0 (by simpa using h)), (fun h => (f1 (by simpa using h)).below hb), (fun h => f2 (by simpa using h)), (fun h => (f3 (by simpa using h)).below hb), (fun h => f4 (by simpa using h)), (fun h => (f5 (by simpa using h)).below hb), (fun h => f6 (by simpa using h)), (fun h => (f7 (by simpa using h)).below hb), (fun h => (f8 (by simpa using h)).below hb), (fun h => by simpa using (f9 (by simpa using h)).below hb), (fun h => by simpa using (f10 (by simpa using h)).below hb), (fun _ => by have hs : d 14 = false := (by cases hq : d 14 with | false => rfl | true => (have hz := t2 hq; rw [hd] at hz; cases hz)); simpa [hs] using OwnP.new HB.size (0)), (fun h h' => n01 (by simpa using h) (by simpa using h')), (fun h _ => (f9 (by simpa using h)).lt), (fun h _ => (f10 (by simpa using h)).lt), (fun h => by simpa using t0 (by simpa using h)), (fun h => by simpa using t1 (by simpa using h)), (fun _ => by simp)⟩
            · intro d a2 w2 hd hm ⟨u48, u49, u50, u51, u52, u53, u54, u55, u56, u10, u11, u12, e, HB, f0, f1, f2, f3, f4, f5, f6, f7, f8, f9, f10, f11, n01, n02, n12, t0, t1, t2⟩ K hK
              subst e
              simp only [Act.put, List.setIfInBounds_toArray, List.set_cons_zero, List.set_cons_succ]
              obtain ⟨gg, AA, nn, cc, rfl, hi⟩ := f3 (hm ⟨3, .data⟩ (by simp) rfl)
              obtain ⟨g, rfl, hg, b0, b1, hs, n0, n1, _⟩ := f9 (hm ⟨9, .data⟩ (by simp) rfl)
              obtain ⟨k0, k1, k2, k3, k4⟩ := id hs
              go_simp
              exact hK.out _ _ ⟨u48, u49, u50, .agg #[.bool gg, .slice AA nn cc], u52, u53, u54, u55, u56, .pointer (some ⟨g, 0, none⟩), u11, u12, (by simp only [Act.put, List.setIfInBounds_toArray, List.set_cons_zero, List.set_cons_succ]), Below.set2 HB hg _ _, (fun h => f0 (by simpa using h)), (fun h => (f1 (by simpa using h)).set2 hs n0 n1 _ _), (fun h => f2 (by simpa using h)), (fun h => (f3 (by simpa using h)).set2 hs n0 n1 _ _), (fun h => f4 (by simpa using h)), (fun h => (f5 (by simpa using h)).set2 hs n0 n1 _ _), (fun h => f6 (by simpa using h)), (fun h => (f7 (by simpa using h)).set2 hs n0 n1 _ _), (fun h => (f8 (by simpa using h)).set2 hs n0 n1 _ _), (fun _ => by simpa using OwnP.near hi hg hs n0 n1), (fun h => by simpa using (f10 (by simpa using h)).far ((n01 (hm ⟨9, .data⟩ (by simp) rfl) (by simpa using h)).symm) hs n0 n1 _ _), (fun h => by simpa using (f11 (by simpa using h)).far ((n02 (hm ⟨9, .data⟩ (by simp) rfl) (by simpa using h)).symm) hs n0 n1 _ _), (fun h h' => n01 (by simpa using h) (by simpa using h')), (fun h h' => n02 (by simpa using h) (by simpa using h')), (fun h h' => n12 (by simpa using h) (by simpa using h')), (fun _ => by simpa using hm ⟨9, .data⟩ (by simp) rfl), (fun h => by simpa using t1 (by simpa using h)), (fun h => by simpa using t2 (by simpa using h))⟩
            · intro d a2 w2 hd hm ⟨u48, u49, u50, u51, u52, u53, u54, u55, u56, u10, u11, u12, e, HB, f0, f1, f2, f3, f4, f5, f6, f7, f8, f9, f10, f11, n01, n02, n12, t0, t1, t2⟩ K hK
              subst e
              simp only [Act.put, List.setIfInBounds_toArray, List.set_cons_zero, List.set_cons_succ]
              obtain ⟨gg, AA, nn, cc, rfl, hi⟩ := f7 (hm ⟨7, .data⟩ (by simp) rfl)
              obtain ⟨g, rfl, hg, b0, b1, hs, n0, n1, _⟩ := f10 (hm ⟨10, .data⟩ (by simp) rfl)
              obtain ⟨k0, k1, k2, k3, k4⟩ := id hs
              go_simp
              exact hK.out _ _ ⟨u48, u49, u50, u51, u52, u53, u54, .agg #[.bool gg, .slice AA nn cc], u56, u10, .pointer (some ⟨g, 0, none⟩), u12, (by simp only [Act.put, List.setIfInBounds_toArray, List.set_cons_zero, List.set_cons_succ]), Below.set2 HB hg _ _, (fun h => f0 (by simpa using h)), (fun h => (f1 (by simpa using h)).set2 hs n0 n1 _ _), (fun h => f2 (by simpa using h)), (fun h => (f3 (by simpa using h)).set2 hs n0 n1 _ _), (fun h => f4 (by simpa using h)), (fun h => (f5 (by simpa using h)).set2 hs n0 n1 _ _), (fun h => f6 (by simpa using h)), (fun h => (f7 (by simpa using h)).set2 hs n0 n1 _ _), (fun h => (f8 (by simpa using h)).set2 hs n0 n1 _ _), (fun h => by simpa using (f9 (by simpa using h)).far (n01 (by simpa using h) (hm ⟨10, .data⟩ (by simp) rfl)) hs n0 n1 _ _), (fun _ => by simpa using OwnP.near hi hg hs n0 n1), (fun h => by simpa using (f11 (by simpa using h)).far ((n12 (hm ⟨10, .data⟩ (by simp) rfl) (by simpa using h)).symm) hs n0 n1 _ _), (fun h h' => n01 (by simpa using h) (by simpa using h')), (fun h h' => n02 (by simpa using h) (by simpa using h')), (fun h h' => n12 (by simpa using h) (by simpa using h')), (fun h => by simpa using t0 (by simpa using h)), (fun _ => by simpa using hm ⟨10, .data⟩ (by simp) rfl), (fun h => by simpa using t2 (by simpa using h))⟩
            · intro d a2 w2 hd hm ⟨u48, u49, u50, u51, u52, u53, u54, u55, u56, u10, u11, u12, e, HB, f0, f1, f2, f3, f4, f5, f6, f7, f8, f9, f10, f11, n01, n02, n12, t0, t1, t2⟩ K hK
              subst e
              simp only [Act.put, List.setIfInBounds_toArray, List.set_cons_zero, List.set_cons_succ]
              obtain ⟨gg, AA, nn, cc, rfl, hi⟩ := f8 (hm ⟨8, .data⟩ (by simp) rfl)
              obtain ⟨g, rfl, hg, b0, b1, hs, n0, n1, _⟩ := f11 (hm ⟨11, .data⟩ (by simp) rfl)
              obtain ⟨k0, k1, k2, k3, k4⟩ := id hs
              go_simp
              exact hK.out _ _ ⟨u48, u49, u50, u51, u52, u53, u54, u55, .agg #[.bool gg, .slice AA nn cc], u10, u11, .pointer (some ⟨g, 0, none⟩), (by simp only [Act.put, List.setIfInBounds_toArray, List.set_cons_zero, List.set_cons_succ]), Below.set2 HB hg _ _, (fun h => f0 (by simpa using h)), (fun h => (f1 (by simpa using h)).set2 hs n0 n1 _ _), (fun h => f2 (by simpa using h)), (fun h => (f3 (by simpa using h)).set2 hs n0 n1 _ _), (fun h => f4 (by simpa using h)), (fun h => (f5 (by simpa using h)).set2 hs n0 n1 _ _), (fun h => f6 (by simpa using h)), (fun h => (f7 (by simpa using h)).set2 hs n0 n1 _ _), (fun h => (f8 (by simpa using h)).set2 hs n0 n1 _ _), (fun h => by simpa using (f9 (by simpa using h)).far (n02 (by simpa using h) (hm ⟨11, .data⟩ (by simp) rfl)) hs n0 n1 _ _), (fun h => by simpa using (f10 (by simpa using h)).far (n12 (by simpa using h) (hm ⟨11, .data⟩ (by simp) rfl)) hs n0 n1 _ _), (fun _ => by simpa using OwnP.near hi hg hs n0 n1), (fun h h' => n01 (by simpa using h) (by simpa using h')), (fun h h' => n02 (by simpa using h) (by simpa using h')), (fun h h' => n12 (by simpa using h) (by simpa using h')), (fun h => by simpa using t0 (by simpa using h)), (fun h => by simpa using t1 (by simpa using h)), (fun _ => by simpa using hm ⟨11, .data⟩ (by simp) rfl)⟩
          · intro d a2 w2 hall ⟨u48, u49, u50, u51, u52, u53, u54, u55, u56, u10, u11, u12, e, HB, f0, f1, f2, f3, f4, f5, f6, f7, f8, f9, f10, f11, n01, n02, n12, t0, t1, t2⟩
            subst e
            simp only [Act.put, List.setIfInBounds_toArray, List.set_cons_zero, List.set_cons_succ]
            obtain rfl := f0 (hall _ (by decide))
            obtain rfl := f2 (hall _ (by decide))
            obtain rfl := f4 (hall _ (by decide))
            obtain rfl := f6 (hall _ (by decide))
            have x01 := n01 (hall _ (by decide)) (hall _ (by decide))
            have x02 := n02 (hall _ (by decide)) (hall _ (by decide))
            have x12 := n12 (hall _ (by decide)) (hall _ (by decide))
            obtain ⟨g0, rfl, h0, b0⟩ := OwnP.intAtB (by have := f9 (hall _ (by decide)); rwa [hall 12 (by decide)] at this)
            obtain ⟨g1, rfl, h1, b1⟩ := OwnP.intAtB (by have := f10 (hall _ (by decide)); rwa [hall 13 (by decide)] at this)
            obtain ⟨g2, rfl, h2, b2⟩ := OwnP.intAtB (by have := f11 (hall _ (by decide)); rwa [hall 14 (by decide)] at this)
            have e01 : g0 ≠ g1 := fun h => x01 (by rw [h])
            have e02 : g0 ≠ g2 := fun h => x02 (by rw [h])
            have e12 : g1 ≠ g2 := fun h => x12 (by rw [h])
            go_wp2_with fail
            go_meet
            exact ⟨g0, g1, g2, rfl, rfl, rfl, h0, h1, h2, e01, e02, e12, b0, b1, b2, HB⟩
      obtain ⟨g0, g1, g2, rfl, rfl, rfl, h0, h1, h2', e01, e02, e12, b0, b1', b2, BX⟩ := hcut
      have BW := BF.trans (BX.mono BF.size)
      have P0X := P0F.after BX
      have P1X := P1F.after BX
      have hwF := BF.size
      have hsz : w.heap.size + 2 ≤ wF.heap.size := P1F.2.2.2.2
      clear SF MA MB P0F P1F IF HB BX BF
      have HLA := Lib.hid LA
      have HLB := Lib.hid LB
      have HAL := Lib.hid hal
      clear LA LB hal
      obtain ⟨T, hT⟩ : ∃ T, T = b * S := ⟨_, rfl⟩
      obtain ⟨X, hX⟩ : ∃ X, X = a * S := ⟨_, rfl⟩
      rw [← hT] at h1
      rw [← hX] at h0
      have hT0 : 0 < T := by rw [hT]; exact Nat.mul_pos hb0 hS1
      have HTD := Lib.hid hT
      have HXD := Lib.hid hX
      clear hT hX
      go_wp2_with fail
      have HLEN : Hid (∀ {v : Nat} {W : World} {g : Bool} {B : Option Addr} {l k : Nat}, v ≤ X → IsInt W g B l k (v : Int) → l ≤ 90000) := fun hv hi => hi.len_le (Nat.le_trans (digs_len_mono hv) (by
        rw [HXD.out]
        have h1 := digs_len_mul a S
        have h2 := HLA.out
        have h3 : (digs a).length ≤ 80000 := Nat.le_trans (digs_len_le HAL.out) hn
        omega))
      have HLENT : Hid (∀ {W : World} {g : Bool} {B : Option Addr} {l k : Nat}, IsInt W g B l k (T : Int) → l ≤ 90001) := fun hi => hi.len_le (by
        rw [Int.natAbs_natCast, HTD.out]
        have h1 := digs_len_mul b S
        have h2 := HLB.out
        omega)
      go_loopg [13] X (fun r _ wr => ∃ q : Nat, IntAt wr g0 (r : Int) ∧ IntAt wr g1 (T : Int) ∧ IntAt wr g2 (q : Int) ∧ Hid (r + q * T = X) ∧ Below w.heap.size w wr ∧ Slot2 wr w.heap.size (.bool false) (.slice none 0 0) ∧ Slot2 wr (w.heap.size + 1) (.bool false) (.slice none 0 0))
      case atStart => exact ⟨0, h0, h1, h2', by simp [Hid], BW, P0X, P1X⟩
      case round =>
        obtain ⟨q, i0, i1', i2, hrq, BR, P0, P1⟩ := hrel
        obtain ⟨gr, Ar, nr, cr, Sr, Ir⟩ := i0
        obtain ⟨gt, At, nt, ct, St, It⟩ := i1'
        obtain ⟨gq, Aq, nq, cq, Sq, Iq⟩ := i2
        have hless := less_any Ar At nr cr nt ct _ _ _ _ wr Ir.lim It.lim
        rw [Int.natAbs_natCast, Int.natAbs_natCast, lessV_digs] at hless
        have ⟨k0, k1, _, _, _⟩ := Sr
        have ⟨k2, k3, _, _, _⟩ := St
        have hrx : gk ≤ X := by have := hrq.out; omega
        have hqx : q ≤ X := Nat.le_trans (Nat.le_mul_of_pos_right q hT0) (by have := hrq.out; omega)
        have hnr := HLEN.out hrx Ir
        have hnq := HLEN.out hqx Iq
        have hnt := HLENT.out It
        by_cases hlt : gk < T
        · rw [decide_eq_true hlt] at hless
          have HLESS := Lib.hid hless
          clear hless
          go_wp2_with fail
          refine HLESS.out.mono ?_
          rintro e w5 ⟨rfl, hd⟩
          have D5 := hd.below wr.heap.size
          have ⟨k4, k5, _, _, _⟩ := Sr.after D5
          have hsh := short_any Ar nr cr w5.heap.size S (digs gk) w5 (((Ir.below D5).lim)) (Nat.le_refl _) (by omega) (by omega) hS2
          rw [val_digs] at hsh
          have HSH := Lib.hid hsh
          clear hsh k0 k1 k2 k3
          go_wp2_with fail
          refine HSH.out.mono ?_
          rintro e w6 ⟨A6, zs, rfl, hl6, hv6, hb6⟩
          have hq6 := long_end (a := a) (b := b) (S := S) (v := gk) (q := q) hS1 hb0 (by rw [← HTD.out, ← HXD.out, Nat.mul_comm T]; exact hrq.out) (by rw [← HTD.out]; exact hlt)
          have HMD := fun W (hW : Below w6.heap.size w6 W) => made_val false A6 nr nr (a % b) ((a % b : Nat) : Int) zs W ((hl6.below hW).more hW.size) (by rw [hl6.len]; omega) (by rw [hv6, hq6.2]) rfl
          have D6 := D5.trans (hb6.mono D5.size)
          have I6 := Iq.below D6
          have S6 := Sq.after D6
          have P06 := P0.after D6
          have P16 := P1.after D6
          have B6 := BR.trans (D6.mono BR.size)
          rw [hq6.1] at I6
          have HMD' := Lib.hid HMD
          clear HMD hv6 hq6 k4 k5
          go_wp2_with fail
          have ⟨x0, x1, _, _, _⟩ := S6
          have ⟨y0, y1, y2, y3, _⟩ := P06
          have ⟨z0, z1, z2, z3, _⟩ := P16
          have hne : w.heap.size ≠ g2 := by omega
          go_region_with (go_at_call 57; (with_reducible refine (HMD'.out _ (by first | exact (Below.refl _ _).drew | exact Below.refl _ _)).mono ?_); rintro e w7 ⟨g7, A7, n7, c7, rfl, i7, b7⟩; have B7 : Below w6.heap.size w6 w7 := (by first | exact b7 | exact (Below.refl _ _).drew.trans b7); have ⟨x2, x3, _, _, _⟩ := S6.after B7; have ⟨y4, y5, y6, y7, _⟩ := P06.after B7; have ⟨z4, z5, z6, z7, _⟩ := P16.after B7)
          all_goals go_wp2
          all_goals refine bodyPost_ret (v := .tuple #[.agg #[.bool gq, .slice Aq nq cq], .agg #[.bool g7, .slice A7 n7 c7]]) ?_ rfl ?_
          any_goals exact RetII.stored I6 i7 B7 B6 (Below.refl _ _) (Nat.le_refl _) (P06.after B7) (P16.after B7)
          all_goals simp [results, Tryz.results110, go_sem, y4, y5, z4, z5]
        · rw [decide_eq_false hlt] at hless
          have HLESS := Lib.hid hless
          clear hless
          go_wp2_with fail
          refine HLESS.out.mono ?_
          rintro e w5 ⟨rfl, hd⟩
          have D5 := hd.below wr.heap.size
          have Sr5 := Sr.after D5
          have St5 := St.after D5
          have Sq5 := Sq.after D5
          have Ir5 := Ir.below D5
          have It5 := It.below D5
          have Iq5 := Iq.below D5
          have B5 := BR.trans (D5.mono BR.size)
          have P05 := P0.after D5
          have P15 := P1.after D5
          have hest := est_all Ar At nr nt cr ct gk T w5 Ir5.lim It5.lim (by omega) (by omega) hT0 (by omega)
          have HEST := Lib.hid hest
          clear hest Sr St Sq Ir It Iq D5 BR P0 P1 k0 k1 k2 k3
          have ⟨k0, k1, _, _, _⟩ := Sr5
          have ⟨k2, k3, _, _, _⟩ := St5
          go_wp2_with fail
          refine HEST.out.mono ?_
          rintro e w6 ⟨s, ⟨gs, As, ns, cs, rfl, is6, b6⟩, hs1, hs2⟩
          clear k0 k1 k2 k3
          have DA := (Below.refl w6.heap.size w6).alloc (Nat.le_refl _) (.cells #[.bool gs, .slice As ns cs] 26)
          have Ss7 := Slot2.new w6 (.bool gs) (.slice As ns cs) 26
          have Is7 := is6.below DA
          have D7 := b6.trans (DA.mono b6.size)
          have Sr7 := Sr5.after D7
          have St7 := St5.after D7
          have Sq7 := Sq5.after D7
          have Ir7 := Ir5.below D7
          have It7 := It5.below D7
          have Iq7 := Iq5.below D7
          have B7 := B5.trans (D7.mono B5.size)
          have P07 := P05.after D7
          have P17 := P15.after D7
          have hsx : s ≤ X := Nat.le_trans (Nat.le_mul_of_pos_right s hT0) (by omega)
          have hns := HLEN.out hsx is6
          have hg0l := (Sr5.after b6).2.2.2.2
          have hg1l := (St5.after b6).2.2.2.2
          have hg2l := (Sq5.after b6).2.2.2.2
          clear Sr5 St5 Sq5 Ir5 It5 Iq5 B5 P05 P15 is6 b6 DA D7 HLESS HEST
          have ⟨x0, x1, _, _, _⟩ := Sq7
          have ⟨y0, y1, _, _, _⟩ := Ss7
          go_wp2_with fail
          generalize w6.alloc (.cells #[.bool gs, .slice As ns cs] 26) = w7 at *
          generalize w6.heap.size = g3 at *
          have HADD := Lib.hid (radd_any gq gs Aq As nq cq ns cs (q : Int) (s : Int) w7 Iq7 Is7 (by omega) (by omega))
          refine HADD.out.mono ?_
          rintro e w8 ⟨g8, A8, n8, c8, rfl, i8, b8⟩
          have Sq8 := Sq7.after b8
          have ⟨u0, u1, u2, u3, _⟩ := Sq8
          have Sr9 := (Sr7.after b8).far2 e02 (.bool g8) (.slice A8 n8 c8)
          have St9 := (St7.after b8).far2 e12 (.bool g8) (.slice A8 n8 c8)
          have Ss9 := (Ss7.after b8).far2 (show g3 ≠ g2 by omega) (.bool g8) (.slice A8 n8 c8)
          have Iq9 := IntAt.near2 i8 Sq8 rfl rfl
          have Ir9 := (Ir7.below b8).set2 Sq8 rfl rfl (.bool g8) (.slice A8 n8 c8)
          have It9 := (It7.below b8).set2 Sq8 rfl rfl (.bool g8) (.slice A8 n8 c8)
          have Is9 := (Is7.below b8).set2 Sq8 rfl rfl (.bool g8) (.slice A8 n8 c8)
          have P09 := (P07.after b8).far2 (show w.heap.size ≠ g2 by omega) (.bool g8) (.slice A8 n8 c8)
          have P19 := (P17.after b8).far2 (show w.heap.size + 1 ≠ g2 by omega) (.bool g8) (.slice A8 n8 c8)
          have B9 := Below.set2 (B7.trans (b8.mono B7.size)) (show w.heap.size ≤ g2 by omega) (.bool g8) (.slice A8 n8 c8)
          clear x0 x1 y0 y1 Sr7 St7 Sq7 Ss7 Ir7 It7 Iq7 Is7 B7 P07 P17 b8 i8 HADD
          go_wp2_with fail
          clear u0 u1 u2 u3 Sq8
          generalize (w8.setCell ⟨g2, 0, none⟩ (.bool g8)).setCell ⟨g2, 1, none⟩ (.slice A8 n8 c8) = w9 at *
          have ⟨x0, x1, _, _, _⟩ := Sr9
          have ⟨x2, x3, _, _, _⟩ := St9
          have ⟨x4, x5, _, _, _⟩ := Ss9
          have HMUL : Hid (∀ W, Below w9.heap.size w9 W → Calls Tryz.prog 43 #[.agg #[.bool gs, .slice As ns cs], .agg #[.bool gt, .slice At nt ct]] W (RetInt W ((s : Int) * (T : Int)))) := fun W hW => rmul_any gs gt As At ns cs nt ct (s : Int) (T : Int) W (Is9.below hW) (It9.below hW) (by omega) (by omega)
          have HSUB : Hid (∀ W gm Am nm cm, Below w9.heap.size w9 W → IsInt W gm Am nm cm ((s : Int) * (T : Int)) → Calls Tryz.prog 96 #[.agg #[.bool gr, .slice Ar nr cr], .agg #[.bool gm, .slice Am nm cm]] W (RetInt W ((gk : Int) - (s : Int) * (T : Int)))) := fun W gm Am nm cm hW hi => rsub_any gr gm Ar Am nr cr nm cm (gk : Int) _ W (Ir9.below hW) hi (by omega) (by
            have h1 : ((s : Int) * (T : Int)) = ((s * T : Nat) : Int) := (Int.natCast_mul s T).symm
            rw [h1] at hi
            have := HLEN.out (v := s * T) (by omega) hi
            omega)
          have ITA : IntAt w9 g1 (T : Int) := ⟨gt, At, nt, ct, St9, It9⟩
          have hsT : 0 < s * T := Nat.mul_pos hs1 hT0
          have eR : ((gk : Int) - (s : Int) * (T : Int)) = ((gk - s * T : Nat) : Int) := by rw [Int.natCast_sub hs2, Int.natCast_mul]
          have eQ : ((q : Int) + (s : Int)) = ((q + s : Nat) : Int) := rfl
          rw [eQ] at Iq9
          have HER := Lib.hid eR
          clear eR eQ
          clear HLEN HLENT Ir9 It9 Is9
          go_region_with (first | (go_at_call 96; (with_reducible refine (HSUB.out _ _ _ _ _ B10 i10).mono ?_); rintro e w11 ⟨g11, A11, n11, c11, rfl, i11, b11⟩; have B11 := (B10.trans (b11.mono B10.size)); have ⟨v0, v1, v2, v3, _⟩ := Sr9.after B11) | (go_at_call 43; (with_reducible refine (HMUL.out _ (by first | exact (Below.refl _ _).drew | exact Below.refl _ _)).mono ?_); rintro e w10 ⟨g10, A10, n10, c10, rfl, i10, b10⟩; have B10 : Below w9.heap.size w9 w10 := (by first | exact b10 | exact (Below.refl _ _).drew.trans b10); have ⟨v4, v5, _, _, _⟩ := Sr9.after B10))
          all_goals go_wp2_with fail
          all_goals (
            rw [HER.out] at i11
            have Sr11 := Sr9.after B11
            have B12 := B9.trans (B11.mono B9.size)
            go_roundg (gk - s * T)
            case measure => omega
            case rel => exact ⟨q + s, IntAt.near2 i11 Sr11 rfl rfl, (ITA.after B11).far2 e01.symm Sr11 rfl rfl _ _, (Iq9.after B11).far2 e02.symm Sr11 rfl rfl _ _, by rw [Hid, Nat.add_mul]; have := hrq.out; omega, Below.set2 B12 (by omega) _ _, (P09.after B11).far2 (by omega) _ _, (P19.after B11).far2 (by omega) _ _⟩)
end Go.Proofs.YtlpoboikompjfaaGreatDoor
