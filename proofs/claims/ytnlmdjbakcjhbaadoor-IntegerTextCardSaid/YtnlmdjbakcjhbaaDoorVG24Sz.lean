/- Contracts in the form that the laws' walks use: sizes by a bound on the limbs, answers by facts on the integers. Contracts of torsionref01.Sub and Cmp. Contract of torsionref01.Mul. Contract of torsionref01.Pow. More contracts in the form that the laws' walks use: division, and the reference's operations. -/
import Derived.Test.YtnlmdjbakcjhbaaDoorVG3Made
import Derived.Test.YtnlmdjbakcjhbaaDoorVMul
import Derived.Test.YtnlmdjbakcjhbaaDoorVAdd
import Derived.Test.YtnlmdjbakcjhbaaDoorVG2TextA
import Derived.Test.YtnlmdjbakcjhbaaDoorVG1Int
import Derived.Test.YtnlmdjbakcjhbaaDoorVCmp
import Derived.Test.YtnlmdjbakcjhbaaDoorVG4DlOnce
import Derived.Test.YtnlmdjbakcjhbaaDoorVG6AddB
import Derived.Test.YtnlmdjbakcjhbaaDoorVG14DivModW
namespace Go.Proofs.YtnlmdjbakcjhbaaDoor
open Go.RowKit
/-- z has at most k limbs, and k is small. -/
structure Sz (k : Nat) (z : Int) : Prop where
  le : k ≤ 10000
  len : (digs z.natAbs).length ≤ k
theorem Sz.of {k : Nat} {z : Int} (h : z.natAbs < 4294967296 ^ k) (hk : k ≤ 10000) : Sz k z := ⟨hk, digs_len_le h⟩
theorem Sz.lt {k : Nat} {z : Int} (h : Sz k z) : z.natAbs < 4294967296 ^ k := Nat.lt_of_lt_of_le (lt_digs_len _) (Nat.pow_le_pow_right (by decide) h.len)
theorem Sz.mono {k l : Nat} {z : Int} (h : Sz k z) (hkl : k ≤ l) (hl : l ≤ 10000) : Sz l z := ⟨hl, Nat.le_trans h.len hkl⟩
theorem Sz.mul {k l : Nat} {a b : Int} (ha : Sz k a) (hb : Sz l b) (hk : k + l ≤ 10000) : Sz (k + l) (a * b) := by
  refine Sz.of ?_ hk
  rw [Int.natAbs_mul, Nat.pow_add]
  exact Nat.mul_lt_mul_of_lt_of_le ha.lt (Nat.le_of_lt hb.lt) (Nat.pow_pos (by decide))
theorem Sz.add {k : Nat} {a b : Int} (ha : Sz k a) (hb : Sz k b) (hk : k + 1 ≤ 10000) : Sz (k + 1) (a + b) := by
  refine Sz.of ?_ hk
  have h1 := ha.lt
  have h2 := hb.lt
  have h3 := Int.natAbs_add_le a b
  rw [Nat.pow_succ]
  omega
theorem Sz.neg {k : Nat} {a : Int} (ha : Sz k a) : Sz k (-a) := ⟨ha.le, by rw [Int.natAbs_neg]; exact ha.len⟩
theorem Sz.sub {k : Nat} {a b : Int} (ha : Sz k a) (hb : Sz k b) (hk : k + 1 ≤ 10000) : Sz (k + 1) (a - b) := by
  rw [Int.sub_eq_add_neg]; exact ha.add hb.neg hk
theorem Sz.raw (neg : Bool) (xs : List Nat) (k : Nat) (h : ∀ x ∈ xs, x < 4294967296) (hk : k ≤ 10000) : Sz k (zOf neg (val (xs.take k))) := by
  refine Sz.of ?_ hk
  rw [zOf_natAbs]
  have h1 := val_lt (limbs_take h k)
  exact Nat.lt_of_lt_of_le h1 (Nat.pow_le_pow_right (by decide) (by rw [List.length_take]; exact Nat.min_le_left _ _))
theorem IsInt.sz {w : World} {neg : Bool} {A : Option Addr} {n c k : Nat} {z : Int} (h : IsInt w neg A n c z) (s : Sz k z) : n ≤ 10000 := by
  rw [← h.lim.len]; exact Nat.le_trans s.len s.le
section
variable (neg neg' : Bool) (A A' : Option Addr) (n c m d : Nat) {k l : Nat} {a b : Int} (w : World)
theorem sub_z (ha : IsInt w neg A n c a) (hb : IsInt w neg' A' m d b) (sa : Sz k a) (sb : Sz l b) : Calls Tryd.prog 103 #[.agg #[.bool neg, .slice A n c], .agg #[.bool neg', .slice A' m d]] w (RetInt w (a - b)) :=
  sub_any neg neg' A A' n c m d a b w ha hb (Nat.le_trans (ha.sz sa) (by decide)) (Nat.le_trans (hb.sz sb) (by decide))
theorem mul_z' (ha : IsInt w neg A n c a) (hb : IsInt w neg' A' m d b) (sa : Sz k a) (sb : Sz l b) : Calls Tryd.prog 87 #[.agg #[.bool neg, .slice A n c], .agg #[.bool neg', .slice A' m d]] w (RetInt w (a * b)) :=
  mul_any neg neg' A A' n c m d a b w ha hb (Nat.le_trans (ha.sz sa) (by decide)) (Nat.le_trans (hb.sz sb) (by decide))
theorem same_z (ha : IsInt w neg A n c a) (hb : IsInt w neg' A' m d b) (h : a = b) : Calls Tryd.prog 13 #[.agg #[.bool neg, .slice A n c], .agg #[.bool neg', .slice A' m d]] w fun e w' => e = .returned (.bool true) ∧ Below w.heap.size w w' :=
  (same_any neg neg' A A' n c m d a b w ha hb).mono (by rintro e w' ⟨rfl, h2⟩; exact ⟨by rw [decide_eq_true h], h2⟩)
theorem same_v (v : Bool) (ha : IsInt w neg A n c a) (hb : IsInt w neg' A' m d b) (h : v = decide (a = b)) : Calls Tryd.prog 13 #[.agg #[.bool neg, .slice A n c], .agg #[.bool neg', .slice A' m d]] w fun e w' => e = .returned (.bool v) ∧ Below w.heap.size w w' := by
  subst h; exact same_any neg neg' A A' n c m d a b w ha hb
theorem sign_z (s : Int) (ha : IsInt w neg A n c a) (h : sgn a = s) : Calls Tryd.prog 52 #[.agg #[.bool neg, .slice A n c]] w fun e w' => e = .returned (.int .i64 s) ∧ Below w.heap.size w w' := by
  subst h; exact sign_any neg A n c a w ha
end
theorem sgn_zero {z : Int} (h : z = 0) : sgn z = 0 := by subst h; rfl
end Go.Proofs.YtnlmdjbakcjhbaaDoor
namespace Go.Proofs.YtnlmdjbakcjhbaaDoor
open Go.RowKit
theorem IsInt.len_eq {w w' : World} {neg neg' : Bool} {A A' : Option Addr} {n c m d : Nat} {z z' : Int} (h : IsInt w neg A n c z) (k : IsInt w' neg' A' m d z') (e : z.natAbs = z'.natAbs) : n = m := by
  rw [← h.lim.len, ← k.lim.len, e]
set_option maxHeartbeats 1000000 in
theorem rsub_any (neg neg' : Bool) (A A' : Option Addr) (n c m d : Nat) (a b : Int) (w : World) (ha : IsInt w neg A n c a) (hb : IsInt w neg' A' m d b) (hn : n ≤ 100000) (hm : m ≤ 100000) :
    Calls Tryd.prog 63 #[.agg #[.bool neg, .slice A n c], .agg #[.bool neg', .slice A' m d]] w (RetInt w (a - b)) := by
  have H1 := fun W (hW : Below w.heap.size w W) => rneg_any neg' A' m d b W (hb.below hW) (by omega)
  have H2 := fun (W W1 : World) (g1 : Bool) (A1 : Option Addr) (n1 c1 : Nat) (h1 : IsInt W1 g1 A1 n1 c1 (-b)) (hW : Below w.heap.size w W) (hW1 : Below W.heap.size W W1) =>
    radd_any neg g1 A A1 n c n1 c1 a (-b) W1 (ha.below (hW.trans (hW1.mono hW.size))) h1 hn (by rw [h1.len_eq hb (by simp)]; exact hm)
  rw [← Int.sub_eq_add_neg] at H2
  have H1' := Lib.hid H1
  have H2' := Lib.hid H2
  clear H1 H2
  obtain ⟨HB, P0, P1, R0⟩ := frame21 w (.bool neg) (.slice A n c) (.bool neg') (.slice A' m d)
  have HS : Hid (∀ W, Below (w.heap.size + 1 + 1) (((w.alloc (.cells #[.bool neg, .slice A n c] 27)).alloc (.cells #[.bool neg', .slice A' m d] 27)).alloc (.cells #[.bool false, .slice none 0 0] 27)) W → W.cell? ⟨w.heap.size, 0, none⟩ = some (.bool neg) ∧ W.cell? ⟨w.heap.size, 1, none⟩ = some (.slice A n c) ∧ W.cell? ⟨w.heap.size + 1, 0, none⟩ = some (.bool neg') ∧ W.cell? ⟨w.heap.size + 1, 1, none⟩ = some (.slice A' m d)) :=
    fun W hW => ⟨(P0.below hW (by omega)).1, (P0.below hW (by omega)).2.1, (P1.below hW (by omega)).1, (P1.below hW (by omega)).2.1⟩
  go_enter Tryd.func63, Tryd.ntmps63
  go_wp2_with fail
  go_region_held3 (fun W => W.cell? ⟨w.heap.size, 0, none⟩ = some (.bool neg) ∧ W.cell? ⟨w.heap.size, 1, none⟩ = some (.slice A n c) ∧ W.cell? ⟨w.heap.size + 1, 0, none⟩ = some (.bool neg') ∧ W.cell? ⟨w.heap.size + 1, 1, none⟩ = some (.slice A' m d)) (exact HS.out _ (by first | exact Below.refl _ _ | exact (Below.refl _ _).drew | exact Below.drewN' (Below.refl _ _) _ | exact (Below.drewN' (Below.refl _ _) _).drew | exact D1.mono (by omega) | exact D2.mono (by omega) | exact ((D2.mono (by omega)).setCell (by simp) _).setCell (by simp) _))
    (first
      | (go_at_call 64; refine (H1'.out _ (by first | exact HB | exact HB.drew | exact Below.drewN' HB _ | exact (Below.drewN' HB _).drew)).mono ?_; rintro e w1 ⟨neg1, A1, n1, c1, rfl, hi1, hb1⟩; have D1 := Below.trans (by first | exact Below.refl _ _ | exact (Below.refl _ _).drew | exact Below.drewN' (Below.refl _ _) _ | exact (Below.drewN' (Below.refl _ _) _).drew : Below (w.heap.size + 1 + 1 + 1) (((w.alloc (.cells #[.bool neg, .slice A n c] 27)).alloc (.cells #[.bool neg', .slice A' m d] 27)).alloc (.cells #[.bool false, .slice none 0 0] 27)) _) (hb1.mono (by simp)))
      | (go_at_call 27; refine (H2'.out _ _ _ _ _ _ hi1 HB (D1.mono (by simp))).mono ?_; rintro e w2 ⟨neg2, A2, n2, c2, rfl, hi2, hb2⟩; have D2 := D1.trans (hb2.mono (by have := D1.size; simp at this; omega)); obtain ⟨k0, k1, f0, f1, _⟩ := R0.below D2 (by omega)))
  go_wp2
  exact bodyPost_ret (v := .agg #[.bool neg2, .slice A2 n2 c2]) (by simp [results, Tryd.results63, go_sem, k0, k1]) rfl
    (RetInt.stored hi2 (HB.trans (D1.mono (by omega))) (hb2.mono (by omega)) (by omega) k0 k1 rfl rfl)
set_option maxHeartbeats 1000000 in
theorem rcmp_any (neg neg' : Bool) (A A' : Option Addr) (n c m d : Nat) (a b : Int) (w : World) (ha : IsInt w neg A n c a) (hb : IsInt w neg' A' m d b) (hn : n ≤ 100000) (hm : m ≤ 100000) :
    Calls Tryd.prog 25 #[.agg #[.bool neg, .slice A n c], .agg #[.bool neg', .slice A' m d]] w fun e w' => e = .returned (.int .i64 (cmpN a b)) ∧ Below w.heap.size w w' := by
  have H1 := fun W (hW : Below w.heap.size w W) => rsub_any neg neg' A A' n c m d a b W (ha.below hW) (hb.below hW) hn hm
  have H1' := Lib.hid H1
  have HZ := Lib.hid (show sgn (a - b) = cmpN a b by unfold sgn cmpN; split <;> split <;> first | rfl | omega | (split <;> first | rfl | omega))
  clear H1 ha hb
  obtain ⟨HB, P0, P1⟩ := frame20 w (.bool neg) (.slice A n c) (.bool neg') (.slice A' m d)
  go_enter Tryd.func25, Tryd.ntmps25
  go_wp2_with fail
  refine (H1'.out _ HB).mono ?_
  rintro e w1 ⟨neg1, A1, n1, c1, rfl, hi1, hb1⟩
  go_wp2_with fail
  refine (rsign_any _ _ _ _ _ _ hi1).mono ?_
  rintro e w2 ⟨rfl, hb2⟩
  go_wp2
  go_ret
  exact ⟨retI HZ.out, (HB.trans (hb1.mono HB.size)).trans (hb2.mono (HB.trans (hb1.mono HB.size)).size)⟩
end Go.Proofs.YtnlmdjbakcjhbaaDoor
namespace Go.Proofs.YtnlmdjbakcjhbaaDoor
open Go.RowKit
/-- The world in which the loops of Mul start. -/
def Wm (w : World) (a0 a1 b0 b1 : Value) : World := ((w.alloc (.cells #[a0, a1] 27)).alloc (.cells #[b0, b1] 27)).alloc (.cells #[.bool false, .slice none 0 0] 27)
theorem size_Wm (w : World) (a0 a1 b0 b1 : Value) : (Wm w a0 a1 b0 b1).heap.size = w.heap.size + 1 + 1 + 1 := by unfold Wm; simp
/-- What holds of the product at the outer loop's head. -/
structure MulOut (W : World) (g n m : Nat) (xs ys : List Nat) (wr : World) (k : Nat) (R : List Nat) : Prop where
  row : Row wr g R
  lim : Limbs R
  len : R.length = n + m + 1
  zero : ∀ j, k + m ≤ j → R.getD j 0 = 0
  eqn : val R = val (xs.take k) * val ys
  bel : Below g W wr
/-- What holds of it at the inner loop's head. -/
structure MulIn (W : World) (g n m k x : Nat) (ys R : List Nat) (wr : World) (l q : Nat) (S : List Nat) : Prop where
  row : Row wr g S
  lim : Limbs S
  len : S.length = n + m + 1
  zero : ∀ j, k + m + 1 ≤ j → S.getD j 0 = 0
  top : l ≤ m → S.getD (k + m) 0 = 0
  eqn : val S + q * (4294967296 ^ k * 4294967296 ^ l) = val R + x * val (ys.take l) * 4294967296 ^ k
  end_ : l = m + 1 → q = 0
  bel : Below g W wr
theorem MulIn.step {W : World} {g n m k x y r : Nat} {ys R : List Nat} {wr : World} {l q : Nat} {S : List Nat} (h : MulIn W g n m k x ys R wr l q S) (hk : k < n) (hl : l ≤ m) (hy : y = ys.getD l 0) (hr : r = S.getD (k + l) 0) (p : Nat) (hp : p = x * y) (hm : l = m → q < 4294967296 ∧ p = 0) (nn : Nat) :
    MulIn W g n m k x ys R ((wr.drewN nn).setCell ⟨g, k + l, none⟩ (.int .u32 (((q + r + p) % 4294967296 : Nat) : Int))) (l + 1) ((q + r + p) / 4294967296) (S.set (k + l) ((q + r + p) % 4294967296)) := by
  refine ⟨(Row.drewN h.row _).set _ _, limbs_set h.lim _ (by omega), by rw [List.length_set]; exact h.len, fun j hj => ?_, fun hj => ?_, ?_, fun e => ?_, (Below.drewN' h.bel _).setCell (by simp) _⟩
  · rw [getD_set_ne _ _ (by omega)]; exact h.zero j hj
  · rw [getD_set_ne _ _ (by omega)]; exact h.top hl
  · have h1 := val_set S (k + l) ((q + r + p) % 4294967296) (by rw [h.len]; omega)
    rw [← hr, Nat.pow_add] at h1
    rw [val_take_succ ys, ← hy, Nat.pow_succ]
    have e : q + r + p = p + r + q := by omega
    rw [e] at h1 ⊢
    exact prod_step h.eqn (by rw [hp]) h1
  · obtain ⟨h1, h2⟩ := hm (by omega)
    have e2 : r = 0 := by rw [hr]; have : l = m := by omega
                          subst this; exact h.top (Nat.le_refl _)
    rw [h2, e2]; omega
set_option maxHeartbeats 2000000 in
theorem rmul_any (neg neg' : Bool) (A A' : Option Addr) (n c m d : Nat) (a b : Int) (w : World) (ha : IsInt w neg A n c a) (hb : IsInt w neg' A' m d b) (hn : n ≤ 100000) (hm : m ≤ 100000) :
    Calls Tryd.prog 12 #[.agg #[.bool neg, .slice A n c], .agg #[.bool neg', .slice A' m d]] w (RetInt w (a * b)) := by
  have hmk : ∀ W : World, (Instr.makeSlice 22 (.int .i64 ((n : Int) + m + 1)) (.int .i64 ((n : Int) + m + 1))).run Tryd.prog W =
    .ok (.slice (some ⟨W.heap.size, 0, none⟩) (n + m + 1) (n + m + 1)) (W.alloc (.cells (madeCells #[.int .u32 0] (n + m + 1)) 67)) := fun W => make_u32 (n + m + 1) (by omega) W
  have H2 := fun A2 n2 c2 zs (W : World) (hz : Lim W W.heap.size A2 n2 c2 zs) (hl : zs.length ≤ 300000) (hv : val zs = val (digs a.natAbs) * val (digs b.natAbs)) => made_val (neg != neg') A2 n2 c2 (a.natAbs * b.natAbs) (a * b) zs W hz (by omega) (by rw [hv, val_digs, val_digs]) (mul_z neg neg' a b ha.sign hb.sign)
  have H2' := Lib.hid H2
  clear H2
  obtain ⟨HB, P0, P1, R0⟩ := frame21 w (.bool neg) (.slice A n c) (.bool neg') (.slice A' m d)
  have hla := ha.lim
  have hlb := hb.lim
  clear ha hb
  have hcn := hla.cap
  have hcm := hlb.cap
  generalize digs a.natAbs = xs at *
  generalize digs b.natAbs = ys at *
  have HLx := Lib.hid hla.len
  have HLy := Lib.hid hlb.len
  have ⟨p0, p1, _, _, _⟩ := P0
  have ⟨q0, q1, _, _, _⟩ := P1
  go_enter Tryd.func12, Tryd.ntmps12
  go_wp2
  clear p0 p1 q0 q1
  have HW : Hid (((w.alloc (.cells #[.bool neg, .slice A n c] 27)).alloc (.cells #[.bool neg', .slice A' m d] 27)).alloc (.cells #[.bool false, .slice none 0 0] 27) = Wm w (.bool neg) (.slice A n c) (.bool neg') (.slice A' m d)) := rfl
  have HWs := Lib.hid (size_Wm w (.bool neg) (.slice A n c) (.bool neg') (.slice A' m d))
  rw [HW.out] at HB P0 P1 R0 ⊢
  generalize Wm w (.bool neg) (.slice A n c) (.bool neg') (.slice A' m d) = W at *
  clear HW
  have hs := HWs.out
  go_loopw [6] (fun i wr => ∃ (k : Nat) (R : List Nat), k ≤ n ∧ i = .int .i64 k ∧ MulOut W (w.heap.size + 1 + 1 + 1) n m xs ys wr k R) (fun i _ => n - (intOf i).toNat)
  case atStart =>
    refine ⟨0, List.replicate (n + m + 1) 0, by omega, rfl, ?_, limbs_zeros _, by simp, fun j hj => (getD_zeros (k := 0 + m) _).out j hj, by simp [val, val_zeros], ?_⟩
    · rw [← hs]; exact Row.made W (n + m + 1)
    · rw [← hs]; exact (Below.refl _ _).alloc (Nat.le_refl _) _
  case round =>
    obtain ⟨k, R, hk, rfl, HO⟩ := hrel
    obtain ⟨p0, p1, _, _, _⟩ := P0.below HO.bel (by omega)
    obtain ⟨q0, q1, _, _, _⟩ := P1.below HO.bel (by omega)
    by_cases hkn : k < n
    · obtain ⟨ad, rfl, _, x, hx, hxl, hcx⟩ := ((hla.below HB).below (HO.bel.mono (by omega))).at_ hkn
      go_wp2
      obtain ⟨wo, rfl⟩ : ∃ wo : World, wo = wr := ⟨_, rfl⟩
      clear p0 p1 q0 q1 hcx
      go_loopw [7, 8] (fun cr i wi => ∃ (l q : Nat) (S : List Nat), l ≤ m + 1 ∧ i = .int .i64 l ∧ cr = .int .u64 q ∧ q < 4294967296 ∧ MulIn W (w.heap.size + 1 + 1 + 1) n m k x ys R wi l q S) (fun _ i _ => m + 1 - (intOf i).toNat)
      case atStart => exact ⟨0, 0, R, by omega, rfl, rfl, by omega, HO.row, HO.lim, HO.len, fun j hj => HO.zero j (by omega), fun _ => HO.zero _ (Nat.le_refl _), by simp [val], fun _ => rfl, HO.bel⟩
      case round =>
        obtain ⟨l, q, S, hl, rfl, rfl, hq, HI⟩ := hrel
        obtain ⟨p0, p1, _, _, _⟩ := P0.below HI.bel (by omega)
        obtain ⟨q0, q1, _, _, _⟩ := P1.below HI.bel (by omega)
        by_cases hlm : l < m
        · have hl' : l ≤ m := by omega
          obtain ⟨ad', rfl, _, y, hy, hyl, hcy⟩ := ((hlb.below HB).below (HI.bel.mono (by omega))).at_ hlm
          obtain ⟨_, e, _, x', hx', _, hcx⟩ := ((hla.below HB).below (HI.bel.mono (by omega))).at_ hkn
          obtain rfl := Option.some.inj e
          obtain rfl : x' = x := hx'.out.trans hx.out.symm
          have hcr := HI.row.cell (k := k + l) (by rw [HI.len]; omega)
          have hfr := HI.row.frozen (k + l)
          obtain ⟨r, hr⟩ : ∃ r, r = S.getD (k + l) 0 := ⟨_, rfl⟩
          have hrl : r < 4294967296 := by
            subst hr
            rw [List.getD_eq_getElem?_getD, List.getElem?_eq_getElem (by rw [HI.len]; omega)]
            exact HI.lim _ (List.getElem_mem _)
          rw [← hr] at hcr
          have HR := Lib.hid hr
          clear hr
          obtain ⟨p, hp⟩ : ∃ p : Nat, p = x' * y := ⟨_, rfl⟩
          have hpl : p ≤ 18446744065119617025 := by
            subst hp
            exact Nat.mul_le_mul (show x' ≤ 4294967295 by omega) (show y ≤ 4294967295 by omega)
          have hxy : (x' : Int) * (y : Int) = (p : Int) := by rw [hp]; exact (Int.natCast_mul x' y).symm
          have HP := Lib.hid hp
          clear hp
          have i0 : (0 : Int) ≤ (k : Int) + l := by omega
          have i1 : (k : Int) + l < (n : Int) + m + 1 := by omega
          have i2 : ((k : Int) + l).toNat = k + l := by omega
          have i3 : (l : Int) < m := by omega
          have i4 : (0 : Int) ≤ l := by omega
          have w0 : IntKind.i64.wrap ((k : Int) + l) = (k : Int) + l := by rw [IntKind.wrap_i64]; omega
          have w1 : IntKind.u64.wrap (p : Int) = (p : Int) := by rw [IntKind.wrap_u64]; omega
          have w2 : IntKind.u64.wrap ((q : Int) + r) = (q : Int) + r := by rw [IntKind.wrap_u64]; omega
          have w3 : IntKind.u64.wrap ((q : Int) + r + p) = (q : Int) + r + p := by rw [IntKind.wrap_u64]; omega
          go_wp2
          go_quiet (fail)
          go_wp2
          go_roundw
          case rel =>
            have e1 : (((q + r + p) % 4294967296 : Nat) : Int) = ((q : Int) + r + p) % 4294967296 := by omega
            have e2 : (((q + r + p) / 4294967296 : Nat) : Int) = ((q : Int) + r + p) / 4294967296 := by omega
            rw [← e1, ← e2]
            exact ⟨l + 1, (q + r + p) / 4294967296, _, by omega, by go_num, rfl, by omega, HI.step hkn hl' hy.out HR.out p HP.out (fun e => absurd hlm (by omega)) _⟩
          case measure => simp [intOf] <;> omega
        · rcases Nat.eq_zero_or_pos q with rfl | hq0
          · go_wp2
            go_roundw
            case rel =>
              refine ⟨k + 1, S, by omega, by go_num, HI.row, HI.lim, HI.len, fun j hj => HI.zero j (by omega), ?_, HI.bel⟩
              have h1 := HI.eqn
              rw [List.take_of_length_le (l := ys) (by rw [HLy.out]; omega), Nat.zero_mul, Nat.add_zero, HO.eqn] at h1
              rw [h1, val_take_succ xs, ← hx.out, Nat.add_mul, Nat.mul_comm (4294967296 ^ k) x, Nat.mul_right_comm x (4294967296 ^ k)]
            case measure => simp [intOf] <;> omega
          · obtain rfl : l = m := by
              rcases Nat.lt_or_ge m l with h | h
              · have := HI.end_ (by omega); omega
              · omega
            have hcr := HI.row.cell (k := k + l) (by rw [HI.len]; omega)
            have hfr := HI.row.frozen (k + l)
            rw [HI.top (Nat.le_refl _)] at hcr
            have i0 : (0 : Int) ≤ (k : Int) + l := by omega
            have i1 : (k : Int) + l < (n : Int) + l + 1 := by omega
            have i2 : ((k : Int) + l).toNat = k + l := by omega
            go_wp2
            go_roundw
            case rel =>
              have e1 : (((q + 0 + 0) % 4294967296 : Nat) : Int) = (q : Int) := by omega
              have e2 : (q + 0 + 0) / 4294967296 = 0 := by omega
              have hst := HI.step (y := 0) (r := 0) hkn (Nat.le_refl _) (take_none (by rw [HLy.out]; exact Nat.le_refl _)).symm (HI.top (Nat.le_refl _)).symm 0 (by simp) (fun _ => ⟨hq, rfl⟩) 0
              rw [e1, e2] at hst
              refine ⟨l + 1, 0, _, by omega, by go_num, ?_, by omega, hst⟩
              congr 1
              omega
            case measure => simp [intOf] <;> omega
    · obtain rfl : k = n := by omega
      go_wp2_with fail
      refine (H2'.out _ _ _ R _ ((HO.row.len_lim HO.lim _ HO.len (by omega))) (by rw [HO.len]; omega) ?_).mono ?_
      · rw [HO.eqn, List.take_of_length_le (by rw [HLx.out]; exact Nat.le_refl _)]
      rintro e w2 ⟨neg2, A2, n2, c2, rfl, hi2, hb2⟩
      have B2 := HO.bel.trans (hb2.mono (by have := HO.bel.size; omega))
      obtain ⟨k0, k1, f0, f1, _⟩ := R0.below B2 (by omega)
      go_wp2
      exact bodyPost_ret (v := .agg #[.bool neg2, .slice A2 n2 c2]) (by simp [results, Tryd.results12, go_sem, k0, k1]) rfl
        (RetInt.stored hi2 (HB.trans (HO.bel.mono (by omega))) hb2 (by omega) k0 k1 rfl rfl)
end Go.Proofs.YtnlmdjbakcjhbaaDoor
namespace Go.Proofs.YtnlmdjbakcjhbaaDoor
open Go.RowKit
end Go.Proofs.YtnlmdjbakcjhbaaDoor
namespace Go.Proofs.YtnlmdjbakcjhbaaDoor
open Go.RowKit
section
variable (neg neg' : Bool) (A A' : Option Addr) (n c m d : Nat) {k l : Nat} {a b : Int} (w : World)
theorem dm_z (ha : IsInt w neg A n c a) (hb : IsInt w neg' A' m d b) (sa : Sz k a) (sb : Sz l b) (hb0 : b ≠ 0) : Calls Tryd.prog 45 #[.agg #[.bool neg, .slice A n c], .agg #[.bool neg', .slice A' m d]] w (RetDM w (a / b) (a % b)) :=
  dm_any neg neg' A A' n c m d a b w ha hb hb0 (Nat.le_trans (hb.sz sb) (by decide)) fun W hW =>
    divOk_all 10000 (by decide) A A' n n m m a.natAbs b.natAbs W ((ha.lim.tight.below hW).more hW.size) ((hb.lim.tight.below hW).more hW.size) (ha.sz sa) (hb.sz sb) (by omega)
theorem gcd_z (ha : IsInt w neg A n c a) (hb : IsInt w neg' A' m d b) (sa : Sz k a) (sb : Sz l b) : Calls Tryd.prog 11 #[.agg #[.bool neg, .slice A n c], .agg #[.bool neg', .slice A' m d]] w (RetInt w ((Nat.gcd a.natAbs b.natAbs : Nat) : Int)) :=
  gcd_of 10000 (divOk_all 10000 (by decide)) (by decide) neg neg' A A' n c m d a b w ha hb (ha.sz sa) (hb.sz sb)
theorem radd_z (ha : IsInt w neg A n c a) (hb : IsInt w neg' A' m d b) (sa : Sz k a) (sb : Sz l b) : Calls Tryd.prog 27 #[.agg #[.bool neg, .slice A n c], .agg #[.bool neg', .slice A' m d]] w (RetInt w (a + b)) :=
  radd_any neg neg' A A' n c m d a b w ha hb (Nat.le_trans (ha.sz sa) (by decide)) (Nat.le_trans (hb.sz sb) (by decide))
theorem rsub_z (ha : IsInt w neg A n c a) (hb : IsInt w neg' A' m d b) (sa : Sz k a) (sb : Sz l b) : Calls Tryd.prog 63 #[.agg #[.bool neg, .slice A n c], .agg #[.bool neg', .slice A' m d]] w (RetInt w (a - b)) :=
  rsub_any neg neg' A A' n c m d a b w ha hb (Nat.le_trans (ha.sz sa) (by decide)) (Nat.le_trans (hb.sz sb) (by decide))
theorem rmul_z (ha : IsInt w neg A n c a) (hb : IsInt w neg' A' m d b) (sa : Sz k a) (sb : Sz l b) : Calls Tryd.prog 12 #[.agg #[.bool neg, .slice A n c], .agg #[.bool neg', .slice A' m d]] w (RetInt w (a * b)) :=
  rmul_any neg neg' A A' n c m d a b w ha hb (Nat.le_trans (ha.sz sa) (by decide)) (Nat.le_trans (hb.sz sb) (by decide))
theorem rsign_z (s : Int) (ha : IsInt w neg A n c a) (h : sgn a = s) : Calls Tryd.prog 17 #[.agg #[.bool neg, .slice A n c]] w fun e w' => e = .returned (.int .i64 s) ∧ Below w.heap.size w w' := by
  subst h; exact rsign_any neg A n c a w ha
theorem rcmp_z (s : Int) (ha : IsInt w neg A n c a) (hb : IsInt w neg' A' m d b) (sa : Sz k a) (sb : Sz l b) (h : cmpN a b = s) : Calls Tryd.prog 25 #[.agg #[.bool neg, .slice A n c], .agg #[.bool neg', .slice A' m d]] w fun e w' => e = .returned (.int .i64 s) ∧ Below w.heap.size w w' := by
  subst h; exact rcmp_any neg neg' A A' n c m d a b w ha hb (Nat.le_trans (ha.sz sa) (by decide)) (Nat.le_trans (hb.sz sb) (by decide))
theorem rmadeAbs_z (ha : IsInt w neg A n c a) (sa : Sz k a) : Calls Tryd.prog 16 #[.slice A n c, .bool false] w (RetInt w ((a.natAbs : Nat) : Int)) := by
  have := Made_any false A n c w.heap.size _ w ha.lim (Nat.le_refl _) (Nat.le_trans (ha.sz sa) (by decide))
  rwa [val_digs] at this
theorem rabs_z (ha : IsInt w neg A n c a) (sa : Sz k a) : Calls Tryd.prog 24 #[.agg #[.bool neg, .slice A n c]] w (RetInt w ((a.natAbs : Nat) : Int)) :=
  rabs_any neg A n c a w ha (Nat.le_trans (ha.sz sa) (by decide))
set_option maxHeartbeats 400000 in
theorem rvalid_z (ha : IsInt w neg A n c a) : Calls Tryd.prog 15 #[.agg #[.bool neg, .slice A n c]] w fun e w' => e = .returned (.bool true) ∧ Below w.heap.size w w' := by
  have HB := (Below.refl w.heap.size w).alloc (Nat.le_refl _) (.cells #[.bool neg, .slice A n c] 27)
  obtain ⟨k0, k1, _, _, _⟩ := Slot2.new w (.bool neg) (.slice A n c) 27
  rcases Nat.eq_zero_or_pos n with h0 | h0
  · have hn : neg = false := by
      have h1 : a = 0 := (len_of ha).1 h0
      rw [ha.sign, h1]; rfl
    subst h0 hn
    go_enter Tryd.func15, Tryd.ntmps15
    go_wp2
    go_ret
    exact ⟨rfl, HB⟩
  · obtain ⟨ad, rfl, _, x, hx, hxl, hcx⟩ := (ha.lim.below HB).at_ (k := n - 1) (by omega)
    have hx0 : x ≠ 0 := by
      have hne : digs a.natAbs ≠ [] := by intro e; have := ha.lim.len; rw [e] at this; simp at this; omega
      have h3 := digs_last (n := a.natAbs) hne
      rw [List.getLast_eq_getElem] at h3
      rw [hx.out, List.getD_eq_getElem?_getD, List.getElem?_eq_getElem (by rw [ha.lim.len]; omega)]
      simp only [ha.lim.len] at h3
      simpa using h3
    have b1 : ((n : Int) == 0) = false := by simp; omega
    have hnl := ha.lim.cap
    have i1 : IntKind.i64.wrap ((n : Int) - 1) = (n : Int) - 1 := by rw [IntKind.wrap_i64]; omega
    have b2 : ((x : Int) != 0) = true := by simp; omega
    clear ha hx
    go_enter Tryd.func15, Tryd.ntmps15
    go_wp2
    go_ret
    exact ⟨retB (by simp), HB⟩
end
theorem Sz.div {k : Nat} {a b : Int} (ha : Sz k a) (hk : k + 1 ≤ 10000) : Sz (k + 1) (a / b) := by
  refine Sz.of ?_ hk
  have h1 := ha.lt
  have h2 : (a / b).natAbs ≤ a.natAbs + 1 := by
    have := Int.natAbs_ediv_le_natAbs a b
    omega
  rw [Nat.pow_succ]
  have : 0 < 4294967296 ^ k := Nat.pow_pos (by decide)
  omega
theorem Sz.mod {k : Nat} {a b : Int} (hb : Sz k b) (h0 : b ≠ 0) : Sz k (a % b) := by
  refine ⟨hb.le, Nat.le_trans (digs_len_mono ?_) hb.len⟩
  have h1 := Int.emod_nonneg a h0
  have h2 := Int.emod_lt a h0
  omega
theorem Sz.abs {k : Nat} {a : Int} (ha : Sz k a) : Sz k ((a.natAbs : Nat) : Int) := ⟨ha.le, by rw [Int.natAbs_natCast]; exact ha.len⟩
end Go.Proofs.YtnlmdjbakcjhbaaDoor
