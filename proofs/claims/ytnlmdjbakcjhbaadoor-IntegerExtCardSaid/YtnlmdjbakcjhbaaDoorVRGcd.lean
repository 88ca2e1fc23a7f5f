/- Contract of torsionref01.Gcd. -/
import Derived.Test.YtnlmdjbakcjhbaaDoorVRDM
import Derived.Deep.LoopGhost
namespace Go.Proofs.YtnlmdjbakcjhbaaDoor
open Go.RowKit
theorem gcd_step (x y : Int) (_hy : y ≠ 0) : Nat.gcd y.natAbs (x % y).natAbs = Nat.gcd x.natAbs y.natAbs := by
  have h1 : Int.gcd y (x % y) = Int.gcd x y := by
    rw [Int.gcd_comm x y]
    conv => rhs; rw [← Int.emod_add_mul_ediv x y]
    rw [Int.gcd_add_mul_left_right]
  exact h1
set_option maxRecDepth 1000000 in
set_option maxHeartbeats 4000000 in
theorem rgcd_z (neg neg' : Bool) (A A' : Option Addr) (n c m d : Nat) {k : Nat} {a b : Int} (w : World) (ha : IsInt w neg A n c a) (hb : IsInt w neg' A' m d b) (sa : Sz k a) (sb : Sz k b) (hk : k + 1 + 1 ≤ 10000) :
    Calls Tryd.prog 14 #[.agg #[.bool neg, .slice A n c], .agg #[.bool neg', .slice A' m d]] w (RetInt w ((Nat.gcd a.natAbs b.natAbs : Nat) : Int)) := by
  obtain ⟨HB, P0, Q0, R0⟩ := frame21 w (.bool neg) (.slice A n c) (.bool neg') (.slice A' m d)
  have IA : IntAt _ w.heap.size a := ⟨neg, A, n, c, P0, ha.below HB⟩
  have IB : IntAt _ (w.heap.size + 1) b := ⟨neg', A', m, d, Q0, hb.below HB⟩
  clear ha hb P0 Q0
  go_enter Tryd.func14, Tryd.ntmps14
  go_wp2_with fail
  go_loopg [7] b.natAbs (fun g _ wr => ∃ x y : Int, IntAt wr w.heap.size x ∧ IntAt wr (w.heap.size + 1) y ∧ Hid (y.natAbs = g) ∧ Hid (Nat.gcd x.natAbs y.natAbs = Nat.gcd a.natAbs b.natAbs) ∧ Sz k x ∧ Sz k y ∧ Slot2 wr (w.heap.size + 1 + 1) (.bool false) (.slice none 0 0) ∧ Below w.heap.size w wr)
  case atStart => exact ⟨a, b, IA, IB, rfl, rfl, sa, sb, R0, HB⟩
  case round =>
    obtain ⟨x, y, ⟨gx, Ax, nx, cx, Sx, Ix⟩, ⟨gy, Ay, ny, cy, Sy, Iy⟩, hg, hgcd, sx, sy, R, B⟩ := hrel
    have ⟨x0, x1, _, _, _⟩ := Sy
    obtain ⟨s, hs⟩ : ∃ s, sgn y = s := ⟨_, rfl⟩
    have HSG := Lib.hid hs
    by_cases hy : y = 0
    · have hs0 : (s != 0) = false := by rw [← hs, hy]; rfl
      have HY := Lib.hid hy
      clear hs hy
      go_wp2_with fail
      (with_reducible refine (rsign_z gy Ay ny cy _ s Iy HSG.out).mono ?_)
      rintro e w1 ⟨rfl, h1⟩
      have Sx1 := Sx.after h1
      have R1 := R.after h1
      have Ix1 := Ix.below h1
      have B1 := B.trans (h1.mono B.size)
      have ⟨y0, y1, _, _, _⟩ := Sx1
      clear x0 x1
      go_wp2_with fail
      (with_reducible refine (rmadeAbs_z gx Ax nx cx _ Ix1 sx).mono ?_)
      rintro e w2 ⟨g2, A2, n2, c2, rfl, i2, h2⟩
      have hfin : ((x.natAbs : Nat) : Int) = ((Nat.gcd a.natAbs b.natAbs : Nat) : Int) := by rw [← hgcd.out, HY.out]; simp
      rw [hfin] at i2
      clear hfin
      obtain ⟨k0, k1, k2, k3, _⟩ := R1.after h2
      go_wp2
      exact bodyPost_ret (v := .agg #[.bool g2, .slice A2 n2 c2]) (by simp [results, Tryd.results14, go_sem, k0, k1]) rfl (RetInt.stored i2 B1 h2 (by omega) k0 k1 rfl rfl)
    · have hs0 : (s != 0) = true := by
        have := sgn_ne' hy
        rw [hs] at this
        simpa using this
      have HY := Lib.hid hy
      have hrm := Int.emod_nonneg x hy
      have hrl := Int.emod_lt x hy
      have hgs := gcd_step x y hy
      have zr : Sz k (x % y) := Sz.mod sy hy
      have HDM := fun W (hW : Below wr.heap.size wr W) => rdm_z gx gy Ax Ay nx cx ny cy W (Ix.below hW) (Iy.below hW) sx sy hy hk
      have HDM' := Lib.hid HDM
      have HGS := Lib.hid hgs
      clear hs hy HDM hgs
      go_wp2_with fail
      (with_reducible refine (rsign_z gy Ay ny cy _ s Iy HSG.out).mono ?_)
      rintro e w1 ⟨rfl, h1⟩
      have Sx1 := Sx.after h1
      have Sy1 := Sy.after h1
      have ⟨y0, y1, _, _, _⟩ := Sx1
      have ⟨y2, y3, _, _, _⟩ := Sy1
      clear x0 x1
      go_wp2_with fail
      (with_reducible refine (HDM'.out _ h1).mono ?_)
      rintro e w2 ⟨g1, A1, n1, c1, g2, A2, n2, c2, rfl, i1, i2, hb2⟩
      obtain ⟨BQ, DQ⟩ := two_new i1 i2
      have D := (h1.trans (hb2.mono h1.size)).trans (DQ.mono (h1.trans (hb2.mono h1.size)).size)
      have Sx4 := Sx.after D
      have Sy4 := Sy.after D
      have Iy4 := Iy.below D
      have R4 := R.after D
      have B4 := B.trans (D.mono B.size)
      have hw2 : w.heap.size + 1 + 1 < w2.heap.size := Nat.lt_of_lt_of_le R.2.2.2.2 (h1.trans (hb2.mono h1.size)).size
      clear y0 y1 y2 y3 Sx1 Sy1 Sx Sy Ix Iy R B h1 hb2 DQ D i1 i2 HDM' HSG
      go_upto_region 3 with (fail)
      generalize (w2.alloc (.cells #[.bool g1, .slice A1 n1 c1] 27)).alloc (.cells #[.bool g2, .slice A2 n2 c2] 27) = W4 at *
      generalize w2.heap.size = g7 at *
      obtain ⟨gr, Ar, nr, cr, Sr, Ir⟩ := BQ (g7 + 1, x % y) (by simp)
      have ⟨y0, y1, y2, y3, _⟩ := Sx4
      have ⟨y4, y5, y6, y7, _⟩ := Sy4
      have ⟨y8, y9, _, _, _⟩ := Sr
      go_region
      have Sy5 := Sy4.far2 (g' := w.heap.size) (by omega) (.bool gy) (.slice Ay ny cy)
      have F1 : IntAt _ w.heap.size y := (IntAt.near2 Iy4 Sx4 rfl rfl).far2 (show w.heap.size ≠ w.heap.size + 1 by omega) Sy5 rfl rfl (.bool gr) (.slice Ar nr cr)
      have F2 : IntAt _ (w.heap.size + 1) (x % y) := IntAt.near2 (Ir.set2 Sx4 rfl rfl (.bool gy) (.slice Ay ny cy)) Sy5 rfl rfl
      have F3 := (R4.far2 (g' := w.heap.size) (by omega) (.bool gy) (.slice Ay ny cy)).far2 (g' := w.heap.size + 1) (by omega) (.bool gr) (.slice Ar nr cr)
      have F4 := Below.set2 (Below.set2 B4 (Nat.le_refl _) (.bool gy) (.slice Ay ny cy)) (Nat.le_succ _) (.bool gr) (.slice Ar nr cr)
      clear y0 y1 y2 y3 y4 y5 y6 y7 y8 y9
      go_wp2_with fail
      go_roundg (x % y).natAbs
      case measure => have := hg.out; omega
      case rel => exact ⟨y, x % y, F1.after (Below.refl _ _).drew, F2.after (Below.refl _ _).drew, rfl, HGS.out.trans hgcd.out, sy, zr, F3.drew, F4.drew⟩
end Go.Proofs.YtnlmdjbakcjhbaaDoor
