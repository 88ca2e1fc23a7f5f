/- Contract of torsionref01.divide for a divisor of one limb. -/
import Derived.Test.YtnlmdjbakcjhbaaDoorVShort
import Derived.Test.YtnlmdjbakcjhbaaDoorVG9DivMod
namespace Go.Proofs.YtnlmdjbakcjhbaaDoor
open Go.RowKit
/-- Two integers come back. -/
def RetII (w : World) (x y : Int) (e : Ending) (w' : World) : Prop := ∃ g1 A1 n1 c1 g2 A2 n2 c2, e = .returned (.tuple #[.agg #[.bool g1, .slice A1 n1 c1], .agg #[.bool g2, .slice A2 n2 c2]]) ∧ IsInt w' g1 A1 n1 c1 x ∧ IsInt w' g2 A2 n2 c2 y ∧ Below w.heap.size w w'
/-- Both results, stored into two new structs of the call's own. -/
theorem RetII.stored {w W w1 w2 : World} {q r : Int} {g1 g2 : Bool} {A1 A2 : Option Addr} {n1 c1 n2 c2 g : Nat} (hi1 : IsInt w1 g1 A1 n1 c1 q) (hi2 : IsInt w2 g2 A2 n2 c2 r) (hb2 : Below w1.heap.size w1 w2) (hB : Below w.heap.size w W) (hW : Below W.heap.size W w1) (hg : w.heap.size ≤ g)
    (S0 : Slot2 w2 g (.bool false) (.slice none 0 0)) (S1 : Slot2 w2 (g + 1) (.bool false) (.slice none 0 0)) :
    RetII w q r (.returned (.tuple #[.agg #[.bool g1, .slice A1 n1 c1], .agg #[.bool g2, .slice A2 n2 c2]])) ((((w2.setCell ⟨g, 0, none⟩ (.bool g1)).setCell ⟨g, 1, none⟩ (.slice A1 n1 c1)).setCell ⟨g + 1, 0, none⟩ (.bool g2)).setCell ⟨g + 1, 1, none⟩ (.slice A2 n2 c2)) := by
  obtain ⟨k0, k1, _, _, _⟩ := S0
  obtain ⟨l0, l1, _, _, _⟩ := S1.far2 (g' := g) (by omega) (.bool g1) (.slice A1 n1 c1)
  have B2 : Below w.heap.size w w2 := (hB.trans (hW.mono hB.size)).trans (hb2.mono (Nat.le_trans hB.size hW.size))
  exact ⟨_, _, _, _, _, _, _, _, rfl, ((hi1.below hb2).stored k0 k1 rfl rfl _ _).stored l0 l1 rfl rfl _ _, (hi2.stored k0 k1 rfl rfl _ _).stored l0 l1 rfl rfl _ _, (((B2.setCell hg _).setCell hg _).setCell (Nat.le_succ_of_le hg) _).setCell (Nat.le_succ_of_le hg) _⟩
theorem frame02 (w : World) : Below w.heap.size w ((w.alloc (.cells #[.bool false, .slice none 0 0] 27)).alloc (.cells #[.bool false, .slice none 0 0] 27)) ∧
    Slot2 ((w.alloc (.cells #[.bool false, .slice none 0 0] 27)).alloc (.cells #[.bool false, .slice none 0 0] 27)) w.heap.size (.bool false) (.slice none 0 0) ∧
    Slot2 ((w.alloc (.cells #[.bool false, .slice none 0 0] 27)).alloc (.cells #[.bool false, .slice none 0 0] 27)) (w.heap.size + 1) (.bool false) (.slice none 0 0) := by
  refine ⟨((Below.refl _ _).alloc (Nat.le_refl _) _).alloc (by simp) _, (Slot2.new w _ _ _).alloc _, ?_⟩
  have := Slot2.new (w.alloc (.cells #[.bool false, .slice none 0 0] 27)) (.bool false) (.slice none 0 0) 27
  rwa [World.size_alloc] at this
theorem val_one (r : Nat) : val [r] = r := by simp [val]
set_option maxHeartbeats 1000000 in
theorem rdiv_one (A A' : Option Addr) (n c d a b : Nat) (w : World) (ha : Lim w w.heap.size A n c (digs a)) (hb : Lim w w.heap.size A' 1 d (digs b)) (hn : n ≤ 100000) :
    Calls Tryd.prog 62 #[.slice A n c, .slice A' 1 d] w (RetII w ((a / b : Nat) : Int) ((a % b : Nat) : Int)) := by
  have hb0 : 0 < b := by
    rcases Nat.eq_zero_or_pos b with h | h
    · have := hb.len; rw [h, digs_zero] at this; simp at this
    · exact h
  have hb1 : digs b = [b] := by
    have h1 := digs_pos hb0
    have h2 := hb.len
    rw [h1] at h2
    have h3 : digs (b / 4294967296) = [] := by simpa using h2
    have h4 : b / 4294967296 = 0 := digs_ne.1 h3
    rw [h1, h3, Nat.mod_eq_of_lt (by omega)]
  have hbl : b < 4294967296 := by
    have := limbs_digs b; rw [hb1] at this; exact this b (by simp)
  have HC : ∀ W, Below w.heap.size w W → ∃ ad : Addr, A' = some ad ∧ W.cell? ad = some (.int .u32 (b : Int)) := fun W hW => by
    obtain ⟨ad, e, _, x, hx, _, hc⟩ := (hb.below hW).at_ (k := 0) (by omega)
    rw [hb1] at hx
    have hx' := hx.out
    simp at hx'
    subst hx'
    refine ⟨ad, e, ?_⟩
    rwa [show ad.add 0 = ad by unfold Addr.add; simp] at hc
  have H1 := fun W (hW : Below w.heap.size w W) => short_any A n c w.heap.size b (digs a) W (ha.below hW) hW.size (by omega) hb0 hbl
  have H2 := fun A2 n2 c2 zs (W : World) (v : Nat) (hz : Lim W W.heap.size A2 n2 c2 zs) (hl : zs.length ≤ 1000000) (hv : val zs = v) => made_val false A2 n2 c2 v (v : Int) zs W hz hl hv rfl
  rw [val_digs] at H1
  obtain ⟨HB, P0, P1⟩ := frame02 w
  obtain ⟨ad, rfl, hcb⟩ := HC _ HB
  have H1' := Lib.hid H1
  have H2' := Lib.hid H2
  have HM := Lib.hid (Nat.mod_lt a hb0)
  clear H1 H2 HC hb1
  go_enter Tryd.func62, Tryd.ntmps62
  go_wp2_with fail
  refine (H1'.out _ HB).mono ?_
  rintro e w1 ⟨A1, zs, rfl, hl1, hv1, hb1⟩
  have HV1 := Lib.hid hv1
  clear hv1 hcb
  go_wp2_with fail
  refine (H2'.out _ _ _ zs w1 _ hl1 (by rw [hl1.len]; omega) HV1.out).mono ?_
  rintro e w2 ⟨g2, A2, n2, c2, rfl, hi2, hb2⟩
  have hl3 := (row_new w2 [a % b] #[.int .u32 ((a : Int) % (b : Int))] (by simp [ints])).len_lim (by intro z hz; have := HM.out; simp at hz; omega) 1 rfl (by omega)
  have D3 : Below w2.heap.size w2 (w2.alloc (.cells #[.int .u32 ((a : Int) % (b : Int))] 67)) := (Below.refl _ _).alloc (Nat.le_refl _) _
  go_wp2_with fail
  refine (H2'.out _ _ _ [a % b] _ _ hl3 (by simp) (val_one _)).mono ?_
  rintro e w4 ⟨g4, A4, n4, c4, rfl, hi4, hb4⟩
  have E1 := Below.trans hb1 (hb2.mono hb1.size)
  have E2 := Below.trans D3 (hb4.mono D3.size)
  have S0 := ((P0.after hb1).after hb2).after E2
  have S1 := ((P1.after hb1).after hb2).after E2
  have ⟨k0, k1, k2, k3, _⟩ := S0
  have ⟨m0, m1, m2, m3, _⟩ := S1
  go_wp2
  exact bodyPost_ret (v := .tuple #[.agg #[.bool g2, .slice A2 n2 c2], .agg #[.bool g4, .slice A4 n4 c4]]) (by simp [results, Tryd.results62, go_sem, k0, k1, m0, m1]) rfl
    (RetII.stored (hi2) hi4 E2 HB E1 (Nat.le_refl _) S0 S1)
end Go.Proofs.YtnlmdjbakcjhbaaDoor
