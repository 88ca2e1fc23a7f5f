/- Contracts of crt's lines: within and reduced. Words for regions that make or change lines (pairs of integers). Contract of crt.firstWithin: the first line of Euclid's algorithm within the bound. Contract of crt.Rational. Residues written out, and the contracts of package crt at fixed arguments. -/
import Derived.Test.YtclmenpclkmfeaaDoorVG5MadeL
import Derived.Test.YtclmenpclkmfeaaDoorVG26RDM
import Derived.Test.YtclmenpclkmfeaaDoorVLawRootK
import Derived.Test.YtclmenpclkmfeaaDoorVG27CrtK
import Derived.Deep.LoopGhost
import Derived.Deep.DeepCutAuto
import Derived.Test.YtclmenpclkmfeaaDoorVG19Est
namespace Go.Proofs.YtclmenpclkmfeaaDoor
open Go.RowKit

theorem cmp_le (a b : Int) : decide (cmpN a b ≤ 0) = decide (a ≤ b) := by
  rcases Int.lt_trichotomy a b with h | h | h
  · rw [cmpN_lt h]; simp; omega
  · rw [h, cmpN_eq]; simp
  · rw [cmpN_gt h]; simp; omega

set_option maxRecDepth 1000000 in
set_option maxHeartbeats 4000000 in
theorem within_z (gxn : Bool) (Axn : Option Addr) (nxn cxn : Nat) (gxd : Bool) (Axd : Option Addr) (nxd cxd : Nat) (gb : Bool) (Ab : Option Addr) (nb cb : Nat) {k : Nat} {r s b : Int} (v1 v2 : Bool) (w : World) (hr : IsInt w gxn Axn nxn cxn r) (hs : IsInt w gxd Axd nxd cxd s) (hb : IsInt w gb Ab nb cb b) (zs : Sz k s)
    (h1 : decide (r ≤ b) = v1) (h2 : decide ((s.natAbs : Int) ≤ b) = v2) :
    Calls Tryd.prog 86 #[.agg #[.bool gxn, .slice Axn nxn cxn, .bool gxd, .slice Axd nxd cxd], .agg #[.bool gb, .slice Ab nb cb]] w fun e w' => e = .returned (.agg #[.bool v1, .bool v2]) ∧ Below w.heap.size w w' := by
  have a1 := (Below.refl w.heap.size w).alloc (Nat.le_refl _) (.cells #[.bool gxn, .slice Axn nxn cxn, .bool gxd, .slice Axd nxd cxd] 92)
  have a2 := a1.alloc a1.size (.cells #[.bool gb, .slice Ab nb cb] 28)
  have B0 := a2.alloc a2.size (.cells #[.bool false, .bool false] 116)
  have X0 := ((Slot4.new w (.bool gxn) (.slice Axn nxn cxn) (.bool gxd) (.slice Axd nxd cxd) 92).alloc (.cells #[.bool gb, .slice Ab nb cb] 28)).alloc (.cells #[.bool false, .bool false] 116)
  have Y0 := (Slot2.new (w.alloc (.cells #[.bool gxn, .slice Axn nxn cxn, .bool gxd, .slice Axd nxd cxd] 92)) (.bool gb) (.slice Ab nb cb) 28).alloc (.cells #[.bool false, .bool false] 116)
  have R0 := Slot2.new ((w.alloc (.cells #[.bool gxn, .slice Axn nxn cxn, .bool gxd, .slice Axd nxd cxd] 92)).alloc (.cells #[.bool gb, .slice Ab nb cb] 28)) (.bool false) (.bool false) 116
  simp only [World.size_alloc] at Y0 R0
  have Ixn := hr.below B0
  have Ixd := hs.below B0
  have Ib := hb.below B0
  obtain ⟨t1, ht1⟩ : ∃ t, cmpN r b = t := ⟨_, rfl⟩
  obtain ⟨t2, ht2⟩ : ∃ t, cmpN (s.natAbs : Int) b = t := ⟨_, rfl⟩
  have hv1 : decide (t1 ≤ 0) = v1 := by rw [← ht1, cmp_le]; exact h1
  have hv2 : decide (t2 ≤ 0) = v2 := by rw [← ht2, cmp_le]; exact h2
  have HT1 := Lib.hid ht1
  have HT2 := Lib.hid ht2
  clear hr hs hb a1 a2 ht1 ht2 h1 h2
  go_enter Tryd.func86, Tryd.ntmps86
  go_upto_region 1 with (fail)
  generalize ((w.alloc (.cells #[.bool gxn, .slice Axn nxn cxn, .bool gxd, .slice Axd nxd cxd] 92)).alloc (.cells #[.bool gb, .slice Ab nb cb] 28)).alloc (.cells #[.bool false, .bool false] 116) = W0 at *
  have HS : Hid (∀ V, Below W0.heap.size W0 V → (V.cell? ⟨w.heap.size, 0, none⟩ = some (.bool gxn) ∧ V.cell? ⟨w.heap.size, 1, none⟩ = some (.slice Axn nxn cxn) ∧ V.cell? ⟨w.heap.size, 2, none⟩ = some (.bool gxd) ∧ V.cell? ⟨w.heap.size, 3, none⟩ = some (.slice Axd nxd cxd)) ∧ (V.cell? ⟨w.heap.size + 1, 0, none⟩ = some (.bool gb) ∧ V.cell? ⟨w.heap.size + 1, 1, none⟩ = some (.slice Ab nb cb))) := fun V hV => ⟨(X0.after hV).cells, (Y0.after hV).1, (Y0.after hV).2.1⟩
  have Dp0 : Below W0.heap.size W0 W0.drew := (Below.refl _ _).drew
  refine wp_region_seq (.pre [(0, true), (1, true), (2, true), (5, true), (6, true), (8, true), (3, false), (4, true), (7, false), (9, false), (10, true), (11, true), (12, false)] .done) (fun W => (W.cell? ⟨w.heap.size, 0, none⟩ = some (.bool gxn) ∧ W.cell? ⟨w.heap.size, 1, none⟩ = some (.slice Axn nxn cxn) ∧ W.cell? ⟨w.heap.size, 2, none⟩ = some (.bool gxd) ∧ W.cell? ⟨w.heap.size, 3, none⟩ = some (.slice Axd nxd cxd)) ∧ (W.cell? ⟨w.heap.size + 1, 0, none⟩ = some (.bool gb) ∧ W.cell? ⟨w.heap.size + 1, 1, none⟩ = some (.slice Ab nb cb))) (by kernel_rfl) (by kernel_rfl) ?_ (by kernel_rfl) (HS.out _ Dp0) ?_
  · refine chk_pre _ _ _ (by as_aux_lemma => kernel_rfl) ?_
    exact (by as_aux_lemma => kernel_rfl)
  refine seq_take _ ?_ rfl (Or.inl ⟨by rfl, ?_⟩) ?_
  rotate_left
  · (intro w hSw; (try dsimp only at hSw); go_simp; (try with_reducible rfl))
  try simp only [Act.put, List.setIfInBounds_toArray, List.set_cons_zero, List.set_cons_succ]
  refine seq_take _ ?_ rfl (Or.inl ⟨by rfl, ?_⟩) ?_
  rotate_left
  · (intro w hSw; (try dsimp only at hSw); go_simp; (try with_reducible rfl))
  try simp only [Act.put, List.setIfInBounds_toArray, List.set_cons_zero, List.set_cons_succ]
  refine seq_take _ ?_ rfl (Or.inl ⟨by rfl, ?_⟩) ?_
  rotate_left
  · (intro w hSw; (try dsimp only at hSw); go_simp; (try with_reducible rfl))
  try simp only [Act.put, List.setIfInBounds_toArray, List.set_cons_zero, List.set_cons_succ]
  refine seq_take _ ?_ rfl (Or.inl ⟨by rfl, ?_⟩) ?_
  rotate_left
  · (intro w hSw; (try dsimp only at hSw); go_simp; (try with_reducible rfl))
  try simp only [Act.put, List.setIfInBounds_toArray, List.set_cons_zero, List.set_cons_succ]
  refine seq_take _ ?_ rfl (Or.inl ⟨by rfl, ?_⟩) ?_
  rotate_left
  · (intro w hSw; (try dsimp only at hSw); go_simp; (try with_reducible rfl))
  try simp only [Act.put, List.setIfInBounds_toArray, List.set_cons_zero, List.set_cons_succ]
  refine seq_take _ ?_ rfl (Or.inl ⟨by rfl, ?_⟩) ?_
  rotate_left
  · (intro w hSw; (try dsimp only at hSw); go_simp; (try with_reducible rfl))
  try simp only [Act.put, List.setIfInBounds_toArray, List.set_cons_zero, List.set_cons_succ]
  refine seq_one _ rfl fun K hK => ?_
  go_simp
  (with_reducible refine (cmp_z gxn gb Axn Ab nxn cxn nb cb _ t1 (Ixn.below Dp0) (Ib.below Dp0) HT1.out).mono ?_)
  rintro e vp1 ⟨rfl, bp1⟩
  have Dp1 : Below W0.heap.size W0 vp1 := Below.trans Dp0 (bp1.mono (Below.size Dp0))
  go_wp2_with fail
  refine hK.out _ _ (HS.out _ Dp1) (fun hHeld => ?_)
  clear hK K hHeld
  try simp only [Act.put, List.setIfInBounds_toArray, List.set_cons_zero, List.set_cons_succ]
  refine seq_take _ ?_ rfl (Or.inl ⟨by rfl, ?_⟩) ?_
  rotate_left
  · (intro w hSw; (try dsimp only at hSw); go_simp; (try with_reducible rfl))
  try simp only [Act.put, List.setIfInBounds_toArray, List.set_cons_zero, List.set_cons_succ]
  refine seq_one _ rfl fun K hK => ?_
  go_simp
  (with_reducible refine (abs_z gxd Axd nxd cxd _ (Ixd.below Dp1) zs).mono ?_)
  rintro e vp2 ⟨gp2, Ap2, np2, cp2, rfl, ip2, bp2⟩
  have Dp2 : Below W0.heap.size W0 vp2 := Below.trans Dp1 (bp2.mono (Below.size Dp1))
  go_wp2_with fail
  refine hK.out _ _ (HS.out _ Dp2) (fun hHeld => ?_)
  clear hK K hHeld
  try simp only [Act.put, List.setIfInBounds_toArray, List.set_cons_zero, List.set_cons_succ]
  refine seq_one _ rfl fun K hK => ?_
  go_simp
  (with_reducible refine (cmp_z gp2 gb Ap2 Ab np2 cp2 nb cb _ t2 ip2 (Ib.below Dp2) HT2.out).mono ?_)
  rintro e vp3 ⟨rfl, bp3⟩
  have Dp3 : Below W0.heap.size W0 vp3 := Below.trans Dp2 (bp3.mono (Below.size Dp2))
  go_wp2_with fail
  refine hK.out _ _ (HS.out _ Dp3) (fun hHeld => ?_)
  clear hK K hHeld
  try simp only [Act.put, List.setIfInBounds_toArray, List.set_cons_zero, List.set_cons_succ]
  refine seq_take _ ?_ rfl (Or.inl ⟨by rfl, ?_⟩) ?_
  rotate_left
  · (intro w hSw; (try dsimp only at hSw); go_simp; (try with_reducible rfl))
  try simp only [Act.put, List.setIfInBounds_toArray, List.set_cons_zero, List.set_cons_succ]
  refine seq_take _ ?_ rfl (Or.inl ⟨by rfl, ?_⟩) ?_
  rotate_left
  · (intro w hSw; (try dsimp only at hSw); go_simp; (try with_reducible rfl))
  try simp only [Act.put, List.setIfInBounds_toArray, List.set_cons_zero, List.set_cons_succ]
  refine seq_one _ rfl fun K hK => ?_
  have R1 := R0.after Dp3
  have ⟨r0, r1, k0, k1, _⟩ := R1
  go_simp
  refine hK.out _ _ (⟨(((X0.after Dp3).far (by omega) _).far (by omega) _).cells, ((Y0.after Dp3).far2 (by omega) _ _).1, ((Y0.after Dp3).far2 (by omega) _ _).2.1⟩) (fun hHeld => ?_)
  clear hK K hHeld
  try simp only [Act.put, List.setIfInBounds_toArray, List.set_cons_zero, List.set_cons_succ]
  refine NoPanic.normal ?_
  go_wp2
  have hs := R0.after Dp3
  have hB := B0.trans (Dp3.mono B0.size)
  have ⟨v0, v1', _, _, _⟩ := hs.set2 (.bool v1) (.bool v2)
  exact bodyPost_ret (v := .agg #[.bool v1, .bool v2]) (by simp [results, Tryd.results86, go_sem, v0, v1']) rfl ⟨rfl, Below.set2 hB (by omega) _ _⟩
set_option maxRecDepth 1000000 in
set_option maxHeartbeats 4000000 in
theorem reduced_z (gxn : Bool) (Axn : Option Addr) (nxn cxn : Nat) (gxd : Bool) (Axd : Option Addr) (nxd cxd : Nat) (gyn : Bool) (Ayn : Option Addr) (nyn cyn : Nat) (gyd : Bool) (Ayd : Option Addr) (nyd cyd : Nat) {k : Nat} {r0 s0 r1 s1 : Int} (w : World) (hr0 : IsInt w gxn Axn nxn cxn r0) (hs0 : IsInt w gxd Axd nxd cxd s0) (hr1 : IsInt w gyn Ayn nyn cyn r1) (hs1 : IsInt w gyd Ayd nyd cyd s1)
    (zr0 : Sz k r0) (zs0 : Sz k s0) (zr1 : Sz k r1) (zs1 : Sz k s1) (hk : k + 1 + k ≤ 10000) (h0 : r1 ≠ 0) :
    Calls Tryd.prog 87 #[.agg #[.bool gxn, .slice Axn nxn cxn, .bool gxd, .slice Axd nxd cxd], .agg #[.bool gyn, .slice Ayn nyn cyn, .bool gyd, .slice Ayd nyd cyd]] w (RetFr w (r0 % r1) (s0 - r0 / r1 * s1)) := by
  obtain ⟨B0, X0, Y0, R0⟩ := frameQ3 w (.bool gxn) (.slice Axn nxn cxn) (.bool gxd) (.slice Axd nxd cxd) (.bool gyn) (.slice Ayn nyn cyn) (.bool gyd) (.slice Ayd nyd cyd) 92 92 92
  have Ixn := hr0.below B0
  have Ixd := hs0.below B0
  have Iyn := hr1.below B0
  have Iyd := hs1.below B0
  have zq : Sz (k + 1) (r0 / r1) := Sz.div zr0 (by omega)
  have zp : Sz (k + 1 + k) (r0 / r1 * s1) := zq.mul zs1 hk
  clear hr0 hs0 hr1 hs1
  have ⟨x0, x1, x2, x3, _⟩ := X0
  have ⟨y0, y1, y2, y3, _⟩ := Y0
  go_enter Tryd.func87, Tryd.ntmps87
  generalize hW : ((w.alloc (.cells #[.bool gxn, .slice Axn nxn cxn, .bool gxd, .slice Axd nxd cxd] 92)).alloc (.cells #[.bool gyn, .slice Ayn nyn cyn, .bool gyd, .slice Ayd nyd cyd] 92)).alloc (.cells #[.bool false, .slice none 0 0, .bool false, .slice none 0 0] 92) = W0 at *
  go_wp2_with fail
  try rw [hW]
  clear hW
  (with_reducible refine (dm_z gxn gyn Axn Ayn nxn cxn nyn cyn _ Ixn Iyn zr0 zr1 h0).mono ?_)
  rintro e w1 ⟨g5, A5, n5, c5, g6, A6, n6, c6, rfl, hi5, hi6, hb1⟩
  have b7 := (Below.refl w1.heap.size w1).alloc (Nat.le_refl _) (.cells #[.bool g5, .slice A5 n5 c5] 28)
  have b8 := b7.alloc b7.size (.cells #[.bool g6, .slice A6 n6 c6] 28)
  have hb8 := hb1.trans (b8.mono hb1.size)
  have Q8 := (Slot2.new w1 (.bool g5) (.slice A5 n5 c5) 28).alloc (.cells #[.bool g6, .slice A6 n6 c6] 28)
  have M8 := Slot2.new (w1.alloc (.cells #[.bool g5, .slice A5 n5 c5] 28)) (.bool g6) (.slice A6 n6 c6) 28
  rw [World.size_alloc] at M8
  have Jq := hi5.below b8
  have Jm := hi6.below b8
  have X8 := X0.after hb8
  have Y8 := Y0.after hb8
  have hgr : w.heap.size + 1 + 1 < w1.heap.size := Nat.lt_of_lt_of_le R0.2.2.2.2.2.2.2.2 hb1.size
  have R8 := R0.after hb8
  have Jxd := Ixd.below hb8
  have Jyd := Iyd.below hb8
  have B8 := B0.trans (hb8.mono B0.size)
  clear x0 x1 x2 x3 y0 y1 y2 y3 X0 Y0 R0 B0 Ixn Ixd Iyn Iyd b7 b8 hb1 hb8 hi5 hi6
  go_upto_region 2 with (fail)
  generalize (w1.alloc (.cells #[.bool g5, .slice A5 n5 c5] 28)).alloc (.cells #[.bool g6, .slice A6 n6 c6] 28) = W8 at *
  have HS : Hid (∀ V, Below W8.heap.size W8 V → (V.cell? ⟨w.heap.size, 0, none⟩ = some (.bool gxn) ∧ V.cell? ⟨w.heap.size, 1, none⟩ = some (.slice Axn nxn cxn) ∧ V.cell? ⟨w.heap.size, 2, none⟩ = some (.bool gxd) ∧ V.cell? ⟨w.heap.size, 3, none⟩ = some (.slice Axd nxd cxd)) ∧ (V.cell? ⟨w.heap.size + 1, 0, none⟩ = some (.bool gyn) ∧ V.cell? ⟨w.heap.size + 1, 1, none⟩ = some (.slice Ayn nyn cyn) ∧ V.cell? ⟨w.heap.size + 1, 2, none⟩ = some (.bool gyd) ∧ V.cell? ⟨w.heap.size + 1, 3, none⟩ = some (.slice Ayd nyd cyd)) ∧ (V.cell? ⟨w1.heap.size, 0, none⟩ = some (.bool g5) ∧ V.cell? ⟨w1.heap.size, 1, none⟩ = some (.slice A5 n5 c5)) ∧ (V.cell? ⟨w1.heap.size + 1, 0, none⟩ = some (.bool g6) ∧ V.cell? ⟨w1.heap.size + 1, 1, none⟩ = some (.slice A6 n6 c6))) := fun V hV => ⟨(X8.after hV).cells, (Y8.after hV).cells, ⟨(Q8.after hV).1, (Q8.after hV).2.1⟩, (M8.after hV).1, (M8.after hV).2.1⟩
  have Dp0 : Below W8.heap.size W8 W8.drew := (Below.refl _ _).drew
  refine wp_region_seq (.pre [(0, true), (1, true), (2, true), (3, true), (4, true), (5, true), (6, false), (7, false), (8, true), (9, false)] .done) (fun W => (W.cell? ⟨w.heap.size, 0, none⟩ = some (.bool gxn) ∧ W.cell? ⟨w.heap.size, 1, none⟩ = some (.slice Axn nxn cxn) ∧ W.cell? ⟨w.heap.size, 2, none⟩ = some (.bool gxd) ∧ W.cell? ⟨w.heap.size, 3, none⟩ = some (.slice Axd nxd cxd)) ∧ (W.cell? ⟨w.heap.size + 1, 0, none⟩ = some (.bool gyn) ∧ W.cell? ⟨w.heap.size + 1, 1, none⟩ = some (.slice Ayn nyn cyn) ∧ W.cell? ⟨w.heap.size + 1, 2, none⟩ = some (.bool gyd) ∧ W.cell? ⟨w.heap.size + 1, 3, none⟩ = some (.slice Ayd nyd cyd)) ∧ (W.cell? ⟨w1.heap.size, 0, none⟩ = some (.bool g5) ∧ W.cell? ⟨w1.heap.size, 1, none⟩ = some (.slice A5 n5 c5)) ∧ (W.cell? ⟨w1.heap.size + 1, 0, none⟩ = some (.bool g6) ∧ W.cell? ⟨w1.heap.size + 1, 1, none⟩ = some (.slice A6 n6 c6))) (by kernel_rfl) (by kernel_rfl) ?_ (by kernel_rfl) (HS.out _ Dp0) ?_
  · refine chk_pre _ _ _ (by as_aux_lemma => kernel_rfl) ?_
    exact (by as_aux_lemma => kernel_rfl)
  refine seq_take _ ?_ rfl (Or.inl ⟨by rfl, ?_⟩) ?_
  rotate_left
  · (intro w hSw; (try dsimp only at hSw); go_simp; (try with_reducible rfl))
  try simp only [Act.put, List.setIfInBounds_toArray, List.set_cons_zero, List.set_cons_succ]
  refine seq_take _ ?_ rfl (Or.inl ⟨by rfl, ?_⟩) ?_
  rotate_left
  · (intro w hSw; (try dsimp only at hSw); go_simp; (try with_reducible rfl))
  try simp only [Act.put, List.setIfInBounds_toArray, List.set_cons_zero, List.set_cons_succ]
  refine seq_take _ ?_ rfl (Or.inl ⟨by rfl, ?_⟩) ?_
  rotate_left
  · (intro w hSw; (try dsimp only at hSw); go_simp; (try with_reducible rfl))
  try simp only [Act.put, List.setIfInBounds_toArray, List.set_cons_zero, List.set_cons_succ]
  refine seq_take _ ?_ rfl (Or.inl ⟨by rfl, ?_⟩) ?_
  rotate_left
  · (intro w hSw; (try dsimp only at hSw); go_simp; (try with_reducible rfl))
  try simp only [Act.put, List.setIfInBounds_toArray, List.set_cons_zero, List.set_cons_succ]
  refine seq_take _ ?_ rfl (Or.inl ⟨by rfl, ?_⟩) ?_
  rotate_left
  · (intro w hSw; (try dsimp only at hSw); go_simp; (try with_reducible rfl))
  try simp only [Act.put, List.setIfInBounds_toArray, List.set_cons_zero, List.set_cons_succ]
  refine seq_take _ ?_ rfl (Or.inl ⟨by rfl, ?_⟩) ?_
  rotate_left
  · (intro w hSw; (try dsimp only at hSw); go_simp; (try with_reducible rfl))
  try simp only [Act.put, List.setIfInBounds_toArray, List.set_cons_zero, List.set_cons_succ]
  refine seq_one _ rfl fun K hK => ?_
  go_simp
  (with_reducible refine (mul_z' g5 gyd A5 Ayd n5 c5 nyd cyd _ (Jq.below Dp0) (Jyd.below Dp0) zq zs1).mono ?_)
  rintro e vp1 ⟨gp1, Ap1, np1, cp1, rfl, ip1, bp1⟩
  have Dp1 : Below W8.heap.size W8 vp1 := Below.trans Dp0 (bp1.mono (Below.size Dp0))
  go_wp2_with fail
  refine hK.out _ _ (HS.out _ Dp1) (fun hHeld => ?_)
  clear hK K hHeld
  try simp only [Act.put, List.setIfInBounds_toArray, List.set_cons_zero, List.set_cons_succ]
  refine seq_one _ rfl fun K hK => ?_
  go_simp
  (with_reducible refine (sub_z gxd gp1 Axd Ap1 nxd cxd np1 cp1 _ (Jxd.below Dp1) ip1 zs0 zp).mono ?_)
  rintro e vp2 ⟨gp2, Ap2, np2, cp2, rfl, ip2, bp2⟩
  have Dp2 : Below W8.heap.size W8 vp2 := Below.trans Dp1 (bp2.mono (Below.size Dp1))
  go_wp2_with fail
  refine hK.out _ _ (HS.out _ Dp2) (fun hHeld => ?_)
  clear hK K hHeld
  try simp only [Act.put, List.setIfInBounds_toArray, List.set_cons_zero, List.set_cons_succ]
  refine seq_take _ ?_ rfl (Or.inl ⟨by rfl, ?_⟩) ?_
  rotate_left
  · (intro w hSw; (try dsimp only at hSw); go_simp; (try with_reducible rfl))
  try simp only [Act.put, List.setIfInBounds_toArray, List.set_cons_zero, List.set_cons_succ]
  refine seq_one _ rfl fun K hK => ?_
  have R1 := R8.after Dp2
  have ⟨r0', r1', r2', r3', k0, k1, k2, k3, _⟩ := R1
  go_simp
  refine hK.out _ _ (⟨((X8.after Dp2).far4 (by omega) _ _ _ _).cells, ((Y8.after Dp2).far4 (by omega) _ _ _ _).cells, ⟨((Q8.after Dp2).far4 (by omega) _ _ _ _).1, ((Q8.after Dp2).far4 (by omega) _ _ _ _).2.1⟩, ((M8.after Dp2).far4 (by omega) _ _ _ _).1, ((M8.after Dp2).far4 (by omega) _ _ _ _).2.1⟩) (fun hHeld => ?_)
  clear hK K hHeld
  try simp only [Act.put, List.setIfInBounds_toArray, List.set_cons_zero, List.set_cons_succ]
  refine NoPanic.normal ?_
  go_wp2
  have hs := R8.after Dp2
  refine bodyPost_ret (v := .agg #[.bool g6, .slice A6 n6 c6, .bool gp2, .slice Ap2 np2 cp2]) (by obtain ⟨v0, v1, v2, v3⟩ := hs.set4e (.bool g6) (.slice A6 n6 c6) (.bool gp2) (.slice Ap2 np2 cp2); simp [results, Tryd.results87, go_sem, v0, v1, v2, v3]) rfl ⟨_, _, _, _, _, _, _, _, rfl, (Jm.below Dp2).stored4 hs rfl rfl rfl rfl _ _ _ _, ip2.stored4 hs rfl rfl rfl rfl _ _ _ _, ?_⟩
  exact Below.set4 (B8.trans (Dp2.mono B8.size)) (by omega) _ _ _ _
end Go.Proofs.YtclmenpclkmfeaaDoor
namespace Go.Proofs.YtclmenpclkmfeaaDoor
open Go.RowKit
/-- Two integers in four cells. -/
structure IsFr (w : World) (gn : Bool) (An : Option Addr) (nn cn : Nat) (gd : Bool) (Ad : Option Addr) (nd cd : Nat) (q : Int × Int) : Prop where
  num : IsInt w gn An nn cn q.1
  den : IsInt w gd Ad nd cd q.2
theorem IsFr.below {w w' : World} {gn : Bool} {An : Option Addr} {nn cn : Nat} {gd : Bool} {Ad : Option Addr} {nd cd : Nat} {q : Int × Int} (h : IsFr w gn An nn cn gd Ad nd cd q) (hb : Below w.heap.size w w') : IsFr w' gn An nn cn gd Ad nd cd q := ⟨h.num.below hb, h.den.below hb⟩
theorem IsFr.stored4 {w : World} {gn gd : Bool} {An Ad : Option Addr} {nn cn nd cd : Nat} {q : Int × Int} (h : IsFr w gn An nn cn gd Ad nd cd q) {g : Nat} {a0 a1 a2 a3 : Value} (hs : Slot4 w g a0 a1 a2 a3) (n0 : noLimb a0 = true) (n1 : noLimb a1 = true) (n2 : noLimb a2 = true) (n3 : noLimb a3 = true) (u0 u1 u2 u3 : Value) :
    IsFr ((((w.setCell ⟨g, 0, none⟩ u0).setCell ⟨g, 1, none⟩ u1).setCell ⟨g, 2, none⟩ u2).setCell ⟨g, 3, none⟩ u3) gn An nn cn gd Ad nd cd q := ⟨h.num.stored4 hs n0 n1 n2 n3 _ _ _ _, h.den.stored4 hs n0 n1 n2 n3 _ _ _ _⟩
theorem FrAt.set4n {w : World} {g : Nat} {gn gd : Bool} {An Ad : Option Addr} {nn cn nd cd : Nat} {q : Int × Int} (h : IsFr w gn An nn cn gd Ad nd cd q) {a0 a1 a2 a3 : Value} (hs : Slot4 w g a0 a1 a2 a3) (n0 : noLimb a0 = true) (n1 : noLimb a1 = true) (n2 : noLimb a2 = true) (n3 : noLimb a3 = true) :
    ∃ gn An nn cn gd Ad nd cd, Slot4 ((((w.setCell ⟨g, 0, none⟩ (.bool gn)).setCell ⟨g, 1, none⟩ (.slice An nn cn)).setCell ⟨g, 2, none⟩ (.bool gd)).setCell ⟨g, 3, none⟩ (.slice Ad nd cd)) g (.bool gn) (.slice An nn cn) (.bool gd) (.slice Ad nd cd) ∧ IsFr ((((w.setCell ⟨g, 0, none⟩ (.bool gn)).setCell ⟨g, 1, none⟩ (.slice An nn cn)).setCell ⟨g, 2, none⟩ (.bool gd)).setCell ⟨g, 3, none⟩ (.slice Ad nd cd)) gn An nn cn gd Ad nd cd q :=
  ⟨gn, An, nn, cn, gd, Ad, nd, cd, hs.near4 _ _ _ _, h.stored4 hs n0 n1 n2 n3 _ _ _ _⟩
/-- The struct at block g holds the pair q. -/
def FrAt (w : World) (g : Nat) (q : Int × Int) : Prop := ∃ gn An nn cn gd Ad nd cd, Slot4 w g (.bool gn) (.slice An nn cn) (.bool gd) (.slice Ad nd cd) ∧ IsFr w gn An nn cn gd Ad nd cd q
theorem FrAt.after {w w' : World} {g : Nat} {q : Int × Int} (h : FrAt w g q) (hb : Below w.heap.size w w') : FrAt w' g q := by
  obtain ⟨a, b, c, d, a', b', c', d', h1, h2⟩ := h
  exact ⟨a, b, c, d, a', b', c', d', h1.after hb, h2.below hb⟩
theorem FrAt.new {w : World} {gn gd : Bool} {An Ad : Option Addr} {nn cn nd cd : Nat} {q : Int × Int} (h : IsFr w gn An nn cn gd Ad nd cd q) : FrAt (w.alloc (.cells #[.bool gn, .slice An nn cn, .bool gd, .slice Ad nd cd] 92)) w.heap.size q :=
  ⟨gn, An, nn, cn, gd, Ad, nd, cd, Slot4.new w _ _ _ _ _, h.below ((Below.refl _ _).alloc (Nat.le_refl _) _)⟩
/-- The value v is the pair q. -/
def FrV (w : World) (v : Value) (q : Int × Int) : Prop := ∃ gn An nn cn gd Ad nd cd, v = .agg #[.bool gn, .slice An nn cn, .bool gd, .slice Ad nd cd] ∧ IsFr w gn An nn cn gd Ad nd cd q
theorem FrV.below {w w' : World} {v : Value} {q : Int × Int} (h : FrV w v q) (hb : Below w.heap.size w w') : FrV w' v q := by
  obtain ⟨a, b, c, d, a', b', c', d', e, hi⟩ := h
  exact ⟨a, b, c, d, a', b', c', d', e, hi.below hb⟩
/-- A tuple of a fraction and a code. -/
def TupF (w : World) (v : Value) (q : Int × Int) (e : Int) : Prop := ∃ v1, v = .tuple #[v1, .int .i64 e] ∧ FrV w v1 q
theorem TupF.below {w w' : World} {v : Value} {q : Int × Int} {e : Int} (h : TupF w v q e) (hb : Below w.heap.size w w') : TupF w' v q e := by
  obtain ⟨v1, e1, h1⟩ := h
  exact ⟨v1, e1, h1.below hb⟩
section
variable {w : World} {g : Nat} {a0 a1 a2 a3 : Value} (hs : Slot4 w g a0 a1 a2 a3) (n0 : noLimb a0 = true) (n1 : noLimb a1 = true) (n2 : noLimb a2 = true) (n3 : noLimb a3 = true) (u0 u1 u2 u3 : Value)
include hs n0 n1 n2 n3
theorem FrV.set4 {v : Value} {q : Int × Int} (h : FrV w v q) : FrV ((((w.setCell ⟨g, 0, none⟩ u0).setCell ⟨g, 1, none⟩ u1).setCell ⟨g, 2, none⟩ u2).setCell ⟨g, 3, none⟩ u3) v q := by
  obtain ⟨a, b, c, d, a', b', c', d', e, hi⟩ := h
  exact ⟨a, b, c, d, a', b', c', d', e, hi.stored4 hs n0 n1 n2 n3 _ _ _ _⟩
theorem TupF.set4 {v : Value} {q : Int × Int} {e : Int} (h : TupF w v q e) : TupF ((((w.setCell ⟨g, 0, none⟩ u0).setCell ⟨g, 1, none⟩ u1).setCell ⟨g, 2, none⟩ u2).setCell ⟨g, 3, none⟩ u3) v q e := by
  obtain ⟨v1, e1, h1⟩ := h
  exact ⟨v1, e1, h1.set4 hs n0 n1 n2 n3 _ _ _ _⟩
end
/-- The pointer v points to a struct of four cells of the call's own, made since B: not yet written, or holding the pair q. -/
def OwnF (B : Nat) (w : World) (v : Value) (st : Bool) (q : Int × Int) : Prop := ∃ g, v = .pointer (some ⟨g, 0, none⟩) ∧ B ≤ g ∧ ∃ a0 a1 a2 a3, Slot4 w g a0 a1 a2 a3 ∧ noLimb a0 = true ∧ noLimb a1 = true ∧ noLimb a2 = true ∧ noLimb a3 = true ∧ (st = true → FrV w (.agg #[a0, a1, a2, a3]) q)
theorem OwnF.below {B : Nat} {w w' : World} {v : Value} {st : Bool} {q : Int × Int} (h : OwnF B w v st q) (hb : Below w.heap.size w w') : OwnF B w' v st q := by
  obtain ⟨g, e, hg, a0, a1, a2, a3, hs, n0, n1, n2, n3, hi⟩ := h
  exact ⟨g, e, hg, a0, a1, a2, a3, hs.after hb, n0, n1, n2, n3, fun h => (hi h).below hb⟩
theorem OwnF.new {B : Nat} {w : World} (hB : B ≤ w.heap.size) (q : Int × Int) : OwnF B (w.alloc (.cells #[.bool false, .slice none 0 0, .bool false, .slice none 0 0] 92)) (.pointer (some ⟨w.heap.size, 0, none⟩)) false q :=
  ⟨_, rfl, hB, _, _, _, _, Slot4.new w _ _ _ _ _, rfl, rfl, rfl, rfl, fun h => by cases h⟩
theorem OwnF.far {B : Nat} {w : World} {v : Value} {st : Bool} {q : Int × Int} (h : OwnF B w v st q) {g : Nat} (hne : v ≠ .pointer (some ⟨g, 0, none⟩)) {a0 a1 a2 a3 : Value} (hs : Slot4 w g a0 a1 a2 a3) (n0 : noLimb a0 = true) (n1 : noLimb a1 = true) (n2 : noLimb a2 = true) (n3 : noLimb a3 = true) (u0 u1 u2 u3 : Value) :
    OwnF B ((((w.setCell ⟨g, 0, none⟩ u0).setCell ⟨g, 1, none⟩ u1).setCell ⟨g, 2, none⟩ u2).setCell ⟨g, 3, none⟩ u3) v st q := by
  obtain ⟨g', e, hg, b0, b1, b2, b3, hs', m0, m1, m2, m3, hi⟩ := h
  have hgg : g' ≠ g := fun h => hne (by rw [e, h])
  exact ⟨g', e, hg, b0, b1, b2, b3, hs'.far4 hgg _ _ _ _, m0, m1, m2, m3, fun h => (hi h).set4 hs n0 n1 n2 n3 _ _ _ _⟩
theorem OwnF.near {B : Nat} {w : World} {g : Nat} {q : Int × Int} {gn gd : Bool} {An Ad : Option Addr} {nn cn nd cd : Nat} (hi : IsFr w gn An nn cn gd Ad nd cd q) (hg : B ≤ g) {a0 a1 a2 a3 : Value} (hs : Slot4 w g a0 a1 a2 a3) (n0 : noLimb a0 = true) (n1 : noLimb a1 = true) (n2 : noLimb a2 = true) (n3 : noLimb a3 = true) :
    OwnF B ((((w.setCell ⟨g, 0, none⟩ (.bool gn)).setCell ⟨g, 1, none⟩ (.slice An nn cn)).setCell ⟨g, 2, none⟩ (.bool gd)).setCell ⟨g, 3, none⟩ (.slice Ad nd cd)) (.pointer (some ⟨g, 0, none⟩)) true q :=
  ⟨g, rfl, hg, _, _, _, _, hs.near4 _ _ _ _, rfl, rfl, rfl, rfl, fun _ => ⟨gn, An, nn, cn, gd, Ad, nd, cd, rfl, hi.stored4 hs n0 n1 n2 n3 _ _ _ _⟩⟩
theorem OwnF.frAtB {B : Nat} {w : World} {v : Value} {q : Int × Int} (h : OwnF B w v true q) : ∃ g, v = .pointer (some ⟨g, 0, none⟩) ∧ FrAt w g q ∧ B ≤ g := by
  obtain ⟨g, e, hB, a0, a1, a2, a3, hs, _, _, _, _, hi⟩ := h
  obtain ⟨gn, An, nn, cn, gd, Ad, nd, cd, e2, hz⟩ := hi rfl
  have e3 : a0 = .bool gn ∧ a1 = .slice An nn cn ∧ a2 = .bool gd ∧ a3 = .slice Ad nd cd := by simpa using e2
  rw [e3.1, e3.2.1, e3.2.2.1, e3.2.2.2] at hs
  exact ⟨g, e, ⟨gn, An, nn, cn, gd, Ad, nd, cd, hs, hz⟩, hB⟩
theorem OwnF.lt {B : Nat} {w : World} {v : Value} {st : Bool} {q : Int × Int} (h : OwnF B w v st q) : v ≠ .pointer (some ⟨w.heap.size, 0, none⟩) := by
  obtain ⟨g, e, _, a0, a1, a2, a3, hs, _⟩ := h
  have := hs.2.2.2.2.2.2.2.2
  rw [e]
  intro h
  have e := congrArg (fun v => match v with | .pointer (some a) => a.block | _ => 0) h
  have e2 : g = w.heap.size := e
  omega
theorem FrAt.far4 {w : World} {g g' : Nat} {q : Int × Int} (h : FrAt w g q) (hne : g ≠ g') {a0 a1 a2 a3 : Value} (hs : Slot4 w g' a0 a1 a2 a3) (n0 : noLimb a0 = true) (n1 : noLimb a1 = true) (n2 : noLimb a2 = true) (n3 : noLimb a3 = true) (u0 u1 u2 u3 : Value) : FrAt ((((w.setCell ⟨g', 0, none⟩ u0).setCell ⟨g', 1, none⟩ u1).setCell ⟨g', 2, none⟩ u2).setCell ⟨g', 3, none⟩ u3) g q := by
  obtain ⟨a, b, c, d, a', b', c', d', h1, h2⟩ := h
  exact ⟨a, b, c, d, a', b', c', d', h1.far4 hne _ _ _ _, h2.stored4 hs n0 n1 n2 n3 _ _ _ _⟩
/-- Two lines stored one after the other. -/
theorem lines_two {w : World} {g g' : Nat} (hne : g ≠ g') {a0 a1 a2 a3 b0 b1 b2 b3 : Value} (S : Slot4 w g a0 a1 a2 a3) (S' : Slot4 w g' b0 b1 b2 b3) (n0 : noLimb a0 = true) (n1 : noLimb a1 = true) (n2 : noLimb a2 = true) (n3 : noLimb a3 = true) (m0 : noLimb b0 = true) (m1 : noLimb b1 = true) (m2 : noLimb b2 = true) (m3 : noLimb b3 = true)
    {gn gd : Bool} {An Ad : Option Addr} {nn cn nd cd : Nat} {q : Int × Int} (J : IsFr w gn An nn cn gd Ad nd cd q) {gn' gd' : Bool} {An' Ad' : Option Addr} {nn' cn' nd' cd' : Nat} {q' : Int × Int} (J' : IsFr w gn' An' nn' cn' gd' Ad' nd' cd' q') :
    FrAt ((((((((w.setCell ⟨g, 0, none⟩ (.bool gn)).setCell ⟨g, 1, none⟩ (.slice An nn cn)).setCell ⟨g, 2, none⟩ (.bool gd)).setCell ⟨g, 3, none⟩ (.slice Ad nd cd)).setCell ⟨g', 0, none⟩ (.bool gn')).setCell ⟨g', 1, none⟩ (.slice An' nn' cn')).setCell ⟨g', 2, none⟩ (.bool gd')).setCell ⟨g', 3, none⟩ (.slice Ad' nd' cd')) g q ∧
    FrAt ((((((((w.setCell ⟨g, 0, none⟩ (.bool gn)).setCell ⟨g, 1, none⟩ (.slice An nn cn)).setCell ⟨g, 2, none⟩ (.bool gd)).setCell ⟨g, 3, none⟩ (.slice Ad nd cd)).setCell ⟨g', 0, none⟩ (.bool gn')).setCell ⟨g', 1, none⟩ (.slice An' nn' cn')).setCell ⟨g', 2, none⟩ (.bool gd')).setCell ⟨g', 3, none⟩ (.slice Ad' nd' cd')) g' q' := by
  have S1 := S.near4 (.bool gn) (.slice An nn cn) (.bool gd) (.slice Ad nd cd)
  have S1' := S'.far4 (Ne.symm hne) (.bool gn) (.slice An nn cn) (.bool gd) (.slice Ad nd cd)
  have J1 := J.stored4 S n0 n1 n2 n3 (.bool gn) (.slice An nn cn) (.bool gd) (.slice Ad nd cd)
  have J1' := J'.stored4 S n0 n1 n2 n3 (.bool gn) (.slice An nn cn) (.bool gd) (.slice Ad nd cd)
  exact ⟨⟨_, _, _, _, _, _, _, _, S1.far4 hne _ _ _ _, J1.stored4 S1' m0 m1 m2 m3 _ _ _ _⟩, ⟨_, _, _, _, _, _, _, _, S1'.near4 _ _ _ _, J1'.stored4 S1' m0 m1 m2 m3 _ _ _ _⟩⟩
/-- What holds at each round of firstWithin. -/
def LRel (w wr : World) (g8 g9 : Nat) (gb : Bool) (Ab : Option Addr) (nb cb : Nat) (b r0 s0 r1 s1 : Int) : Prop :=
  FrAt wr g8 (r0, s0) ∧ FrAt wr g9 (r1, s1) ∧ Slot2 wr w.heap.size (.bool gb) (.slice Ab nb cb) ∧ IsInt wr gb Ab nb cb b ∧ Slot4 wr (w.heap.size + 1 + 1 + 1) (.bool false) (.slice none 0 0) (.bool false) (.slice none 0 0) ∧ Below w.heap.size w wr
theorem LRel.nextA {w w6 : World} {g8 g9 : Nat} {gb : Bool} {Ab : Option Addr} {nb cb : Nat} {b r1 s1 r2 s2 : Int} {ln : Bool} {lA : Option Addr} {la lb : Nat} {ld : Bool} {lD : Option Addr} {le lf : Nat} {nn : Bool} {nA : Option Addr} {na nb_ : Nat} {nd : Bool} {nD : Option Addr} {ne nf : Nat} {on : Bool} {oA : Option Addr} {oa ob : Nat} {od : Bool} {oD : Option Addr} {oe of_ : Nat}
    (S8 : Slot4 w6 g8 (.bool on) (.slice oA oa ob) (.bool od) (.slice oD oe of_)) (S9 : Slot4 w6 g9 (.bool ln) (.slice lA la lb) (.bool ld) (.slice lD le lf)) (J : IsFr w6 ln lA la lb ld lD le lf (r1, s1)) (J' : IsFr w6 nn nA na nb_ nd nD ne nf (r2, s2)) (Pb : Slot2 w6 w.heap.size (.bool gb) (.slice Ab nb cb)) (Ib : IsInt w6 gb Ab nb cb b)
    (R : Slot4 w6 (w.heap.size + 1 + 1 + 1) (.bool false) (.slice none 0 0) (.bool false) (.slice none 0 0)) (B : Below w.heap.size w w6) (h89 : g8 ≠ g9) (h8 : w.heap.size + 1 + 1 + 1 < g8) (h9 : w.heap.size + 1 + 1 + 1 < g9) :
    LRel w (((((((((((((((w6.setCell ⟨g8, 0, none⟩ (.bool ln))).setCell ⟨g8, 1, none⟩ (.slice lA la lb))).setCell ⟨g8, 2, none⟩ (.bool ld))).setCell ⟨g8, 3, none⟩ (.slice lD le lf))).setCell ⟨g9, 0, none⟩ (.bool nn))).setCell ⟨g9, 1, none⟩ (.slice nA na nb_))).setCell ⟨g9, 2, none⟩ (.bool nd))).setCell ⟨g9, 3, none⟩ (.slice nD ne nf)) g8 g9 gb Ab nb cb b r1 s1 r2 s2 := by
  have F := lines_two h89 S8 S9 rfl rfl rfl rfl rfl rfl rfl rfl J J'
  have Q2 := S9.far4 (Ne.symm h89) (.bool ln) (.slice lA la lb) (.bool ld) (.slice lD le lf)
  exact ⟨F.1, F.2, (Pb.far4 (by omega) _ _ _ _).far4 (by omega) _ _ _ _, (Ib.stored4 S8 rfl rfl rfl rfl _ _ _ _).stored4 Q2 rfl rfl rfl rfl _ _ _ _, (R.far4 (by omega) _ _ _ _).far4 (by omega) _ _ _ _, Below.set4 (Below.set4 B (by omega) _ _ _ _) (by omega) _ _ _ _⟩
theorem LRel.nextB {w w6 : World} {g8 g9 : Nat} {gb : Bool} {Ab : Option Addr} {nb cb : Nat} {b r1 s1 r2 s2 : Int} {ln : Bool} {lA : Option Addr} {la lb : Nat} {ld : Bool} {lD : Option Addr} {le lf : Nat} {nn : Bool} {nA : Option Addr} {na nb_ : Nat} {nd : Bool} {nD : Option Addr} {ne nf : Nat} {on : Bool} {oA : Option Addr} {oa ob : Nat} {od : Bool} {oD : Option Addr} {oe of_ : Nat}
    (S8 : Slot4 w6 g8 (.bool on) (.slice oA oa ob) (.bool od) (.slice oD oe of_)) (S9 : Slot4 w6 g9 (.bool ln) (.slice lA la lb) (.bool ld) (.slice lD le lf)) (J : IsFr w6 ln lA la lb ld lD le lf (r1, s1)) (J' : IsFr w6 nn nA na nb_ nd nD ne nf (r2, s2)) (Pb : Slot2 w6 w.heap.size (.bool gb) (.slice Ab nb cb)) (Ib : IsInt w6 gb Ab nb cb b)
    (R : Slot4 w6 (w.heap.size + 1 + 1 + 1) (.bool false) (.slice none 0 0) (.bool false) (.slice none 0 0)) (B : Below w.heap.size w w6) (h89 : g8 ≠ g9) (h8 : w.heap.size + 1 + 1 + 1 < g8) (h9 : w.heap.size + 1 + 1 + 1 < g9) :
    LRel w (((((((((((((((w6.setCell ⟨g9, 0, none⟩ (.bool nn))).setCell ⟨g9, 1, none⟩ (.slice nA na nb_))).setCell ⟨g9, 2, none⟩ (.bool nd))).setCell ⟨g9, 3, none⟩ (.slice nD ne nf))).setCell ⟨g8, 0, none⟩ (.bool ln))).setCell ⟨g8, 1, none⟩ (.slice lA la lb))).setCell ⟨g8, 2, none⟩ (.bool ld))).setCell ⟨g8, 3, none⟩ (.slice lD le lf)) g8 g9 gb Ab nb cb b r1 s1 r2 s2 := by
  have F := lines_two (Ne.symm h89) S9 S8 rfl rfl rfl rfl rfl rfl rfl rfl J' J
  have Q2 := S8.far4 h89 (.bool nn) (.slice nA na nb_) (.bool nd) (.slice nD ne nf)
  exact ⟨F.2, F.1, (Pb.far4 (by omega) _ _ _ _).far4 (by omega) _ _ _ _, (Ib.stored4 S9 rfl rfl rfl rfl _ _ _ _).stored4 Q2 rfl rfl rfl rfl _ _ _ _, (R.far4 (by omega) _ _ _ _).far4 (by omega) _ _ _ _, Below.set4 (Below.set4 B (by omega) _ _ _ _) (by omega) _ _ _ _⟩
end Go.Proofs.YtclmenpclkmfeaaDoor
namespace Go.Proofs.YtclmenpclkmfeaaDoor
open Go.RowKit
theorem Sz.abs_le {k : Nat} {z m : Int} (h : Sz k m) (hz : z.natAbs ≤ m.natAbs) : Sz k z := ⟨h.le, Nat.le_trans (digs_len_mono hz) h.len⟩
/-- What the first line within the bound is. -/
def FstW (a m b : Int) (q : Int × Int) (v : Bool) : Prop := ∃ r0 s0, LInv a m r0 s0 q.1 q.2 ∧ b < r0 ∧ ¬ (b < q.1 ∧ (q.2.natAbs : Int) ≤ b) ∧ v = decide (q.1 ≤ b ∧ (q.2.natAbs : Int) ≤ b)
def RetLn (w : World) (a m b : Int) (e : Ending) (w' : World) : Prop := ∃ gn An nn cn gd Ad nd cd q v, e = .returned (.tuple #[.agg #[.bool gn, .slice An nn cn, .bool gd, .slice Ad nd cd], .bool v]) ∧ IsFr w' gn An nn cn gd Ad nd cd q ∧ Below w.heap.size w w' ∧ Hid (FstW a m b q v)
set_option maxRecDepth 1000000 in
set_option maxHeartbeats 8000000 in
theorem first_z (gb : Bool) (Ab : Option Addr) (nb cb : Nat) (ga : Bool) (Aa : Option Addr) (na ca : Nat) (gm : Bool) (Am : Option Addr) (nm cm : Nat) {k l : Nat} {b a m : Int} (w : World)
    (hb : IsInt w gb Ab nb cb b) (ha : IsInt w ga Aa na ca a) (hm : IsInt w gm Am nm cm m) (za : Sz l a) (zm : Sz k m) (hk : k + 1 + k ≤ 10000) (hm0 : 0 < m) (hb0 : 0 ≤ b) (hbm : b < m) :
    Calls Tryd.prog 59 #[.agg #[.bool gb, .slice Ab nb cb], .agg #[.bool ga, .slice Aa na ca], .agg #[.bool gm, .slice Am nm cm]] w (RetLn w a m b) := by
  have a1 := (Below.refl w.heap.size w).alloc (Nat.le_refl _) (.cells #[.bool gb, .slice Ab nb cb] 28)
  have a2 := a1.alloc a1.size (.cells #[.bool ga, .slice Aa na ca] 28)
  have a3 := a2.alloc a2.size (.cells #[.bool gm, .slice Am nm cm] 28)
  have B0 := a3.alloc a3.size (.cells #[.bool false, .slice none 0 0, .bool false, .slice none 0 0] 92)
  have Pb := (((Slot2.new w (.bool gb) (.slice Ab nb cb) 28).alloc (.cells #[.bool ga, .slice Aa na ca] 28)).alloc (.cells #[.bool gm, .slice Am nm cm] 28)).alloc (.cells #[.bool false, .slice none 0 0, .bool false, .slice none 0 0] 92)
  have Pa := ((Slot2.new (w.alloc (.cells #[.bool gb, .slice Ab nb cb] 28)) (.bool ga) (.slice Aa na ca) 28).alloc (.cells #[.bool gm, .slice Am nm cm] 28)).alloc (.cells #[.bool false, .slice none 0 0, .bool false, .slice none 0 0] 92)
  have Pm := (Slot2.new ((w.alloc (.cells #[.bool gb, .slice Ab nb cb] 28)).alloc (.cells #[.bool ga, .slice Aa na ca] 28)) (.bool gm) (.slice Am nm cm) 28).alloc (.cells #[.bool false, .slice none 0 0, .bool false, .slice none 0 0] 92)
  have R0 := Slot4.new (((w.alloc (.cells #[.bool gb, .slice Ab nb cb] 28)).alloc (.cells #[.bool ga, .slice Aa na ca] 28)).alloc (.cells #[.bool gm, .slice Am nm cm] 28)) (.bool false) (.slice none 0 0) (.bool false) (.slice none 0 0) 92
  simp only [World.size_alloc] at Pa Pm R0
  have Ib := hb.below B0
  have Ia := ha.below B0
  have Im := hm.below B0
  have HM0 := Lib.hid hm0
  have HB0 := Lib.hid (And.intro hb0 hbm)
  have hne : m ≠ 0 := by omega
  have zq : Sz k (a % m) := Sz.mod zm hne
  clear hb ha hm a1 a2 a3 hb0 hbm hm0
  have ⟨a0, a1, _, _, _⟩ := Pa
  have ⟨m0, m1, _, _, _⟩ := Pm
  go_enter Tryd.func59, Tryd.ntmps59
  generalize hW : (((w.alloc (.cells #[.bool gb, .slice Ab nb cb] 28)).alloc (.cells #[.bool ga, .slice Aa na ca] 28)).alloc (.cells #[.bool gm, .slice Am nm cm] 28)).alloc (.cells #[.bool false, .slice none 0 0, .bool false, .slice none 0 0] 92) = W0 at *
  go_wp2_with fail
  try rw [hW]
  clear hW
  (with_reducible refine (dm_z ga gm Aa Am na ca nm cm _ Ia Im za zm hne).mono ?_)
  rintro e w1 ⟨g5, A5, n5, c5, g6, A6, n6, c6, rfl, hi5, hi6, hb1⟩
  replace Pb := Pb.after hb1
  replace Pa := Pa.after hb1
  replace Pm := Pm.after hb1
  replace R0 := R0.after hb1
  replace Ib := Ib.below hb1
  replace Im := Im.below hb1
  replace B0 := B0.trans (hb1.mono B0.size)
  clear a0 a1 m0 m1 hb1 hi5 Ia
  have ⟨a0, a1, a2, a3, _⟩ := Pa
  have Pb2 := Pb.far2 (g' := w.heap.size + 1) (by omega) (.bool g6) (.slice A6 n6 c6)
  have Pm2 := Pm.far2 (g' := w.heap.size + 1) (by omega) (.bool g6) (.slice A6 n6 c6)
  have R2 := R0.far2 (g' := w.heap.size + 1) (by omega) (.bool g6) (.slice A6 n6 c6)
  have Ib2 := Ib.set2 Pa rfl rfl (.bool g6) (.slice A6 n6 c6)
  have Im2 := Im.set2 Pa rfl rfl (.bool g6) (.slice A6 n6 c6)
  have Ir2 := hi6.set2 Pa rfl rfl (.bool g6) (.slice A6 n6 c6)
  have Pa2 := Pa.set2 (.bool g6) (.slice A6 n6 c6)
  have B2 := Below.set2 B0 (show w.heap.size ≤ w.heap.size + 1 by omega) (.bool g6) (.slice A6 n6 c6)
  go_upto_region 2 with (fail)
  clear Pb Pm R0 Ib Im hi6 Pa B0 a0 a1 a2 a3
  generalize (w1.setCell ⟨w.heap.size + 1, 0, none⟩ (.bool g6)).setCell ⟨w.heap.size + 1, 1, none⟩ (.slice A6 n6 c6) = W2 at *
  have HX : Hid (∀ V, Below W2.heap.size W2 V → (V.cell? ⟨w.heap.size + 1 + 1, 0, none⟩ = some (.bool gm) ∧ V.cell? ⟨w.heap.size + 1 + 1, 1, none⟩ = some (.slice Am nm cm)) ∧ (V.cell? ⟨w.heap.size + 1, 0, none⟩ = some (.bool g6) ∧ V.cell? ⟨w.heap.size + 1, 1, none⟩ = some (.slice A6 n6 c6))) := fun V hV => ⟨⟨(Pm2.after hV).1, (Pm2.after hV).2.1⟩, (Pa2.after hV).1, (Pa2.after hV).2.1⟩
  have HI : Hid (∀ V, Below W2.heap.size W2 V → IsInt V gm Am nm cm m ∧ IsInt V g6 A6 n6 c6 (a % m)) := fun V hV => ⟨Im2.below hV, Ir2.below hV⟩
  go_cut [8, 9] (fun p0 p1 wx => ∃ g8 g9, p0 = .pointer (some ⟨g8, 0, none⟩) ∧ p1 = .pointer (some ⟨g9, 0, none⟩) ∧ FrAt wx g8 (m, (0 : Int)) ∧ FrAt wx g9 (a % m, (1 : Int)) ∧ g8 ≠ g9 ∧ W2.heap.size ≤ g8 ∧ W2.heap.size ≤ g9 ∧ Below W2.heap.size W2 wx)
  case first =>
    as_aux_lemma =>
      refine wp_region_ev (fun d a0 a' w' => ∃ u17 u18 u19 u20 u21 u8 u9 : Value, a' = (((((((a0.put (some 17) u17).put (some 18) u18).put (some 19) u19).put (some 20) u20).put (some 21) u21).put (some 8) u8).put (some 9) u9) ∧ Below W2.heap.size W2 w' ∧ (d 0 = true → u17 = .agg #[.bool gm, .slice Am nm cm]) ∧ (d 1 = true → FrV w' u18 ((m, (0 : Int)))) ∧ (d 2 = true → u19 = .agg #[.bool g6, .slice A6 n6 c6]) ∧ (d 3 = true → IntV w' u20 (1)) ∧ (d 4 = true → FrV w' u21 ((a % m, (1 : Int)))) ∧ (d 5 = true → OwnF W2.heap.size w' u8 (d 7) ((m, (0 : Int)))) ∧ (d 6 = true → OwnF W2.heap.size w' u9 (d 8) ((a % m, (1 : Int)))) ∧ (d 5 = true → d 6 = true → u8 ≠ u9) ∧ (d 7 = true → d 5 = true) ∧ (d 8 = true → d 6 = true)) (by kernel_rfl) (by kernel_rfl) ?_ ?_ ?_ ?_
      · intro d d' h a' w' hh
        obtain rfl : d = d' := funext h
        exact hh
      · exact ⟨_, _, _, _, _, _, _, (by simp only [Act.put, List.setIfInBounds_toArray, List.set_cons_zero, List.set_cons_succ]; rfl), (Below.refl _ _).drew, (fun h => by cases h), (fun h => by cases h), (fun h => by cases h), (fun h => by cases h), (fun h => by cases h), (fun h => by cases h), (fun h => by cases h), (fun h => by cases h), (fun h => by cases h), (fun h => by cases h)⟩
      · refine ⟨?_, ?_, ?_, ?_, ?_, ?_, ?_, ?_, ?_, trivial⟩
        · intro d a2 w2 hd hm ⟨u17, u18, u19, u20, u21, u8, u9, e, HB, f0, f1, f2, f3, f4, f5, f6, n01, t0, t1⟩ K hK
          subst e
          simp only [Act.put, List.setIfInBounds_toArray, List.set_cons_zero, List.set_cons_succ]
          obtain ⟨⟨q0, q1⟩, q2, q3⟩ := HX.out w2 HB
          go_simp
          exact hK.out _ _ ⟨.agg #[.bool gm, .slice Am nm cm], u18, u19, u20, u21, u8, u9, (by simp only [Act.put, List.setIfInBounds_toArray, List.set_cons_zero, List.set_cons_succ]), HB, (fun _ => rfl), (fun h => (f1 (by simpa using h))), (fun h => f2 (by simpa using h)), (fun h => (f3 (by simpa using h))), (fun h => (f4 (by simpa using h))), (fun h => by simpa using (f5 (by simpa using h))), (fun h => by simpa using (f6 (by simpa using h))), (fun h h' => n01 (by simpa using h) (by simpa using h')), (fun h => by simpa using t0 (by simpa using h)), (fun h => by simpa using t1 (by simpa using h))⟩
        · intro d a2 w2 hd hm ⟨u17, u18, u19, u20, u21, u8, u9, e, HB, f0, f1, f2, f3, f4, f5, f6, n01, t0, t1⟩ K hK
          subst e
          simp only [Act.put, List.setIfInBounds_toArray, List.set_cons_zero, List.set_cons_succ]
          obtain rfl := f0 (hm ⟨0, .data⟩ (by simp) rfl)
          clear f0
          go_simp
          exact hK.out _ _ ⟨.agg #[.bool gm, .slice Am nm cm], .agg #[.bool gm, .slice Am nm cm, .bool false, .slice none 0 0], u19, u20, u21, u8, u9, (by simp only [Act.put, List.setIfInBounds_toArray, List.set_cons_zero, List.set_cons_succ]), HB, (fun _ => rfl), (fun _ => ⟨_, _, _, _, _, _, _, _, rfl, ⟨(HI.out _ HB).1, isInt_zero' _⟩⟩), (fun h => f2 (by simpa using h)), (fun h => (f3 (by simpa using h))), (fun h => (f4 (by simpa using h))), (fun h => by simpa using (f5 (by simpa using h))), (fun h => by simpa using (f6 (by simpa using h))), (fun h h' => n01 (by simpa using h) (by simpa using h')), (fun h => by simpa using t0 (by simpa using h)), (fun h => by simpa using t1 (by simpa using h))⟩
        · intro d a2 w2 hd hm ⟨u17, u18, u19, u20, u21, u8, u9, e, HB, f0, f1, f2, f3, f4, f5, f6, n01, t0, t1⟩ K hK
          subst e
          simp only [Act.put, List.setIfInBounds_toArray, List.set_cons_zero, List.set_cons_succ]
          obtain ⟨⟨q0, q1⟩, q2, q3⟩ := HX.out w2 HB
          go_simp
          exact hK.out _ _ ⟨u17, u18, .agg #[.bool g6, .slice A6 n6 c6], u20, u21, u8, u9, (by simp only [Act.put, List.setIfInBounds_toArray, List.set_cons_zero, List.set_cons_succ]), HB, (fun h => f0 (by simpa using h)), (fun h => (f1 (by simpa using h))), (fun _ => rfl), (fun h => (f3 (by simpa using h))), (fun h => (f4 (by simpa using h))), (fun h => by simpa using (f5 (by simpa using h))), (fun h => by simpa using (f6 (by simpa using h))), (fun h h' => n01 (by simpa using h) (by simpa using h')), (fun h => by simpa using t0 (by simpa using h)), (fun h => by simpa using t1 (by simpa using h))⟩
        · intro d a2 w2 hd hm ⟨u17, u18, u19, u20, u21, u8, u9, e, HB, f0, f1, f2, f3, f4, f5, f6, n01, t0, t1⟩ K hK
          subst e
          simp only [Act.put, List.setIfInBounds_toArray, List.set_cons_zero, List.set_cons_succ]
          go_simp
          (with_reducible refine (of_any 1 _ (by decide) (by decide)).mono ?_)
          rintro e w3 ⟨gg, AA, nn, cc, rfl, hi, hb⟩
          have HB3 := HB.trans (hb.mono HB.size)
          go_wp2_with fail
          exact hK.out _ _ ⟨u17, u18, u19, .agg #[.bool gg, .slice AA nn cc], u21, u8, u9, (by simp only [Act.put, List.setIfInBounds_toArray, List.set_cons_zero, List.set_cons_succ]), HB3, (fun h => f0 (by simpa using h)), (fun h => (f1 (by simpa using h)).below hb), (fun h => f2 (by simpa using h)), (fun _ => ⟨_, _, _, _, rfl, hi⟩), (fun h => (f4 (by simpa using h)).below hb), (fun h => by simpa using (f5 (by simpa using h)).below hb), (fun h => by simpa using (f6 (by simpa using h)).below hb), (fun h h' => n01 (by simpa using h) (by simpa using h')), (fun h => by simpa using t0 (by simpa using h)), (fun h => by simpa using t1 (by simpa using h))⟩
        · intro d a2 w2 hd hm ⟨u17, u18, u19, u20, u21, u8, u9, e, HB, f0, f1, f2, f3, f4, f5, f6, n01, t0, t1⟩ K hK
          subst e
          simp only [Act.put, List.setIfInBounds_toArray, List.set_cons_zero, List.set_cons_succ]
          obtain rfl := f2 (hm ⟨2, .data⟩ (by simp) rfl)
          clear f2
          obtain ⟨G3, A3, N3, C3, rfl, I3⟩ := f3 (hm ⟨3, .data⟩ (by simp) rfl)
          go_simp
          exact hK.out _ _ ⟨u17, u18, .agg #[.bool g6, .slice A6 n6 c6], .agg #[.bool G3, .slice A3 N3 C3], .agg #[.bool g6, .slice A6 n6 c6, .bool G3, .slice A3 N3 C3], u8, u9, (by simp only [Act.put, List.setIfInBounds_toArray, List.set_cons_zero, List.set_cons_succ]), HB, (fun h => f0 (by simpa using h)), (fun h => (f1 (by simpa using h))), (fun _ => rfl), (fun h => (f3 (by simpa using h))), (fun _ => ⟨_, _, _, _, _, _, _, _, rfl, ⟨(HI.out _ HB).2, I3⟩⟩), (fun h => by simpa using (f5 (by simpa using h))), (fun h => by simpa using (f6 (by simpa using h))), (fun h h' => n01 (by simpa using h) (by simpa using h')), (fun h => by simpa using t0 (by simpa using h)), (fun h => by simpa using t1 (by simpa using h))⟩
        · intro d a2 w2 hd hm ⟨u17, u18, u19, u20, u21, u8, u9, e, HB, f0, f1, f2, f3, f4, f5, f6, n01, t0, t1⟩ K hK
          subst e
          simp only [Act.put, List.setIfInBounds_toArray, List.set_cons_zero, List.set_cons_succ]
          have hb : Below w2.heap.size w2 (w2.alloc (.cells #[.bool false, .slice none 0 0, .bool false, .slice none 0 0] 92)) := (Below.refl _ _).alloc (Nat.le_refl _) _
          have HB3 := HB.trans (hb.mono HB.size)
          go_simp
          exact hK.out _ _ ⟨u17, u18, u19, u20, u21, .pointer (some ⟨w2.heap.size, 0, none⟩), u9, (by simp only [Act.put, List.setIfInBounds_toArray, List.set_cons_zero, List.set_cons_succ]), HB3, (fun h => f0 (by simpa using h)), (fun h => (f1 (by simpa using h)).below hb), (fun h => f2 (by simpa using h)), (fun h => (f3 (by simpa using h)).below hb), (fun h => (f4 (by simpa using h)).below hb), (fun _ => by have hs : d 7 = false := (by cases hq : d 7 with | false => rfl | true => (have hz := t0 hq; rw [hd] at hz; cases hz)); simpa [hs] using OwnF.new HB.size ((m, (0 : Int)))), (fun h => by simpa using (f6 (by simpa using h)).below hb), (fun _ h' => ((f6 (by simpa using h')).lt).symm), (fun _ => by simp), (fun h => by simpa using t1 (by simpa using h))⟩
        · intro d a2 w2 hd hm ⟨u17, u18, u19, u20, u21, u8, u9, e, HB, f0, f1, f2, f3, f4, f5, f6, n01, t0, t1⟩ K hK
          subst e
          simp only [Act.put, List.setIfInBounds_toArray, List.set_cons_zero, List.set_cons_succ]
          have hb : Below w2.heap.size w2 (w2.alloc (.cells #[.bool false, .slice none 0 0, .bool false, .slice none 0 0] 92)) := (Below.refl _ _).alloc (Nat.le_refl _) _
          have HB3 := HB.trans (hb.mono HB.size)
          go_simp
          exact hK.out _ _ ⟨u17, u18, u19, u20, u21, u8, .pointer (some ⟨w2.heap.size, 0, none⟩), (by simp only [Act.put, List.setIfInBounds_toArray, List.set_cons_zero, List.set_cons_succ]), HB3, (fun h => f0 (by simpa using h)), (fun h => (f1 (by simpa using h)).below hb), (fun h => f2 (by simpa using h)), (fun h => (f3 (by simpa using h)).below hb), (fun h => (f4 (by simpa using h)).below hb), (fun h => by simpa using (f5 (by simpa using h)).below hb), (fun _ => by have hs : d 8 = false := (by cases hq : d 8 with | false => rfl | true => (have hz := t1 hq; rw [hd] at hz; cases hz)); simpa [hs] using OwnF.new HB.size ((a % m, (1 : Int)))), (fun h _ => (f5 (by simpa using h)).lt), (fun h => by simpa using t0 (by simpa using h)), (fun _ => by simp)⟩
        · intro d a2 w2 hd hm ⟨u17, u18, u19, u20, u21, u8, u9, e, HB, f0, f1, f2, f3, f4, f5, f6, n01, t0, t1⟩ K hK
          subst e
          simp only [Act.put, List.setIfInBounds_toArray, List.set_cons_zero, List.set_cons_succ]
          obtain ⟨gg, AA, nn, cc, gg', AA', nn', cc', rfl, hi⟩ := f1 (hm ⟨1, .data⟩ (by simp) rfl)
          obtain ⟨g, rfl, hg, b0, b1, b2, b3, hs, n0, n1, n2, n3, _⟩ := f5 (hm ⟨5, .data⟩ (by simp) rfl)
          obtain ⟨k0, k1, k2, k3, k4, k5, k6, k7, k8⟩ := id hs
          go_simp
          exact hK.out _ _ ⟨u17, .agg #[.bool gg, .slice AA nn cc, .bool gg', .slice AA' nn' cc'], u19, u20, u21, .pointer (some ⟨g, 0, none⟩), u9, (by simp only [Act.put, List.setIfInBounds_toArray, List.set_cons_zero, List.set_cons_succ]), Below.set4 HB hg _ _ _ _, (fun h => f0 (by simpa using h)), (fun h => (f1 (by simpa using h)).set4 hs n0 n1 n2 n3 _ _ _ _), (fun h => f2 (by simpa using h)), (fun h => (f3 (by simpa using h)).set4 hs n0 n1 n2 n3 _ _ _ _), (fun h => (f4 (by simpa using h)).set4 hs n0 n1 n2 n3 _ _ _ _), (fun _ => by simpa using OwnF.near hi hg hs n0 n1 n2 n3), (fun h => by simpa using (f6 (by simpa using h)).far ((n01 (hm ⟨5, .data⟩ (by simp) rfl) (by simpa using h)).symm) hs n0 n1 n2 n3 _ _ _ _), (fun h h' => n01 (by simpa using h) (by simpa using h')), (fun _ => by simpa using hm ⟨5, .data⟩ (by simp) rfl), (fun h => by simpa using t1 (by simpa using h))⟩
        · intro d a2 w2 hd hm ⟨u17, u18, u19, u20, u21, u8, u9, e, HB, f0, f1, f2, f3, f4, f5, f6, n01, t0, t1⟩ K hK
          subst e
          simp only [Act.put, List.setIfInBounds_toArray, List.set_cons_zero, List.set_cons_succ]
          obtain ⟨gg, AA, nn, cc, gg', AA', nn', cc', rfl, hi⟩ := f4 (hm ⟨4, .data⟩ (by simp) rfl)
          obtain ⟨g, rfl, hg, b0, b1, b2, b3, hs, n0, n1, n2, n3, _⟩ := f6 (hm ⟨6, .data⟩ (by simp) rfl)
          obtain ⟨k0, k1, k2, k3, k4, k5, k6, k7, k8⟩ := id hs
          go_simp
          exact hK.out _ _ ⟨u17, u18, u19, u20, .agg #[.bool gg, .slice AA nn cc, .bool gg', .slice AA' nn' cc'], u8, .pointer (some ⟨g, 0, none⟩), (by simp only [Act.put, List.setIfInBounds_toArray, List.set_cons_zero, List.set_cons_succ]), Below.set4 HB hg _ _ _ _, (fun h => f0 (by simpa using h)), (fun h => (f1 (by simpa using h)).set4 hs n0 n1 n2 n3 _ _ _ _), (fun h => f2 (by simpa using h)), (fun h => (f3 (by simpa using h)).set4 hs n0 n1 n2 n3 _ _ _ _), (fun h => (f4 (by simpa using h)).set4 hs n0 n1 n2 n3 _ _ _ _), (fun h => by simpa using (f5 (by simpa using h)).far (n01 (by simpa using h) (hm ⟨6, .data⟩ (by simp) rfl)) hs n0 n1 n2 n3 _ _ _ _), (fun _ => by simpa using OwnF.near hi hg hs n0 n1 n2 n3), (fun h h' => n01 (by simpa using h) (by simpa using h')), (fun h => by simpa using t0 (by simpa using h)), (fun _ => by simpa using hm ⟨6, .data⟩ (by simp) rfl)⟩
      · intro d a2 w2 hall ⟨u17, u18, u19, u20, u21, u8, u9, e, HB, f0, f1, f2, f3, f4, f5, f6, n01, t0, t1⟩
        subst e
        simp only [Act.put, List.setIfInBounds_toArray, List.set_cons_zero, List.set_cons_succ]
        obtain rfl := f0 (hall _ (by decide))
        obtain rfl := f2 (hall _ (by decide))
        have x01 := n01 (hall _ (by decide)) (hall _ (by decide))
        obtain ⟨g0, rfl, h0, b0⟩ := OwnF.frAtB (by have := f5 (hall _ (by decide)); rwa [hall 7 (by decide)] at this)
        obtain ⟨g1, rfl, h1, b1⟩ := OwnF.frAtB (by have := f6 (hall _ (by decide)); rwa [hall 8 (by decide)] at this)
        have e01 : g0 ≠ g1 := fun h => x01 (by rw [h])
        go_wp2_with fail
        go_meet
        exact ⟨g0, g1, rfl, rfl, h0, h1, e01, b0, b1, HB⟩
  case rest =>
  obtain ⟨g8, g9, rfl, rfl, T8, T9, h89, hg8, hg9, DC⟩ := hcut
  obtain ⟨W3, rfl⟩ : ∃ x : World, x = wc := ⟨_, rfl⟩
  have hgr : w.heap.size + 1 + 1 + 1 < W2.heap.size := R2.2.2.2.2.2.2.2.2
  replace Pb2 := Pb2.after DC
  replace R2 := R2.after DC
  replace Ib2 := Ib2.below DC
  replace B2 := B2.trans (DC.mono B2.size)
  clear DC HX HI Pm2 Pa2 Im2 Ir2
  have hl8 : w.heap.size + 1 + 1 + 1 < g8 := by omega
  have hl9 : w.heap.size + 1 + 1 + 1 < g9 := by omega
  clear hgr hg8 hg9
  go_wp2_with fail
  go_loopg [] (a % m).natAbs (fun g wr => ∃ r0 s0 r1 s1 : Int, LRel w wr g8 g9 gb Ab nb cb b r0 s0 r1 s1 ∧ Hid (r1.natAbs = g) ∧ Hid (LInv a m r0 s0 r1 s1 ∧ b < r0))
  case atStart => exact ⟨m, 0, a % m, 1, ⟨T8, T9, Pb2, Ib2, R2, B2⟩, rfl, LInv.start a m HM0.out, HB0.out.2⟩
  case round =>
    obtain ⟨r0, s0, r1, s1, ⟨T8, T9, Pb, Ib, R, B⟩, hg, hL⟩ := hrel
    obtain ⟨gx8, Ax8, nx8, cx8, gy8, Ay8, ny8, cy8, S8, J8⟩ := T8
    obtain ⟨gx9, Ax9, nx9, cx9, gy9, Ay9, ny9, cy9, S9, J9⟩ := T9
    have ⟨zs0, zs1, zr0, zr1⟩ := hL.out.1.size HM0.out
    have Zs1 := zm.abs_le zs1
    have ⟨c0, c1, c2, c3, _⟩ := S9
    have ⟨d0, d1, _, _, _⟩ := Pb
    by_cases hc : b < r1 ∧ (s1.natAbs : Int) ≤ b
    case' neg =>
      obtain ⟨v1, hv1⟩ : ∃ v, decide (r1 ≤ b) = v := ⟨_, rfl⟩
      obtain ⟨v2, hv2⟩ : ∃ v, decide ((s1.natAbs : Int) ≤ b) = v := ⟨_, rfl⟩
      have HV1 := Lib.hid hv1
      have HV2 := Lib.hid hv2
      have hno : ¬ (v1 = false ∧ v2 = true) := by
        rintro ⟨rfl, rfl⟩
        have e1 := of_decide_eq_false hv1
        have e2 := of_decide_eq_true hv2
        exact hc ⟨by omega, e2⟩
      have HF : Hid (FstW a m b (r1, s1) (v1 && v2)) := ⟨r0, s0, hL.out.1, hL.out.2, hc, by rw [← hv1, ← hv2]; simp⟩
      have hcmp : (v1 == false && v2 == true) = false := by cases v1 <;> cases v2 <;> simp_all
      clear hc hv1 hv2 zs0 zs1 zr0 zr1 S8 J8 hg
      rcases v1 with _ | _ <;> rcases v2 with _ | _
      case' false.true => exact absurd ⟨rfl, rfl⟩ hno
    case' pos =>
      have HC := Lib.hid hc
      have Zs0 := zm.abs_le zs0
      have Zr0 := zm.abs_le zr0
      have Zr1 := zm.abs_le zr1
      have hr1 : r1 ≠ 0 := by have := HB0.out.1; omega
      have HV1 : Hid (decide (r1 ≤ b) = false) := decide_eq_false (by omega)
      have HV2 : Hid (decide ((s1.natAbs : Int) ≤ b) = true) := decide_eq_true hc.2
      clear hc zs0 zs1 zr0 zr1
    case' neg.false.false | neg.true.false | neg.true.true =>
      go_wp2_with fail
      (with_reducible refine (within_z gx9 Ax9 nx9 cx9 gy9 Ay9 ny9 cy9 gb Ab nb cb _ _ _ J9.num J9.den Ib Zs1 HV1.out HV2.out).mono ?_)
      rintro e w5 ⟨rfl, b5⟩
      replace S9 := S9.after b5
      replace J9 := J9.below b5
      replace Pb := Pb.after b5
      replace Ib := Ib.below b5
      replace R := R.after b5
      replace B := B.trans (b5.mono B.size)
      clear c0 c1 c2 c3 d0 d1 b5
      go_upto_region 5 with (fail)
      have HS : Hid (∀ V, Below w5.heap.size w5 V → (V.cell? ⟨g9, 0, none⟩ = some (.bool gx9) ∧ V.cell? ⟨g9, 1, none⟩ = some (.slice Ax9 nx9 cx9) ∧ V.cell? ⟨g9, 2, none⟩ = some (.bool gy9) ∧ V.cell? ⟨g9, 3, none⟩ = some (.slice Ay9 ny9 cy9)) ∧ (V.cell? ⟨w.heap.size, 0, none⟩ = some (.bool gb) ∧ V.cell? ⟨w.heap.size, 1, none⟩ = some (.slice Ab nb cb))) := fun V hV => ⟨(S9.after hV).cells, (Pb.after hV).1, (Pb.after hV).2.1⟩
      have Dp0 : Below w5.heap.size w5 w5.drew := (Below.refl _ _).drew
      refine wp_region_seq (.pre [(0, true), (1, true), (2, true), (4, true), (3, false), (5, true), (6, false), (7, true)] .done) (fun W => (W.cell? ⟨g9, 0, none⟩ = some (.bool gx9) ∧ W.cell? ⟨g9, 1, none⟩ = some (.slice Ax9 nx9 cx9) ∧ W.cell? ⟨g9, 2, none⟩ = some (.bool gy9) ∧ W.cell? ⟨g9, 3, none⟩ = some (.slice Ay9 ny9 cy9)) ∧ (W.cell? ⟨w.heap.size, 0, none⟩ = some (.bool gb) ∧ W.cell? ⟨w.heap.size, 1, none⟩ = some (.slice Ab nb cb))) (by kernel_rfl) (by kernel_rfl) ?_ (by kernel_rfl) (HS.out _ Dp0) ?_
      · refine chk_pre _ _ _ (by as_aux_lemma => kernel_rfl) ?_
        exact (by as_aux_lemma => kernel_rfl)
      refine seq_take _ ?_ rfl (Or.inl ⟨by rfl, ?_⟩) ?_
      rotate_left
      · (intro w hSw; (try dsimp only at hSw); go_simp; (try with_reducible rfl))
      try simp only [Act.put, List.setIfInBounds_toArray, List.set_cons_zero, List.set_cons_succ]
      refine seq_take _ ?_ rfl (Or.inl ⟨by rfl, ?_⟩) ?_
      rotate_left
      · (intro w hSw; (try dsimp only at hSw); go_simp; (try with_reducible rfl))
      try simp only [Act.put, List.setIfInBounds_toArray, List.set_cons_zero, List.set_cons_succ]
      refine seq_take _ ?_ rfl (Or.inl ⟨by rfl, ?_⟩) ?_
      rotate_left
      · (intro w hSw; (try dsimp only at hSw); go_simp; (try with_reducible rfl))
      try simp only [Act.put, List.setIfInBounds_toArray, List.set_cons_zero, List.set_cons_succ]
      refine seq_take _ ?_ rfl (Or.inl ⟨by rfl, ?_⟩) ?_
      rotate_left
      · (intro w hSw; (try dsimp only at hSw); go_simp; (try with_reducible rfl))
      try simp only [Act.put, List.setIfInBounds_toArray, List.set_cons_zero, List.set_cons_succ]
      refine seq_one _ rfl fun K hK => ?_
      go_simp
      (with_reducible refine (within_z gx9 Ax9 nx9 cx9 gy9 Ay9 ny9 cy9 gb Ab nb cb _ _ _ (J9.num.below Dp0) (J9.den.below Dp0) (Ib.below Dp0) Zs1 HV1.out HV2.out).mono ?_)
      rintro e vp1 ⟨rfl, bp1⟩
      have Dp1 : Below w5.heap.size w5 vp1 := Below.trans Dp0 (bp1.mono (Below.size Dp0))
      go_wp2_with fail
      refine hK.out _ _ (HS.out _ Dp1) (fun hHeld => ?_)
      clear hK K hHeld
      try simp only [Act.put, List.setIfInBounds_toArray, List.set_cons_zero, List.set_cons_succ]
      refine seq_take _ ?_ rfl (Or.inl ⟨by rfl, ?_⟩) ?_
      rotate_left
      · (intro w hSw; (try dsimp only at hSw); go_simp; (try with_reducible rfl))
      try simp only [Act.put, List.setIfInBounds_toArray, List.set_cons_zero, List.set_cons_succ]
      refine seq_one _ rfl fun K hK => ?_
      have R1 := R.after Dp1
      have ⟨r0', r1', r2', r3', k0, k1, k2, k3, _⟩ := R1
      go_simp
      refine hK.out _ _ (⟨((S9.after Dp1).far4 (by omega) _ _ _ _).cells, ((Pb.after Dp1).far4 (by omega) _ _ _ _).1, ((Pb.after Dp1).far4 (by omega) _ _ _ _).2.1⟩) (fun hHeld => ?_)
      clear hK K hHeld
      try simp only [Act.put, List.setIfInBounds_toArray, List.set_cons_zero, List.set_cons_succ]
      refine seq_take _ ?_ rfl (Or.inl ⟨by rfl, ?_⟩) ?_
      rotate_left
      · (intro w hSw; (try dsimp only at hSw); go_simp; (try with_reducible rfl))
      try simp only [Act.put, List.setIfInBounds_toArray, List.set_cons_zero, List.set_cons_succ]
      refine NoPanic.normal ?_
      go_wp2
      have hs := R.after Dp1
      refine bodyPost_ret (v := .tuple #[.agg #[.bool gx9, .slice Ax9 nx9 cx9, .bool gy9, .slice Ay9 ny9 cy9], .bool _]) (by obtain ⟨v0, v1, v2, v3⟩ := hs.set4e (.bool gx9) (.slice Ax9 nx9 cx9) (.bool gy9) (.slice Ay9 ny9 cy9); simp [results, Tryd.results59, go_sem, v0, v1, v2, v3]) rfl ⟨_, _, _, _, _, _, _, _, (r1, s1), _, rfl, (J9.below Dp1).stored4 hs rfl rfl rfl rfl _ _ _ _, ?_, HF⟩
      exact Below.set4 (B.trans (Dp1.mono B.size)) (by omega) _ _ _ _
    go_wp2_with fail
    (with_reducible refine (within_z gx9 Ax9 nx9 cx9 gy9 Ay9 ny9 cy9 gb Ab nb cb _ _ _ J9.num J9.den Ib Zs1 HV1.out HV2.out).mono ?_)
    rintro e w5 ⟨rfl, b5⟩
    replace S8 := S8.after b5
    replace J8 := J8.below b5
    replace S9 := S9.after b5
    replace J9 := J9.below b5
    replace Pb := Pb.after b5
    replace Ib := Ib.below b5
    replace R := R.after b5
    replace B := B.trans (b5.mono B.size)
    clear c0 c1 c2 c3 d0 d1 b5
    go_upto_region 4 with (fail)
    have HSt : Hid (LInv a m r1 s1 (r0 % r1) (s0 - r0 / r1 * s1) ∧ b < r1) := ⟨hL.out.1.step (by have := HB0.out.1; have := HC.out.1; omega), HC.out.1⟩
    have HMs : Hid ((r0 % r1).natAbs < gk) := by
      show (r0 % r1).natAbs < gk
      have h1 := hL.out.1.p1
      have h2 := Int.emod_nonneg r0 hr1
      have h3 := Int.emod_lt_of_pos r0 (show 0 < r1 by omega)
      have h4 := hg.out
      omega
    have HR : Hid (∀ V, Below w5.heap.size w5 V → Calls Tryd.prog 87 #[.agg #[.bool gx8, .slice Ax8 nx8 cx8, .bool gy8, .slice Ay8 ny8 cy8], .agg #[.bool gx9, .slice Ax9 nx9 cx9, .bool gy9, .slice Ay9 ny9 cy9]] V (RetFr V (r0 % r1) (s0 - r0 / r1 * s1))) := fun V hV => reduced_z gx8 Ax8 nx8 cx8 gy8 Ay8 ny8 cy8 gx9 Ax9 nx9 cx9 gy9 Ay9 ny9 cy9 V (J8.num.below hV) (J8.den.below hV) (J9.num.below hV) (J9.den.below hV) Zr0 Zs0 Zr1 Zs1 hk hr1
    have ⟨c0, c1, c2, c3, _⟩ := S9
    have ⟨d0, d1, d2, d3, _⟩ := S8
    have T0 : Below w5.heap.size w5 w5.drew := (Below.refl _ _).drew
    go_region_with (go_at_call 87; refine (HR.out _ ?_).mono ?_; (first | exact T0 | exact Below.refl _ _ | exact T0.drew | exact Below.drewN' (Below.refl _ _) _); rintro e w6 ⟨gnp6, Anp6, nnp6, cnp6, gdp6, Adp6, ndp6, cdp6, rfl, ip6, jp6, bp6⟩; have D6 : Below w5.heap.size w5 w6 := (by first | exact Below.trans T0 (bp6.mono (Below.size T0)) | exact Below.trans T0.drew (bp6.mono (Below.size T0.drew))); have ⟨c0', c1', c2', c3', c4', c5', c6', c7', _⟩ := S9.after D6; have ⟨d0', d1', d2', d3', d4', d5', d6', d7', _⟩ := S8.after D6)
    all_goals (
      have S8' := S8.after D6
      have S9' := S9.after D6
      have J9' := J9.below D6
      have Jn' : IsFr w6 gnp6 Anp6 nnp6 cnp6 gdp6 Adp6 ndp6 cdp6 (r0 % r1, s0 - r0 / r1 * s1) := ⟨ip6, jp6⟩
      have Pb' := Pb.after D6
      have Ib' := Ib.below D6
      have R' := R.after D6
      have B' := B.trans (D6.mono B.size)
      clear S8 S9 J8 J9 Pb Ib R B D6 ip6 jp6 bp6 HR T0
      clear c0' c1' c2' c3' c4' c5' c6' c7' d0' d1' d2' d3' d4' d5' d6' d7'
      first
        | (
          obtain ⟨W7, e7⟩ : ∃ W7, W7 = ((((((((w6.setCell ⟨g8, 0, none⟩ (.bool gx9)).setCell ⟨g8, 1, none⟩ (.slice Ax9 nx9 cx9)).setCell ⟨g8, 2, none⟩ (.bool gy9)).setCell ⟨g8, 3, none⟩ (.slice Ay9 ny9 cy9)).setCell ⟨g9, 0, none⟩ (.bool gnp6)).setCell ⟨g9, 1, none⟩ (.slice Anp6 nnp6 cnp6)).setCell ⟨g9, 2, none⟩ (.bool gdp6)).setCell ⟨g9, 3, none⟩ (.slice Adp6 ndp6 cdp6)) := ⟨_, rfl⟩
          rw [← e7]
          have FF := LRel.nextA S8' S9' J9' Jn' Pb' Ib' R' B' h89 hl8 hl9
          rw [← e7] at FF
          clear e7 S8' S9' J9' Jn' Pb' Ib' R' B')
        | (
          obtain ⟨W7, e7⟩ : ∃ W7, W7 = ((((((((w6.setCell ⟨g9, 0, none⟩ (.bool gnp6)).setCell ⟨g9, 1, none⟩ (.slice Anp6 nnp6 cnp6)).setCell ⟨g9, 2, none⟩ (.bool gdp6)).setCell ⟨g9, 3, none⟩ (.slice Adp6 ndp6 cdp6)).setCell ⟨g8, 0, none⟩ (.bool gx9)).setCell ⟨g8, 1, none⟩ (.slice Ax9 nx9 cx9)).setCell ⟨g8, 2, none⟩ (.bool gy9)).setCell ⟨g8, 3, none⟩ (.slice Ay9 ny9 cy9)) := ⟨_, rfl⟩
          rw [← e7]
          have FF := LRel.nextB S8' S9' J9' Jn' Pb' Ib' R' B' h89 hl8 hl9
          rw [← e7] at FF
          clear e7 S8' S9' J9' Jn' Pb' Ib' R' B')
      go_wp2_with fail
      go_roundg (r0 % r1).natAbs
      case measure => exact HMs.out
      case rel => exact ⟨r1, s1, r0 % r1, s0 - r0 / r1 * s1, FF, rfl, HSt⟩)
end Go.Proofs.YtclmenpclkmfeaaDoor
namespace Go.Proofs.YtclmenpclkmfeaaDoor
open Go.RowKit
theorem cmp_lt (a b : Int) : decide (cmpN a b < 0) = decide (a < b) := by
  rcases Int.lt_trichotomy a b with h | h | h
  · rw [cmpN_lt h]; simp; omega
  · rw [h, cmpN_eq]; simp
  · rw [cmpN_gt h]; simp; omega
/-- What Rational returns for a modulus of at least 2. -/
def RetCR (w : World) (a m : Int) (e : Ending) (w' : World) : Prop := ∃ r : Int, Hid (Bnd m r) ∧ ((∃ gn An nn cn gd Ad nd cd q, e = .returned (.tuple #[.agg #[.bool gn, .slice An nn cn, .bool gd, .slice Ad nd cd], .int .i64 0]) ∧ IsRat w' gn An nn cn gd Ad nd cd q ∧ Below w.heap.size w w' ∧ Hid (Good a m r q.num q.den)) ∨
  (e = .returned (.tuple #[.agg #[.bool false, .slice none 0 0, .bool false, .slice none 0 0], .int .i64 41]) ∧ Below w.heap.size w w' ∧ Hid (∀ n d, ¬ Good a m r n d)))

set_option maxRecDepth 1000000 in
set_option maxHeartbeats 8000000 in
theorem crat_small (ga : Bool) (Aa : Option Addr) (na ca : Nat) (gm : Bool) (Am : Option Addr) (nm cm : Nat) {k l : Nat} {a m : Int} (w : World)
    (ha : IsInt w ga Aa na ca a) (hm : IsInt w gm Am nm cm m) (_za : Sz l a) (_zm : Sz k m) (_hk : k + 1 + k ≤ 10000) (h0 : m < 2) :
    Calls Tryd.prog 27 #[.agg #[.bool ga, .slice Aa na ca], .agg #[.bool gm, .slice Am nm cm]] w (fun e w' => e = .returned (.tuple #[.agg #[.bool false, .slice none 0 0, .bool false, .slice none 0 0], .int .i64 1]) ∧ Below w.heap.size w w') := by
  have a1 := (Below.refl w.heap.size w).alloc (Nat.le_refl _) (.cells #[.bool ga, .slice Aa na ca] 28)
  have a2 := a1.alloc a1.size (.cells #[.bool gm, .slice Am nm cm] 28)
  have B := a2.alloc a2.size (.cells #[.bool false, .slice none 0 0, .bool false, .slice none 0 0] 57)
  have Pa := ((Slot2.new w (.bool ga) (.slice Aa na ca) 28).alloc (.cells #[.bool gm, .slice Am nm cm] 28)).alloc (.cells #[.bool false, .slice none 0 0, .bool false, .slice none 0 0] 57)
  have Pm := (Slot2.new (w.alloc (.cells #[.bool ga, .slice Aa na ca] 28)) (.bool gm) (.slice Am nm cm) 28).alloc (.cells #[.bool false, .slice none 0 0, .bool false, .slice none 0 0] 57)
  have R := Slot4.new ((w.alloc (.cells #[.bool ga, .slice Aa na ca] 28)).alloc (.cells #[.bool gm, .slice Am nm cm] 28)) (.bool false) (.slice none 0 0) (.bool false) (.slice none 0 0) 57
  simp only [World.size_alloc] at Pm R
  have Ia := ha.below B
  have Im := hm.below B
  obtain ⟨t, ht⟩ : ∃ t, cmpN m 2 = t := ⟨_, rfl⟩
  have ht0 : decide (t < 0) = true := by rw [← ht, cmp_lt]; exact decide_eq_true h0
  have HT := Lib.hid ht
  have H0 := Lib.hid h0
  clear ha hm a1 a2 ht h0
  go_enter Tryd.func27, Tryd.ntmps27
  go_upto_region 1 with (fail)
  generalize ((w.alloc (.cells #[.bool ga, .slice Aa na ca] 28)).alloc (.cells #[.bool gm, .slice Am nm cm] 28)).alloc (.cells #[.bool false, .slice none 0 0, .bool false, .slice none 0 0] 57) = W0 at *
  have HS : Hid (∀ V, Below W0.heap.size W0 V → (V.cell? ⟨w.heap.size + 1, 0, none⟩ = some (.bool gm) ∧ V.cell? ⟨w.heap.size + 1, 1, none⟩ = some (.slice Am nm cm))) := fun V hV => ⟨(Pm.after hV).1, (Pm.after hV).2.1⟩
  have Dp0 : Below W0.heap.size W0 W0.drew := (Below.refl _ _).drew
  refine wp_region_seq (.pre [(0, true), (1, false), (2, false), (3, true)] .done) (fun W => (W.cell? ⟨w.heap.size + 1, 0, none⟩ = some (.bool gm) ∧ W.cell? ⟨w.heap.size + 1, 1, none⟩ = some (.slice Am nm cm))) (by kernel_rfl) (by kernel_rfl) ?_ (by kernel_rfl) (HS.out _ Dp0) ?_
  · refine chk_pre _ _ _ (by as_aux_lemma => kernel_rfl) ?_
    exact (by as_aux_lemma => kernel_rfl)
  refine seq_take _ ?_ rfl (Or.inl ⟨by rfl, ?_⟩) ?_
  rotate_left
  · (intro w hSw; (try dsimp only at hSw); go_simp; (try with_reducible rfl))
  try simp only [Act.put, List.setIfInBounds_toArray, List.set_cons_zero, List.set_cons_succ]
  refine seq_one _ rfl fun K hK => ?_
  go_simp
  (with_reducible refine (of_any 2 _ (by decide) (by decide)).mono ?_)
  rintro e vp1 ⟨gp1, Ap1, np1, cp1, rfl, ip1, bp1⟩
  have Dp1 : Below W0.heap.size W0 vp1 := Below.trans Dp0 (bp1.mono (Below.size Dp0))
  go_wp2_with fail
  refine hK.out _ _ (HS.out _ Dp1) (fun hHeld => ?_)
  clear hK K hHeld
  try simp only [Act.put, List.setIfInBounds_toArray, List.set_cons_zero, List.set_cons_succ]
  refine seq_one _ rfl fun K hK => ?_
  go_simp
  (with_reducible refine (cmp_z gm gp1 Am Ap1 nm cm np1 cp1 _ t (Im.below Dp1) ip1 HT.out).mono ?_)
  rintro e vp2 ⟨rfl, bp2⟩
  have Dp2 : Below W0.heap.size W0 vp2 := Below.trans Dp1 (bp2.mono (Below.size Dp1))
  go_wp2_with fail
  refine hK.out _ _ (HS.out _ Dp2) (fun hHeld => ?_)
  clear hK K hHeld
  try simp only [Act.put, List.setIfInBounds_toArray, List.set_cons_zero, List.set_cons_succ]
  refine seq_take _ ?_ rfl (Or.inl ⟨by rfl, ?_⟩) ?_
  rotate_left
  · (intro w hSw; (try dsimp only at hSw); go_simp; (try with_reducible rfl))
  try simp only [Act.put, List.setIfInBounds_toArray, List.set_cons_zero, List.set_cons_succ]
  refine NoPanic.normal ?_
  replace Pa := Pa.after Dp2
  replace Pm := Pm.after Dp2
  replace R := R.after Dp2
  replace Ia := Ia.below Dp2
  replace Im := Im.below Dp2
  replace B := B.trans (Dp2.mono B.size)
  clear HS Dp0 Dp1 bp1 bp2 ip1 Dp2
  have ⟨r0, r1, r2, r3, k0, k1, k2, k3, _⟩ := R
  go_wp2
  refine bodyPost_ret (v := .tuple #[.agg #[.bool false, .slice none 0 0, .bool false, .slice none 0 0], .int .i64 1]) (by obtain ⟨v0, v1, v2, v3⟩ := R.set4e (.bool false) (.slice none 0 0) (.bool false) (.slice none 0 0); simp [results, Tryd.results27, go_sem, v0, v1, v2, v3]) rfl ⟨rfl, ?_⟩
  exact Below.set4 B (by omega) _ _ _ _
set_option maxRecDepth 1000000 in
set_option maxHeartbeats 8000000 in
theorem crat_z (ga : Bool) (Aa : Option Addr) (na ca : Nat) (gm : Bool) (Am : Option Addr) (nm cm : Nat) {k l : Nat} {a m : Int} (w : World)
    (ha : IsInt w ga Aa na ca a) (hm : IsInt w gm Am nm cm m) (za : Sz l a) (zm : Sz k m) (hk : k + 1 + k ≤ 10000) (h0 : 2 ≤ m) :
    Calls Tryd.prog 27 #[.agg #[.bool ga, .slice Aa na ca], .agg #[.bool gm, .slice Am nm cm]] w (RetCR w a m) := by
  have a1 := (Below.refl w.heap.size w).alloc (Nat.le_refl _) (.cells #[.bool ga, .slice Aa na ca] 28)
  have a2 := a1.alloc a1.size (.cells #[.bool gm, .slice Am nm cm] 28)
  have B := a2.alloc a2.size (.cells #[.bool false, .slice none 0 0, .bool false, .slice none 0 0] 57)
  have Pa := ((Slot2.new w (.bool ga) (.slice Aa na ca) 28).alloc (.cells #[.bool gm, .slice Am nm cm] 28)).alloc (.cells #[.bool false, .slice none 0 0, .bool false, .slice none 0 0] 57)
  have Pm := (Slot2.new (w.alloc (.cells #[.bool ga, .slice Aa na ca] 28)) (.bool gm) (.slice Am nm cm) 28).alloc (.cells #[.bool false, .slice none 0 0, .bool false, .slice none 0 0] 57)
  have R := Slot4.new ((w.alloc (.cells #[.bool ga, .slice Aa na ca] 28)).alloc (.cells #[.bool gm, .slice Am nm cm] 28)) (.bool false) (.slice none 0 0) (.bool false) (.slice none 0 0) 57
  simp only [World.size_alloc] at Pm R
  have Ia := ha.below B
  have Im := hm.below B
  obtain ⟨t, ht⟩ : ∃ t, cmpN m 2 = t := ⟨_, rfl⟩
  have ht0 : decide (t < 0) = false := by rw [← ht, cmp_lt]; exact decide_eq_false (by omega)
  have HT := Lib.hid ht
  have H0 := Lib.hid h0
  clear ha hm a1 a2 ht h0
  go_enter Tryd.func27, Tryd.ntmps27
  go_upto_region 1 with (fail)
  generalize ((w.alloc (.cells #[.bool ga, .slice Aa na ca] 28)).alloc (.cells #[.bool gm, .slice Am nm cm] 28)).alloc (.cells #[.bool false, .slice none 0 0, .bool false, .slice none 0 0] 57) = W0 at *
  have HS : Hid (∀ V, Below W0.heap.size W0 V → (V.cell? ⟨w.heap.size + 1, 0, none⟩ = some (.bool gm) ∧ V.cell? ⟨w.heap.size + 1, 1, none⟩ = some (.slice Am nm cm))) := fun V hV => ⟨(Pm.after hV).1, (Pm.after hV).2.1⟩
  have Dp0 : Below W0.heap.size W0 W0.drew := (Below.refl _ _).drew
  refine wp_region_seq (.pre [(0, true), (1, false), (2, false), (3, true)] .done) (fun W => (W.cell? ⟨w.heap.size + 1, 0, none⟩ = some (.bool gm) ∧ W.cell? ⟨w.heap.size + 1, 1, none⟩ = some (.slice Am nm cm))) (by kernel_rfl) (by kernel_rfl) ?_ (by kernel_rfl) (HS.out _ Dp0) ?_
  · refine chk_pre _ _ _ (by as_aux_lemma => kernel_rfl) ?_
    exact (by as_aux_lemma => kernel_rfl)
  refine seq_take _ ?_ rfl (Or.inl ⟨by rfl, ?_⟩) ?_
  rotate_left
  · (intro w hSw; (try dsimp only at hSw); go_simp; (try with_reducible rfl))
  try simp only [Act.put, List.setIfInBounds_toArray, List.set_cons_zero, List.set_cons_succ]
  refine seq_one _ rfl fun K hK => ?_
  go_simp
  (with_reducible refine (of_any 2 _ (by decide) (by decide)).mono ?_)
  rintro e vp1 ⟨gp1, Ap1, np1, cp1, rfl, ip1, bp1⟩
  have Dp1 : Below W0.heap.size W0 vp1 := Below.trans Dp0 (bp1.mono (Below.size Dp0))
  go_wp2_with fail
  refine hK.out _ _ (HS.out _ Dp1) (fun hHeld => ?_)
  clear hK K hHeld
  try simp only [Act.put, List.setIfInBounds_toArray, List.set_cons_zero, List.set_cons_succ]
  refine seq_one _ rfl fun K hK => ?_
  go_simp
  (with_reducible refine (cmp_z gm gp1 Am Ap1 nm cm np1 cp1 _ t (Im.below Dp1) ip1 HT.out).mono ?_)
  rintro e vp2 ⟨rfl, bp2⟩
  have Dp2 : Below W0.heap.size W0 vp2 := Below.trans Dp1 (bp2.mono (Below.size Dp1))
  go_wp2_with fail
  refine hK.out _ _ (HS.out _ Dp2) (fun hHeld => ?_)
  clear hK K hHeld
  try simp only [Act.put, List.setIfInBounds_toArray, List.set_cons_zero, List.set_cons_succ]
  refine seq_take _ ?_ rfl (Or.inl ⟨by rfl, ?_⟩) ?_
  rotate_left
  · (intro w hSw; (try dsimp only at hSw); go_simp; (try with_reducible rfl))
  try simp only [Act.put, List.setIfInBounds_toArray, List.set_cons_zero, List.set_cons_succ]
  refine NoPanic.normal ?_
  replace Pa := Pa.after Dp2
  replace Pm := Pm.after Dp2
  replace R := R.after Dp2
  replace Ia := Ia.below Dp2
  replace Im := Im.below Dp2
  replace B := B.trans (Dp2.mono B.size)
  clear HS Dp0 Dp1 bp1 bp2 ip1 Dp2
  have hbase : w.heap.size + 1 + 1 < vp2.heap.size := R.2.2.2.2.2.2.2.2
  generalize vp2 = W1 at *
  have hne : m ≠ 0 := by have := H0.out; omega
  have z1 : Sz (k + 1) (m - 1) := by
    have e1 : Sz (k + 1) m := zm.mono (by omega) (by omega)
    exact Sz.of (by have := zm.lt; have := H0.out; have h2 : 4294967296 ^ k ≤ 4294967296 ^ (k + 1) := Nat.pow_le_pow_right (by decide) (by omega); omega) (by omega)
  go_upto_region 3 with (fail)
  have HX : Hid (∀ V, Below W1.heap.size W1 V → (V.cell? ⟨w.heap.size + 1, 0, none⟩ = some (.bool gm) ∧ V.cell? ⟨w.heap.size + 1, 1, none⟩ = some (.slice Am nm cm))) := fun V hV => ⟨(Pm.after hV).1, (Pm.after hV).2.1⟩
  have HI : Hid (∀ V, Below W1.heap.size W1 V → IsInt V gm Am nm cm m) := fun V hV => Im.below hV
  go_cut [6, 7] (fun p0 p1 wx => ∃ g6 g7, p0 = .pointer (some ⟨g6, 0, none⟩) ∧ p1 = .pointer (some ⟨g7, 0, none⟩) ∧ IntAt wx g6 ((m - 1) / 2) ∧ Below W1.heap.size W1 wx)
  case first =>
    as_aux_lemma =>
      refine wp_region_ev (fun d a0 a' w' => ∃ u21 u22 u23 u24 u25 u20 u26 u27 u28 u6 u7 u8 : Value, a' = ((((((((((((a0.put (some 21) u21).put (some 22) u22).put (some 23) u23).put (some 24) u24).put (some 25) u25).put (some 20) u20).put (some 26) u26).put (some 27) u27).put (some 28) u28).put (some 6) u6).put (some 7) u7).put (some 8) u8) ∧ Below W1.heap.size W1 w' ∧ (d 0 = true → u21 = .agg #[.bool gm, .slice Am nm cm]) ∧ (d 1 = true → IntV w' u22 (1)) ∧ (d 2 = true → IntV w' u23 (m - 1)) ∧ (d 3 = true → IntV w' u24 (2)) ∧ (d 4 = true → TupV w' u25 ((m - 1) / 2) ((m - 1) % 2) (0)) ∧ (d 5 = true → TupV w' u20 ((m - 1) / 2) ((m - 1) % 2) (0)) ∧ (d 6 = true → IntV w' u26 ((m - 1) / 2)) ∧ (d 7 = true → IntV w' u27 ((m - 1) % 2)) ∧ (d 8 = true → u28 = .int .i64 0) ∧ (d 13 = true → u8 = .int .i64 0) ∧ (d 9 = true → OwnP W1.heap.size w' u6 (d 11) ((m - 1) / 2)) ∧ (d 10 = true → OwnP W1.heap.size w' u7 (d 12) ((m - 1) % 2)) ∧ (d 9 = true → d 10 = true → u6 ≠ u7) ∧ (d 11 = true → d 9 = true) ∧ (d 12 = true → d 10 = true)) (by kernel_rfl) (by kernel_rfl) ?_ ?_ ?_ ?_
      · intro d d' h a' w' hh
        obtain rfl : d = d' := funext h
        exact hh
      · exact ⟨_, _, _, _, _, _, _, _, _, _, _, _, (by simp only [Act.put, List.setIfInBounds_toArray, List.set_cons_zero, List.set_cons_succ]; rfl), (Below.refl _ _).drew, (fun h => by cases h), (fun h => by cases h), (fun h => by cases h), (fun h => by cases h), (fun h => by cases h), (fun h => by cases h), (fun h => by cases h), (fun h => by cases h), (fun h => by cases h), (fun h => by cases h), (fun h => by cases h), (fun h => by cases h), (fun h => by cases h), (fun h => by cases h), (fun h => by cases h)⟩
      · refine ⟨?_, ?_, ?_, ?_, ?_, ?_, ?_, ?_, ?_, ?_, ?_, ?_, ?_, ?_, trivial⟩
        · intro d a2 w2 hd hm ⟨u21, u22, u23, u24, u25, u20, u26, u27, u28, u6, u7, u8, e, HB, f0, f1, f2, f3, f4, f5, f6, f7, f8, f13, f9, f10, n01, t0, t1⟩ K hK
          subst e
          simp only [Act.put, List.setIfInBounds_toArray, List.set_cons_zero, List.set_cons_succ]
          obtain ⟨q0, q1⟩ := HX.out w2 HB
          go_simp
          exact hK.out _ _ ⟨.agg #[.bool gm, .slice Am nm cm], u22, u23, u24, u25, u20, u26, u27, u28, u6, u7, u8, (by simp only [Act.put, List.setIfInBounds_toArray, List.set_cons_zero, List.set_cons_succ]), HB, (fun _ => rfl), (fun h => (f1 (by simpa using h))), (fun h => (f2 (by simpa using h))), (fun h => (f3 (by simpa using h))), (fun h => (f4 (by simpa using h))), (fun h => (f5 (by simpa using h))), (fun h => (f6 (by simpa using h))), (fun h => (f7 (by simpa using h))), (fun h => f8 (by simpa using h)), (fun h => f13 (by simpa using h)), (fun h => by simpa using (f9 (by simpa using h))), (fun h => by simpa using (f10 (by simpa using h))), (fun h h' => n01 (by simpa using h) (by simpa using h')), (fun h => by simpa using t0 (by simpa using h)), (fun h => by simpa using t1 (by simpa using h))⟩
        · intro d a2 w2 hd hm ⟨u21, u22, u23, u24, u25, u20, u26, u27, u28, u6, u7, u8, e, HB, f0, f1, f2, f3, f4, f5, f6, f7, f8, f13, f9, f10, n01, t0, t1⟩ K hK
          subst e
          simp only [Act.put, List.setIfInBounds_toArray, List.set_cons_zero, List.set_cons_succ]
          go_simp
          (with_reducible refine (of_any 1 _ (by decide) (by decide)).mono ?_)
          rintro e w3 ⟨gg, AA, nn, cc, rfl, hi, hb⟩
          have HB3 := HB.trans (hb.mono HB.size)
          go_wp2_with fail
          exact hK.out _ _ ⟨u21, .agg #[.bool gg, .slice AA nn cc], u23, u24, u25, u20, u26, u27, u28, u6, u7, u8, (by simp only [Act.put, List.setIfInBounds_toArray, List.set_cons_zero, List.set_cons_succ]), HB3, (fun h => f0 (by simpa using h)), (fun _ => ⟨_, _, _, _, rfl, hi⟩), (fun h => (f2 (by simpa using h)).below hb), (fun h => (f3 (by simpa using h)).below hb), (fun h => (f4 (by simpa using h)).below hb), (fun h => (f5 (by simpa using h)).below hb), (fun h => (f6 (by simpa using h)).below hb), (fun h => (f7 (by simpa using h)).below hb), (fun h => f8 (by simpa using h)), (fun h => f13 (by simpa using h)), (fun h => by simpa using (f9 (by simpa using h)).below hb), (fun h => by simpa using (f10 (by simpa using h)).below hb), (fun h h' => n01 (by simpa using h) (by simpa using h')), (fun h => by simpa using t0 (by simpa using h)), (fun h => by simpa using t1 (by simpa using h))⟩
        · intro d a2 w2 hd hm ⟨u21, u22, u23, u24, u25, u20, u26, u27, u28, u6, u7, u8, e, HB, f0, f1, f2, f3, f4, f5, f6, f7, f8, f13, f9, f10, n01, t0, t1⟩ K hK
          subst e
          simp only [Act.put, List.setIfInBounds_toArray, List.set_cons_zero, List.set_cons_succ]
          obtain rfl := f0 (hm ⟨0, .data⟩ (by simp) rfl)
          clear f0
          obtain ⟨G1, A1, N1, C1, rfl, I1⟩ := f1 (hm ⟨1, .data⟩ (by simp) rfl)
          go_simp
          (with_reducible refine (sub_z gm G1 Am A1 nm cm N1 C1 _ (HI.out _ HB) I1 zm (Sz.of (by decide) (by decide) : Sz 1 1)).mono ?_)
          rintro e w3 ⟨gg, AA, nn, cc, rfl, hi, hb⟩
          have HB3 := HB.trans (hb.mono HB.size)
          go_wp2_with fail
          exact hK.out _ _ ⟨.agg #[.bool gm, .slice Am nm cm], .agg #[.bool G1, .slice A1 N1 C1], .agg #[.bool gg, .slice AA nn cc], u24, u25, u20, u26, u27, u28, u6, u7, u8, (by simp only [Act.put, List.setIfInBounds_toArray, List.set_cons_zero, List.set_cons_succ]), HB3, (fun _ => rfl), (fun h => (f1 (by simpa using h)).below hb), (fun _ => ⟨_, _, _, _, rfl, hi⟩), (fun h => (f3 (by simpa using h)).below hb), (fun h => (f4 (by simpa using h)).below hb), (fun h => (f5 (by simpa using h)).below hb), (fun h => (f6 (by simpa using h)).below hb), (fun h => (f7 (by simpa using h)).below hb), (fun h => f8 (by simpa using h)), (fun h => f13 (by simpa using h)), (fun h => by simpa using (f9 (by simpa using h)).below hb), (fun h => by simpa using (f10 (by simpa using h)).below hb), (fun h h' => n01 (by simpa using h) (by simpa using h')), (fun h => by simpa using t0 (by simpa using h)), (fun h => by simpa using t1 (by simpa using h))⟩
        · intro d a2 w2 hd hm ⟨u21, u22, u23, u24, u25, u20, u26, u27, u28, u6, u7, u8, e, HB, f0, f1, f2, f3, f4, f5, f6, f7, f8, f13, f9, f10, n01, t0, t1⟩ K hK
          subst e
          simp only [Act.put, List.setIfInBounds_toArray, List.set_cons_zero, List.set_cons_succ]
          go_simp
          (with_reducible refine (of_any 2 _ (by decide) (by decide)).mono ?_)
          rintro e w3 ⟨gg, AA, nn, cc, rfl, hi, hb⟩
          have HB3 := HB.trans (hb.mono HB.size)
          go_wp2_with fail
          exact hK.out _ _ ⟨u21, u22, u23, .agg #[.bool gg, .slice AA nn cc], u25, u20, u26, u27, u28, u6, u7, u8, (by simp only [Act.put, List.setIfInBounds_toArray, List.set_cons_zero, List.set_cons_succ]), HB3, (fun h => f0 (by simpa using h)), (fun h => (f1 (by simpa using h)).below hb), (fun h => (f2 (by simpa using h)).below hb), (fun _ => ⟨_, _, _, _, rfl, hi⟩), (fun h => (f4 (by simpa using h)).below hb), (fun h => (f5 (by simpa using h)).below hb), (fun h => (f6 (by simpa using h)).below hb), (fun h => (f7 (by simpa using h)).below hb), (fun h => f8 (by simpa using h)), (fun h => f13 (by simpa using h)), (fun h => by simpa using (f9 (by simpa using h)).below hb), (fun h => by simpa using (f10 (by simpa using h)).below hb), (fun h h' => n01 (by simpa using h) (by simpa using h')), (fun h => by simpa using t0 (by simpa using h)), (fun h => by simpa using t1 (by simpa using h))⟩
        · intro d a2 w2 hd hm ⟨u21, u22, u23, u24, u25, u20, u26, u27, u28, u6, u7, u8, e, HB, f0, f1, f2, f3, f4, f5, f6, f7, f8, f13, f9, f10, n01, t0, t1⟩ K hK
          subst e
          simp only [Act.put, List.setIfInBounds_toArray, List.set_cons_zero, List.set_cons_succ]
          obtain ⟨G2, A2, N2, C2, rfl, I2⟩ := f2 (hm ⟨2, .data⟩ (by simp) rfl)
          obtain ⟨G3, A3, N3, C3, rfl, I3⟩ := f3 (hm ⟨3, .data⟩ (by simp) rfl)
          go_simp
          (with_reducible refine (dm_z G2 G3 A2 A3 N2 C2 N3 C3 _ I2 I3 z1 (Sz.of (by decide) (by decide) : Sz 1 2) (by decide)).mono ?_)
          rintro e w3 ⟨g1, A1', n1', c1', g2, A2', n2', c2', rfl, hi1, hi2, hb⟩
          have HB3 := HB.trans (hb.mono HB.size)
          go_wp2_with fail
          exact hK.out _ _ ⟨u21, u22, .agg #[.bool G2, .slice A2 N2 C2], .agg #[.bool G3, .slice A3 N3 C3], .tuple #[.agg #[.bool g1, .slice A1' n1' c1'], .agg #[.bool g2, .slice A2' n2' c2'], .int .i64 (0)], u20, u26, u27, u28, u6, u7, u8, (by simp only [Act.put, List.setIfInBounds_toArray, List.set_cons_zero, List.set_cons_succ]), HB3, (fun h => f0 (by simpa using h)), (fun h => (f1 (by simpa using h)).below hb), (fun h => (f2 (by simpa using h)).below hb), (fun h => (f3 (by simpa using h)).below hb), (fun _ => ⟨_, _, rfl, ⟨_, _, _, _, rfl, hi1⟩, ⟨_, _, _, _, rfl, hi2⟩⟩), (fun h => (f5 (by simpa using h)).below hb), (fun h => (f6 (by simpa using h)).below hb), (fun h => (f7 (by simpa using h)).below hb), (fun h => f8 (by simpa using h)), (fun h => f13 (by simpa using h)), (fun h => by simpa using (f9 (by simpa using h)).below hb), (fun h => by simpa using (f10 (by simpa using h)).below hb), (fun h h' => n01 (by simpa using h) (by simpa using h')), (fun h => by simpa using t0 (by simpa using h)), (fun h => by simpa using t1 (by simpa using h))⟩
        · intro d a2 w2 hd hm ⟨u21, u22, u23, u24, u25, u20, u26, u27, u28, u6, u7, u8, e, HB, f0, f1, f2, f3, f4, f5, f6, f7, f8, f13, f9, f10, n01, t0, t1⟩ K hK
          subst e
          simp only [Act.put, List.setIfInBounds_toArray, List.set_cons_zero, List.set_cons_succ]
          obtain ⟨V4, U4, rfl, I4, J4⟩ := f4 (hm ⟨4, .data⟩ (by simp) rfl)
          go_simp
          exact hK.out _ _ ⟨u21, u22, u23, u24, .tuple #[V4, U4, .int .i64 (0)], .tuple #[V4, U4, .int .i64 (0)], u26, u27, u28, u6, u7, u8, (by simp only [Act.put, List.setIfInBounds_toArray, List.set_cons_zero, List.set_cons_succ]), HB, (fun h => f0 (by simpa using h)), (fun h => (f1 (by simpa using h))), (fun h => (f2 (by simpa using h))), (fun h => (f3 (by simpa using h))), (fun h => (f4 (by simpa using h))), (fun _ => ⟨V4, U4, rfl, I4, J4⟩), (fun h => (f6 (by simpa using h))), (fun h => (f7 (by simpa using h))), (fun h => f8 (by simpa using h)), (fun h => f13 (by simpa using h)), (fun h => by simpa using (f9 (by simpa using h))), (fun h => by simpa using (f10 (by simpa using h))), (fun h h' => n01 (by simpa using h) (by simpa using h')), (fun h => by simpa using t0 (by simpa using h)), (fun h => by simpa using t1 (by simpa using h))⟩
        · intro d a2 w2 hd hm ⟨u21, u22, u23, u24, u25, u20, u26, u27, u28, u6, u7, u8, e, HB, f0, f1, f2, f3, f4, f5, f6, f7, f8, f13, f9, f10, n01, t0, t1⟩ K hK
          subst e
          simp only [Act.put, List.setIfInBounds_toArray, List.set_cons_zero, List.set_cons_succ]
          obtain ⟨V5, U5, rfl, I5, J5⟩ := f5 (hm ⟨5, .data⟩ (by simp) rfl)
          go_simp
          exact hK.out _ _ ⟨u21, u22, u23, u24, u25, .tuple #[V5, U5, .int .i64 (0)], V5, u27, u28, u6, u7, u8, (by simp only [Act.put, List.setIfInBounds_toArray, List.set_cons_zero, List.set_cons_succ]), HB, (fun h => f0 (by simpa using h)), (fun h => (f1 (by simpa using h))), (fun h => (f2 (by simpa using h))), (fun h => (f3 (by simpa using h))), (fun h => (f4 (by simpa using h))), (fun h => (f5 (by simpa using h))), (fun _ => I5), (fun h => (f7 (by simpa using h))), (fun h => f8 (by simpa using h)), (fun h => f13 (by simpa using h)), (fun h => by simpa using (f9 (by simpa using h))), (fun h => by simpa using (f10 (by simpa using h))), (fun h h' => n01 (by simpa using h) (by simpa using h')), (fun h => by simpa using t0 (by simpa using h)), (fun h => by simpa using t1 (by simpa using h))⟩
        · intro d a2 w2 hd hm ⟨u21, u22, u23, u24, u25, u20, u26, u27, u28, u6, u7, u8, e, HB, f0, f1, f2, f3, f4, f5, f6, f7, f8, f13, f9, f10, n01, t0, t1⟩ K hK
          subst e
          simp only [Act.put, List.setIfInBounds_toArray, List.set_cons_zero, List.set_cons_succ]
          obtain ⟨V5, U5, rfl, I5, J5⟩ := f5 (hm ⟨5, .data⟩ (by simp) rfl)
          go_simp
          exact hK.out _ _ ⟨u21, u22, u23, u24, u25, .tuple #[V5, U5, .int .i64 (0)], u26, U5, u28, u6, u7, u8, (by simp only [Act.put, List.setIfInBounds_toArray, List.set_cons_zero, List.set_cons_succ]), HB, (fun h => f0 (by simpa using h)), (fun h => (f1 (by simpa using h))), (fun h => (f2 (by simpa using h))), (fun h => (f3 (by simpa using h))), (fun h => (f4 (by simpa using h))), (fun h => (f5 (by simpa using h))), (fun h => (f6 (by simpa using h))), (fun _ => J5), (fun h => f8 (by simpa using h)), (fun h => f13 (by simpa using h)), (fun h => by simpa using (f9 (by simpa using h))), (fun h => by simpa using (f10 (by simpa using h))), (fun h h' => n01 (by simpa using h) (by simpa using h')), (fun h => by simpa using t0 (by simpa using h)), (fun h => by simpa using t1 (by simpa using h))⟩
        · intro d a2 w2 hd hm ⟨u21, u22, u23, u24, u25, u20, u26, u27, u28, u6, u7, u8, e, HB, f0, f1, f2, f3, f4, f5, f6, f7, f8, f13, f9, f10, n01, t0, t1⟩ K hK
          subst e
          simp only [Act.put, List.setIfInBounds_toArray, List.set_cons_zero, List.set_cons_succ]
          obtain ⟨V5, U5, rfl, I5, J5⟩ := f5 (hm ⟨5, .data⟩ (by simp) rfl)
          go_simp
          exact hK.out _ _ ⟨u21, u22, u23, u24, u25, .tuple #[V5, U5, .int .i64 (0)], u26, u27, .int .i64 0, u6, u7, u8, (by simp only [Act.put, List.setIfInBounds_toArray, List.set_cons_zero, List.set_cons_succ]), HB, (fun h => f0 (by simpa using h)), (fun h => (f1 (by simpa using h))), (fun h => (f2 (by simpa using h))), (fun h => (f3 (by simpa using h))), (fun h => (f4 (by simpa using h))), (fun h => (f5 (by simpa using h))), (fun h => (f6 (by simpa using h))), (fun h => (f7 (by simpa using h))), (fun _ => rfl), (fun h => f13 (by simpa using h)), (fun h => by simpa using (f9 (by simpa using h))), (fun h => by simpa using (f10 (by simpa using h))), (fun h h' => n01 (by simpa using h) (by simpa using h')), (fun h => by simpa using t0 (by simpa using h)), (fun h => by simpa using t1 (by simpa using h))⟩
        · intro d a2 w2 hd hm ⟨u21, u22, u23, u24, u25, u20, u26, u27, u28, u6, u7, u8, e, HB, f0, f1, f2, f3, f4, f5, f6, f7, f8, f13, f9, f10, n01, t0, t1⟩ K hK
          subst e
          simp only [Act.put, List.setIfInBounds_toArray, List.set_cons_zero, List.set_cons_succ]
          have hb : Below w2.heap.size w2 (w2.alloc (.cells #[.bool false, .slice none 0 0] 28)) := (Below.refl _ _).alloc (Nat.le_refl _) _
          have HB3 := HB.trans (hb.mono HB.size)
          go_simp
          exact hK.out _ _ ⟨u21, u22, u23, u24, u25, u20, u26, u27, u28, .pointer (some ⟨w2.heap.size, 0, none⟩), u7, u8, (by simp only [Act.put, List.setIfInBounds_toArray, List.set_cons_zero, List.set_cons_succ]), HB3, (fun h => f0 (by simpa using h)), (fun h => (f1 (by simpa using h)).below hb), (fun h => (f2 (by simpa using h)).below hb), (fun h => (f3 (by simpa using h)).below hb), (fun h => (f4 (by simpa using h)).below hb), (fun h => (f5 (by simpa using h)).below hb), (fun h => (f6 (by simpa using h)).below hb), (fun h => (f7 (by simpa using h)).below hb), (fun h => f8 (by simpa using h)), (fun h => f13 (by simpa using h)), (fun _ => by have hs : d 11 = false := (by cases hq : d 11 with | false => rfl | true => (have hz := t0 hq; rw [hd] at hz; cases hz)); simpa [hs] using OwnP.new HB.size ((m - 1) / 2)), (fun h => by simpa using (f10 (by simpa using h)).below hb), (fun _ h' => ((f10 (by simpa using h')).lt).symm), (fun _ => by simp), (fun h => by simpa using t1 (by simpa using h))⟩
        · intro d a2 w2 hd hm ⟨u21, u22, u23, u24, u25, u20, u26, u27, u28, u6, u7, u8, e, HB, f0, f1, f2, f3, f4, f5, f6, f7, f8, f13, f9, f10, n01, t0, t1⟩ K hK
          subst e
          simp only [Act.put, List.setIfInBounds_toArray, List.set_cons_zero, List.set_cons_succ]
          have hb : Below w2.heap.size w2 (w2.alloc (.cells #[.bool false, .slice none 0 0] 28)) := (Below.refl _ _).alloc (Nat.le_refl _) _
          have HB3 := HB.trans (hb.mono HB.size)
          go_simp
          exact hK.out _ _ ⟨u21, u22, u23, u24, u25, u20, u26, u27, u28, u6, .pointer (some ⟨w2.heap.size, 0, none⟩), u8, (by simp only [Act.put, List.setIfInBounds_toArray, List.set_cons_zero, List.set_cons_succ]), HB3, (fun h => f0 (by simpa using h)), (fun h => (f1 (by simpa using h)).below hb), (fun h => (f2 (by simpa using h)).below hb), (fun h => (f3 (by simpa using h)).below hb), (fun h => (f4 (by simpa using h)).below hb), (fun h => (f5 (by simpa using h)).below hb), (fun h => (f6 (by simpa using h)).below hb), (fun h => (f7 (by simpa using h)).below hb), (fun h => f8 (by simpa using h)), (fun h => f13 (by simpa using h)), (fun h => by simpa using (f9 (by simpa using h)).below hb), (fun _ => by have hs : d 12 = false := (by cases hq : d 12 with | false => rfl | true => (have hz := t1 hq; rw [hd] at hz; cases hz)); simpa [hs] using OwnP.new HB.size ((m - 1) % 2)), (fun h _ => (f9 (by simpa using h)).lt), (fun h => by simpa using t0 (by simpa using h)), (fun _ => by simp)⟩
        · intro d a2 w2 hd hm ⟨u21, u22, u23, u24, u25, u20, u26, u27, u28, u6, u7, u8, e, HB, f0, f1, f2, f3, f4, f5, f6, f7, f8, f13, f9, f10, n01, t0, t1⟩ K hK
          subst e
          simp only [Act.put, List.setIfInBounds_toArray, List.set_cons_zero, List.set_cons_succ]
          obtain ⟨gg, AA, nn, cc, rfl, hi⟩ := f6 (hm ⟨6, .data⟩ (by simp) rfl)
          obtain ⟨g, rfl, hg, b0, b1, hs, n0, n1, _⟩ := f9 (hm ⟨9, .data⟩ (by simp) rfl)
          obtain ⟨k0, k1, k2, k3, k4⟩ := id hs
          go_simp
          exact hK.out _ _ ⟨u21, u22, u23, u24, u25, u20, .agg #[.bool gg, .slice AA nn cc], u27, u28, .pointer (some ⟨g, 0, none⟩), u7, u8, (by simp only [Act.put, List.setIfInBounds_toArray, List.set_cons_zero, List.set_cons_succ]), Below.set2 HB hg _ _, (fun h => f0 (by simpa using h)), (fun h => (f1 (by simpa using h)).set2 hs n0 n1 _ _), (fun h => (f2 (by simpa using h)).set2 hs n0 n1 _ _), (fun h => (f3 (by simpa using h)).set2 hs n0 n1 _ _), (fun h => (f4 (by simpa using h)).set2 hs n0 n1 _ _), (fun h => (f5 (by simpa using h)).set2 hs n0 n1 _ _), (fun h => (f6 (by simpa using h)).set2 hs n0 n1 _ _), (fun h => (f7 (by simpa using h)).set2 hs n0 n1 _ _), (fun h => f8 (by simpa using h)), (fun h => f13 (by simpa using h)), (fun _ => by simpa using OwnP.near hi hg hs n0 n1), (fun h => by simpa using (f10 (by simpa using h)).far ((n01 (hm ⟨9, .data⟩ (by simp) rfl) (by simpa using h)).symm) hs n0 n1 _ _), (fun h h' => n01 (by simpa using h) (by simpa using h')), (fun _ => by simpa using hm ⟨9, .data⟩ (by simp) rfl), (fun h => by simpa using t1 (by simpa using h))⟩
        · intro d a2 w2 hd hm ⟨u21, u22, u23, u24, u25, u20, u26, u27, u28, u6, u7, u8, e, HB, f0, f1, f2, f3, f4, f5, f6, f7, f8, f13, f9, f10, n01, t0, t1⟩ K hK
          subst e
          simp only [Act.put, List.setIfInBounds_toArray, List.set_cons_zero, List.set_cons_succ]
          obtain ⟨gg, AA, nn, cc, rfl, hi⟩ := f7 (hm ⟨7, .data⟩ (by simp) rfl)
          obtain ⟨g, rfl, hg, b0, b1, hs, n0, n1, _⟩ := f10 (hm ⟨10, .data⟩ (by simp) rfl)
          obtain ⟨k0, k1, k2, k3, k4⟩ := id hs
          go_simp
          exact hK.out _ _ ⟨u21, u22, u23, u24, u25, u20, u26, .agg #[.bool gg, .slice AA nn cc], u28, u6, .pointer (some ⟨g, 0, none⟩), u8, (by simp only [Act.put, List.setIfInBounds_toArray, List.set_cons_zero, List.set_cons_succ]), Below.set2 HB hg _ _, (fun h => f0 (by simpa using h)), (fun h => (f1 (by simpa using h)).set2 hs n0 n1 _ _), (fun h => (f2 (by simpa using h)).set2 hs n0 n1 _ _), (fun h => (f3 (by simpa using h)).set2 hs n0 n1 _ _), (fun h => (f4 (by simpa using h)).set2 hs n0 n1 _ _), (fun h => (f5 (by simpa using h)).set2 hs n0 n1 _ _), (fun h => (f6 (by simpa using h)).set2 hs n0 n1 _ _), (fun h => (f7 (by simpa using h)).set2 hs n0 n1 _ _), (fun h => f8 (by simpa using h)), (fun h => f13 (by simpa using h)), (fun h => by simpa using (f9 (by simpa using h)).far (n01 (by simpa using h) (hm ⟨10, .data⟩ (by simp) rfl)) hs n0 n1 _ _), (fun _ => by simpa using OwnP.near hi hg hs n0 n1), (fun h h' => n01 (by simpa using h) (by simpa using h')), (fun h => by simpa using t0 (by simpa using h)), (fun _ => by simpa using hm ⟨10, .data⟩ (by simp) rfl)⟩
        · intro d a2 w2 hd hm ⟨u21, u22, u23, u24, u25, u20, u26, u27, u28, u6, u7, u8, e, HB, f0, f1, f2, f3, f4, f5, f6, f7, f8, f13, f9, f10, n01, t0, t1⟩ K hK
          subst e
          simp only [Act.put, List.setIfInBounds_toArray, List.set_cons_zero, List.set_cons_succ]
          obtain rfl := f8 (hm ⟨8, .data⟩ (by simp) rfl)
          clear f8
          go_simp
          exact hK.out _ _ ⟨u21, u22, u23, u24, u25, u20, u26, u27, .int .i64 0, u6, u7, .int .i64 0, (by simp only [Act.put, List.setIfInBounds_toArray, List.set_cons_zero, List.set_cons_succ]), HB, (fun h => f0 (by simpa using h)), (fun h => (f1 (by simpa using h))), (fun h => (f2 (by simpa using h))), (fun h => (f3 (by simpa using h))), (fun h => (f4 (by simpa using h))), (fun h => (f5 (by simpa using h))), (fun h => (f6 (by simpa using h))), (fun h => (f7 (by simpa using h))), (fun _ => rfl), (fun _ => rfl), (fun h => by simpa using (f9 (by simpa using h))), (fun h => by simpa using (f10 (by simpa using h))), (fun h h' => n01 (by simpa using h) (by simpa using h')), (fun h => by simpa using t0 (by simpa using h)), (fun h => by simpa using t1 (by simpa using h))⟩
      · intro d a2 w2 hall ⟨u21, u22, u23, u24, u25, u20, u26, u27, u28, u6, u7, u8, e, HB, f0, f1, f2, f3, f4, f5, f6, f7, f8, f13, f9, f10, n01, t0, t1⟩
        subst e
        simp only [Act.put, List.setIfInBounds_toArray, List.set_cons_zero, List.set_cons_succ]
        obtain rfl := f0 (hall _ (by decide))
        obtain rfl := f8 (hall _ (by decide))
        obtain rfl := f13 (hall _ (by decide))
        obtain ⟨g0, rfl, h0, b0⟩ := OwnP.intAtB (by have := f9 (hall _ (by decide)); rwa [hall 11 (by decide)] at this)
        obtain ⟨g1, rfl, h1, b1⟩ := OwnP.intAtB (by have := f10 (hall _ (by decide)); rwa [hall 12 (by decide)] at this)
        go_wp2_with fail
        go_meet
        exact ⟨g0, g1, rfl, rfl, h0, HB⟩
  case rest =>
  obtain ⟨g6, g7, rfl, rfl, ⟨gh, Ah, nh, ch, Sh, Ih⟩, DC⟩ := hcut
  obtain ⟨W2, rfl⟩ : ∃ x : World, x = wc := ⟨_, rfl⟩
  replace Pa := Pa.after DC
  replace Pm := Pm.after DC
  replace R := R.after DC
  replace Ia := Ia.below DC
  replace Im := Im.below DC
  replace B := B.trans (DC.mono B.size)
  clear DC HX HI
  obtain ⟨H, hH⟩ : ∃ H : Nat, (m - 1) / 2 = (H : Int) := ⟨((m - 1) / 2).toNat, by have := H0.out; omega⟩
  have zh : Sz (k + 1) (H : Int) := Sz.of (by have := z1.lt; have := H0.out; omega) (by omega)
  rw [hH] at Ih
  have HHH := Lib.hid hH
  clear hH
  have ⟨Shc0, Shc1, _⟩ := Sh
  go_wp2_with fail
  (with_reducible refine (root_z gh Ah nh ch _ H Ih zh).mono ?_)
  rintro e w1 ⟨r, ⟨gr, Ar, nr, cr, rfl, ir, br⟩, hr1, hr2⟩
  clear Shc0 Shc1
  replace Pa := Pa.after br
  replace Pm := Pm.after br
  replace R := R.after br
  replace Ia := Ia.below br
  replace Im := Im.below br
  replace B := B.trans (br.mono B.size)
  clear br Sh Ih
  have hal := (Below.refl w1.heap.size w1).alloc (Nat.le_refl _) (.cells #[.bool gr, .slice Ar nr cr] 28)
  have Sr := Slot2.new w1 (.bool gr) (.slice Ar nr cr) 28
  replace Pa := Pa.after hal
  replace Pm := Pm.after hal
  replace R := R.after hal
  replace Ia := Ia.below hal
  replace Im := Im.below hal
  replace ir := ir.below hal
  replace B := B.trans (hal.mono B.size)
  clear hal
  generalize hW : w1.alloc (.cells #[.bool gr, .slice Ar nr cr] 28) = W3 at *
  have HB : Hid (Bnd m (r : Int)) := ⟨by omega, by rw [HHH.out]; exact_mod_cast hr1, by rw [HHH.out]; exact_mod_cast hr2⟩
  have hbl := HB.out.lt H0.out
  clear hr1 hr2
  have ⟨Src0, Src1, _⟩ := Sr
  have ⟨Pac0, Pac1, _⟩ := Pa
  have ⟨Pmc0, Pmc1, _⟩ := Pm
  go_wp2_with fail
  try rw [hW]
  clear hW
  (with_reducible refine (first_z gr Ar nr cr ga Aa na ca gm Am nm cm _ ir Ia Im za zm hk (by have := H0.out; omega) HB.out.nn hbl.2).mono ?_)
  rintro e w3 ⟨gn_l, An_l, nn_l, cn_l, gd_l, Ad_l, nd_l, cd_l, q, v, rfl, il, bl, HF⟩
  clear Src0 Src1 Pac0 Pac1 Pmc0 Pmc1
  replace Pa := Pa.after bl
  replace Pm := Pm.after bl
  replace R := R.after bl
  replace Ia := Ia.below bl
  replace Im := Im.below bl
  replace ir := ir.below bl
  replace Sr := Sr.after bl
  replace B := B.trans (bl.mono B.size)
  clear bl
  have hal := (Below.refl w3.heap.size w3).alloc (Nat.le_refl _) (.cells #[.bool gn_l, .slice An_l nn_l cn_l, .bool gd_l, .slice Ad_l nd_l cd_l] 92)
  have Sl := Slot4.new w3 (.bool gn_l) (.slice An_l nn_l cn_l) (.bool gd_l) (.slice Ad_l nd_l cd_l) 92
  replace Pa := Pa.after hal
  replace Pm := Pm.after hal
  replace R := R.after hal
  replace Ia := Ia.below hal
  replace Im := Im.below hal
  replace ir := ir.below hal
  replace Sr := Sr.after hal
  replace il := il.below hal
  replace B := B.trans (hal.mono B.size)
  clear hal
  generalize hW : w3.alloc (.cells #[.bool gn_l, .slice An_l nn_l cn_l, .bool gd_l, .slice Ad_l nd_l cd_l] 92) = W3 at *
  obtain ⟨q1, q2⟩ := q
  have Il := il
  clear il
  have ⟨y0, y1, y2, y3, k0, k1, k2, k3, _⟩ := R
  obtain ⟨r0, s0, hL, hbr, hno, hv⟩ := HF.out
  have hsz := hL.size (by have := H0.out; omega)
  have hs0 := hL.s1_ne
  have Zr : Sz k q1 := zm.abs_le hsz.2.2.2
  have Zs : Sz k q2 := zm.abs_le hsz.2.1
  by_cases hin : q1 ≤ (r : Int) ∧ (q2.natAbs : Int) ≤ r
  case' neg =>
    obtain rfl : v = false := by rw [hv]; exact decide_eq_false hin
    have HN : Hid (∀ n d, ¬ Good a m r n d) := fun n d hg => by
      have h2 := hL.goes hg (by have := H0.out; omega) hbr
      exact hin ⟨by simp only at hno; omega, by omega⟩
    clear hin hv hno hbr hL hsz HF
    go_wp2
    try rw [hW]
    clear hW
    refine bodyPost_ret (v := .tuple #[.agg #[.bool false, .slice none 0 0, .bool false, .slice none 0 0], .int .i64 41]) (by obtain ⟨v0, v1, v2, v3⟩ := R.set4e (.bool false) (.slice none 0 0) (.bool false) (.slice none 0 0); simp [results, Tryd.results27, go_sem, v0, v1, v2, v3]) rfl ⟨r, HB, .inr ⟨rfl, ?_, HN⟩⟩
    exact Below.set4 B (by omega) _ _ _ _
  obtain rfl : v = true := by rw [hv]; exact decide_eq_true hin
  have HLI := Lib.hid (And.intro hL (And.intro hbr hin))
  clear hv hno hbr hL hsz hin HF y0 y1 y2 y3 k0 k1 k2 k3
  have ⟨Slc0, Slc1, Slc2, Slc3, _⟩ := Sl
  go_wp2_with fail
  try rw [hW]
  clear hW
  (with_reducible refine (qof_z gn_l An_l nn_l cn_l gd_l Ad_l nd_l cd_l _ Il.num Il.den Zr Zs (by omega) hs0).mono ?_)
  rintro e w5 ⟨gn_q, An_q, nn_q, cn_q, gd_q, Ad_q, nd_q, cd_q, rfl, i_q, b_q⟩
  clear Slc0 Slc1 Slc2 Slc3
  replace Pa := Pa.after b_q
  replace Pm := Pm.after b_q
  replace R := R.after b_q
  replace Ia := Ia.below b_q
  replace Im := Im.below b_q
  replace ir := ir.below b_q
  replace Sr := Sr.after b_q
  replace Sl := Sl.after b_q
  replace Il := Il.below b_q
  replace B := B.trans (b_q.mono B.size)
  clear b_q
  have hal := (Below.refl w5.heap.size w5).alloc (Nat.le_refl _) (.cells #[.bool gn_q, .slice An_q nn_q cn_q, .bool gd_q, .slice Ad_q nd_q cd_q] 57)
  have Sq := Slot4.new w5 (.bool gn_q) (.slice An_q nn_q cn_q) (.bool gd_q) (.slice Ad_q nd_q cd_q) 57
  replace Pa := Pa.after hal
  replace Pm := Pm.after hal
  replace R := R.after hal
  replace Ia := Ia.below hal
  replace Im := Im.below hal
  replace ir := ir.below hal
  replace Sr := Sr.after hal
  replace Sl := Sl.after hal
  replace Il := Il.below hal
  replace i_q := i_q.below hal
  replace B := B.trans (hal.mono B.size)
  clear hal
  generalize hW : w5.alloc (.cells #[.bool gn_q, .slice An_q nn_q cn_q, .bool gd_q, .slice Ad_q nd_q cd_q] 57) = W5 at *
  have Iq := i_q
  clear i_q
  have hgq : w.heap.size + 1 + 1 < W5.heap.size := R.2.2.2.2.2.2.2.2
  go_upto_region 9 with (fail)
  try rw [hW]
  clear hW
  obtain ⟨t2, ht2⟩ : ∃ t, cmpN ((Rat.divInt q1 q2).den : Int) (q2.natAbs : Int) = t := ⟨_, rfl⟩
  have HT2 := Lib.hid ht2
  have HS : Hid (∀ V, Below W5.heap.size W5 V → (V.cell? ⟨w5.heap.size, 0, none⟩ = some (.bool gn_q) ∧ V.cell? ⟨w5.heap.size, 1, none⟩ = some (.slice An_q nn_q cn_q) ∧ V.cell? ⟨w5.heap.size, 2, none⟩ = some (.bool gd_q) ∧ V.cell? ⟨w5.heap.size, 3, none⟩ = some (.slice Ad_q nd_q cd_q)) ∧ (V.cell? ⟨w3.heap.size, 0, none⟩ = some (.bool gn_l) ∧ V.cell? ⟨w3.heap.size, 1, none⟩ = some (.slice An_l nn_l cn_l) ∧ V.cell? ⟨w3.heap.size, 2, none⟩ = some (.bool gd_l) ∧ V.cell? ⟨w3.heap.size, 3, none⟩ = some (.slice Ad_l nd_l cd_l))) := fun V hV => ⟨(Sq.after hV).cells, (Sl.after hV).cells⟩
  by_cases hd : (Rat.divInt q1 q2).den = q2.natAbs
  · have ht3 : (t2 != 0) = false := by
      rw [← ht2]
      rw [hd, cmpN_eq]; rfl
    have HD := Lib.hid hd
    clear hd ht2
    have Dp0 : Below W5.heap.size W5 W5.drew := (Below.refl _ _).drew
    refine wp_region_seq (.pre [(0, true), (1, true), (2, true), (3, true), (4, false), (5, false), (6, true)] .done) (fun W => (W.cell? ⟨w5.heap.size, 0, none⟩ = some (.bool gn_q) ∧ W.cell? ⟨w5.heap.size, 1, none⟩ = some (.slice An_q nn_q cn_q) ∧ W.cell? ⟨w5.heap.size, 2, none⟩ = some (.bool gd_q) ∧ W.cell? ⟨w5.heap.size, 3, none⟩ = some (.slice Ad_q nd_q cd_q)) ∧ (W.cell? ⟨w3.heap.size, 0, none⟩ = some (.bool gn_l) ∧ W.cell? ⟨w3.heap.size, 1, none⟩ = some (.slice An_l nn_l cn_l) ∧ W.cell? ⟨w3.heap.size, 2, none⟩ = some (.bool gd_l) ∧ W.cell? ⟨w3.heap.size, 3, none⟩ = some (.slice Ad_l nd_l cd_l))) (by kernel_rfl) (by kernel_rfl) ?_ (by kernel_rfl) (HS.out _ Dp0) ?_
    · refine chk_pre _ _ _ (by as_aux_lemma => kernel_rfl) ?_
      exact (by as_aux_lemma => kernel_rfl)
    refine seq_take _ ?_ rfl (Or.inl ⟨by rfl, ?_⟩) ?_
    rotate_left
    · (intro w hSw; (try dsimp only at hSw); go_simp; (try with_reducible rfl))
    try simp only [Act.put, List.setIfInBounds_toArray, List.set_cons_zero, List.set_cons_succ]
    refine seq_take _ ?_ rfl (Or.inl ⟨by rfl, ?_⟩) ?_
    rotate_left
    · (intro w hSw; (try dsimp only at hSw); go_simp; (try with_reducible rfl))
    try simp only [Act.put, List.setIfInBounds_toArray, List.set_cons_zero, List.set_cons_succ]
    refine seq_take _ ?_ rfl (Or.inl ⟨by rfl, ?_⟩) ?_
    rotate_left
    · (intro w hSw; (try dsimp only at hSw); go_simp; (try with_reducible rfl))
    try simp only [Act.put, List.setIfInBounds_toArray, List.set_cons_zero, List.set_cons_succ]
    refine seq_take _ ?_ rfl (Or.inl ⟨by rfl, ?_⟩) ?_
    rotate_left
    · (intro w hSw; (try dsimp only at hSw); go_simp; (try with_reducible rfl))
    try simp only [Act.put, List.setIfInBounds_toArray, List.set_cons_zero, List.set_cons_succ]
    refine seq_one _ rfl fun K hK => ?_
    go_simp
    (with_reducible refine (abs_z gd_l Ad_l nd_l cd_l _ (Il.below Dp0).den Zs).mono ?_)
    rintro e vp1 ⟨gp1, Ap1, np1, cp1, rfl, ip1, bp1⟩
    have Dp1 : Below W5.heap.size W5 vp1 := Below.trans Dp0 (bp1.mono (Below.size Dp0))
    go_wp2_with fail
    refine hK.out _ _ (HS.out _ Dp1) (fun hHeld => ?_)
    clear hK K hHeld
    try simp only [Act.put, List.setIfInBounds_toArray, List.set_cons_zero, List.set_cons_succ]
    refine seq_one _ rfl fun K hK => ?_
    go_simp
    (with_reducible refine (cmp_z gd_q gp1 Ad_q Ap1 nd_q cd_q np1 cp1 _ t2 (Iq.below Dp1).den ip1 HT2.out).mono ?_)
    rintro e vp2 ⟨rfl, bp2⟩
    have Dp2 : Below W5.heap.size W5 vp2 := Below.trans Dp1 (bp2.mono (Below.size Dp1))
    go_wp2_with fail
    refine hK.out _ _ (HS.out _ Dp2) (fun hHeld => ?_)
    clear hK K hHeld
    try simp only [Act.put, List.setIfInBounds_toArray, List.set_cons_zero, List.set_cons_succ]
    refine seq_take _ ?_ rfl (Or.inl ⟨by rfl, ?_⟩) ?_
    rotate_left
    · (intro w hSw; (try dsimp only at hSw); go_simp; (try with_reducible rfl))
    try simp only [Act.put, List.setIfInBounds_toArray, List.set_cons_zero, List.set_cons_succ]
    refine NoPanic.normal ?_
    have R2 := R.after Dp2
    have B2 := B.trans (Dp2.mono B.size)
    have Iq2 := Iq.below Dp2
    have ⟨y0, y1, y2, y3, k0, k1, k2, k3, _⟩ := R2
    have ⟨x0, x1, x2, x3, _⟩ := Sq.after Dp2
    go_wp2
    refine bodyPost_ret (v := .tuple #[.agg #[.bool gn_q, .slice An_q nn_q cn_q, .bool gd_q, .slice Ad_q nd_q cd_q], .int .i64 0]) (by obtain ⟨v0, v1, v2, v3⟩ := R2.set4e (.bool gn_q) (.slice An_q nn_q cn_q) (.bool gd_q) (.slice Ad_q nd_q cd_q); simp [results, Tryd.results27, go_sem, v0, v1, v2, v3]) rfl ⟨r, HB, .inl ⟨_, _, _, _, _, _, _, _, _, rfl, Iq2.stored4 R2 rfl rfl rfl rfl _ _ _ _, ?_, ?_⟩⟩
    · exact Below.set4 B2 (by omega) _ _ _ _
    · have hi := HLI.out
      exact hi.1.sound hi.2.2.1 (by have h4 := hi.2.2.2; omega) HD.out
  · have ht3 : (t2 != 0) = true := by
      rw [← ht2]
      rcases Int.lt_trichotomy ((Rat.divInt q1 q2).den : Int) (q2.natAbs : Int) with h | h | h
      · rw [cmpN_lt h]; rfl
      · exact absurd (by omega) hd
      · rw [cmpN_gt h]; rfl
    have HD := Lib.hid hd
    clear hd ht2
    have Dp0 : Below W5.heap.size W5 W5.drew := (Below.refl _ _).drew
    refine wp_region_seq (.pre [(0, true), (1, true), (2, true), (3, true), (4, false), (5, false), (6, true)] .done) (fun W => (W.cell? ⟨w5.heap.size, 0, none⟩ = some (.bool gn_q) ∧ W.cell? ⟨w5.heap.size, 1, none⟩ = some (.slice An_q nn_q cn_q) ∧ W.cell? ⟨w5.heap.size, 2, none⟩ = some (.bool gd_q) ∧ W.cell? ⟨w5.heap.size, 3, none⟩ = some (.slice Ad_q nd_q cd_q)) ∧ (W.cell? ⟨w3.heap.size, 0, none⟩ = some (.bool gn_l) ∧ W.cell? ⟨w3.heap.size, 1, none⟩ = some (.slice An_l nn_l cn_l) ∧ W.cell? ⟨w3.heap.size, 2, none⟩ = some (.bool gd_l) ∧ W.cell? ⟨w3.heap.size, 3, none⟩ = some (.slice Ad_l nd_l cd_l))) (by kernel_rfl) (by kernel_rfl) ?_ (by kernel_rfl) (HS.out _ Dp0) ?_
    · refine chk_pre _ _ _ (by as_aux_lemma => kernel_rfl) ?_
      exact (by as_aux_lemma => kernel_rfl)
    refine seq_take _ ?_ rfl (Or.inl ⟨by rfl, ?_⟩) ?_
    rotate_left
    · (intro w hSw; (try dsimp only at hSw); go_simp; (try with_reducible rfl))
    try simp only [Act.put, List.setIfInBounds_toArray, List.set_cons_zero, List.set_cons_succ]
    refine seq_take _ ?_ rfl (Or.inl ⟨by rfl, ?_⟩) ?_
    rotate_left
    · (intro w hSw; (try dsimp only at hSw); go_simp; (try with_reducible rfl))
    try simp only [Act.put, List.setIfInBounds_toArray, List.set_cons_zero, List.set_cons_succ]
    refine seq_take _ ?_ rfl (Or.inl ⟨by rfl, ?_⟩) ?_
    rotate_left
    · (intro w hSw; (try dsimp only at hSw); go_simp; (try with_reducible rfl))
    try simp only [Act.put, List.setIfInBounds_toArray, List.set_cons_zero, List.set_cons_succ]
    refine seq_take _ ?_ rfl (Or.inl ⟨by rfl, ?_⟩) ?_
    rotate_left
    · (intro w hSw; (try dsimp only at hSw); go_simp; (try with_reducible rfl))
    try simp only [Act.put, List.setIfInBounds_toArray, List.set_cons_zero, List.set_cons_succ]
    refine seq_one _ rfl fun K hK => ?_
    go_simp
    (with_reducible refine (abs_z gd_l Ad_l nd_l cd_l _ (Il.below Dp0).den Zs).mono ?_)
    rintro e vp1 ⟨gp1, Ap1, np1, cp1, rfl, ip1, bp1⟩
    have Dp1 : Below W5.heap.size W5 vp1 := Below.trans Dp0 (bp1.mono (Below.size Dp0))
    go_wp2_with fail
    refine hK.out _ _ (HS.out _ Dp1) (fun hHeld => ?_)
    clear hK K hHeld
    try simp only [Act.put, List.setIfInBounds_toArray, List.set_cons_zero, List.set_cons_succ]
    refine seq_one _ rfl fun K hK => ?_
    go_simp
    (with_reducible refine (cmp_z gd_q gp1 Ad_q Ap1 nd_q cd_q np1 cp1 _ t2 (Iq.below Dp1).den ip1 HT2.out).mono ?_)
    rintro e vp2 ⟨rfl, bp2⟩
    have Dp2 : Below W5.heap.size W5 vp2 := Below.trans Dp1 (bp2.mono (Below.size Dp1))
    go_wp2_with fail
    refine hK.out _ _ (HS.out _ Dp2) (fun hHeld => ?_)
    clear hK K hHeld
    try simp only [Act.put, List.setIfInBounds_toArray, List.set_cons_zero, List.set_cons_succ]
    refine seq_take _ ?_ rfl (Or.inl ⟨by rfl, ?_⟩) ?_
    rotate_left
    · (intro w hSw; (try dsimp only at hSw); go_simp; (try with_reducible rfl))
    try simp only [Act.put, List.setIfInBounds_toArray, List.set_cons_zero, List.set_cons_succ]
    refine NoPanic.normal ?_
    have R2 := R.after Dp2
    have B2 := B.trans (Dp2.mono B.size)
    have Iq2 := Iq.below Dp2
    have ⟨y0, y1, y2, y3, k0, k1, k2, k3, _⟩ := R2
    go_wp2
    refine bodyPost_ret (v := .tuple #[.agg #[.bool false, .slice none 0 0, .bool false, .slice none 0 0], .int .i64 41]) (by obtain ⟨v0, v1, v2, v3⟩ := R2.set4e (.bool false) (.slice none 0 0) (.bool false) (.slice none 0 0); simp [results, Tryd.results27, go_sem, v0, v1, v2, v3]) rfl ⟨r, HB, .inr ⟨rfl, ?_, fun n d hg => ?_⟩⟩
    · exact Below.set4 B2 (by omega) _ _ _ _
    · have hi := HLI.out
      exact HD.out (hi.1.complete hg hbl.1 hi.2.1 hi.2.2.1).1
end Go.Proofs.YtclmenpclkmfeaaDoor
namespace Go.Proofs.YtclmenpclkmfeaaDoor
open Go.RowKit Go.Maps
theorem resL_1 (w : World) (p v : Nat) (hp : p < 18446744073709551616) (hv : v < 18446744073709551616) : ResL (w.alloc (.cells #[.int .u64 (p : Int), .int .u64 (v : Int)] 41)) (some ⟨w.heap.size, 0, none⟩) 1 [(p, v)] :=
  ⟨rfl, (fun x hx => by obtain rfl := List.mem_singleton.1 hx; exact ⟨hp, hv⟩), fun _ => ⟨w.heap.size, 0, rfl, by simp, fun k hk => by
    obtain rfl : k = 0 := by omega
    constructor <;> simp⟩⟩
theorem resL_2 (w : World) (p v q u : Nat) (hp : p < 18446744073709551616) (hv : v < 18446744073709551616) (hq : q < 18446744073709551616) (hu : u < 18446744073709551616) : ResL (w.alloc (.cells #[.int .u64 (p : Int), .int .u64 (v : Int), .int .u64 (q : Int), .int .u64 (u : Int)] 41)) (some ⟨w.heap.size, 0, none⟩) 2 [(p, v), (q, u)] :=
  ⟨rfl, (fun x hx => by
    rcases List.mem_cons.1 hx with rfl | hx
    · exact ⟨hp, hv⟩
    · obtain rfl := List.mem_singleton.1 hx; exact ⟨hq, hu⟩), fun _ => ⟨w.heap.size, 0, rfl, by simp, fun k hk => by
    have hk2 : k = 0 ∨ k = 1 := by omega
    rcases hk2 with rfl | rfl <;> constructor <;> simp⟩⟩
theorem pf_3 : primeF 3 = true := by rw [primeF_eq]; kernel_rfl
theorem pf_5 : primeF 5 = true := by rw [primeF_eq]; kernel_rfl
theorem pf_4 : primeF 4 = false := by rw [primeF_eq]; kernel_rfl
theorem prime3 : IsPrime 3 := prime_of 0 (by decide) (by decide) (by decide) (by decide)
theorem prime5 : IsPrime 5 := prime_of 0 (by decide) (by decide) (by decide) (by decide)
theorem okR_nil : OkR [] := fun k hk => absurd hk (by simp)
theorem okR_one {p v : Nat} (hv : v < p) (hp : primeF p = true) : OkR [(p, v)] := fun k hk => by
  have hk' : k < 1 := hk
  obtain rfl : k = 0 := by omega
  exact ⟨rfl, hv, hp⟩
theorem okR_two {p v q u : Nat} (hv : v < p) (hp : primeF p = true) (hu : u < q) (hq : primeF q = true) (hne : p ≠ q) : OkR [(p, v), (q, u)] := fun k hk => by
  have hk' : k < 2 := hk
  have hk2 : k = 0 ∨ k = 1 := by omega
  rcases hk2 with rfl | rfl
  · exact ⟨rfl, hv, hp⟩
  · exact ⟨by simpa using hne, hu, hq⟩
theorem not_one {p v : Nat} (h : p ≤ v ∨ primeF p = false) : ¬ OkR [(p, v)] := fun hk => by
  obtain ⟨_, h1, h2⟩ := hk 0 (by simp)
  have h1 : v < p := h1
  have h2 : primeF p = true := h2
  rcases h with h | h
  · omega
  · rw [h] at h2; cases h2
theorem not_twice {p v u : Nat} : ¬ OkR [(p, v), (p, u)] := fun hk => by
  have h1 := (hk 1 (by simp)).1
  simp at h1
/-- Combine at an acceptable list whose number is known. -/
theorem comb_ok (A : Option Addr) (n c : Nat) (L : List (Nat × Nat)) (z0 : Int) (w : World) (h : ResL w A n L) (hn : n ≤ 1000) (hT : TabW w) (h5 : TabN w.heap.size) (hok : OkR L) (hpr : ∀ x ∈ L, IsPrime x.1) (hz : ∀ z, Cmb L z → z = z0) :
    Calls Tryd.prog 12 #[.slice A n c] w fun e w' => ∃ g A n c, e = .returned (.tuple #[.agg #[.bool g, .slice A n c], .int .i64 0]) ∧ IsInt w' g A n c z0 ∧ Below w.heap.size w w' := by
  refine (comb_z A n c L w h hn hT h5 (fun _ => hpr)).mono ?_
  rintro e w' ⟨hb, ⟨_, g, A', n', c', z, rfl, hi, hz'⟩ | ⟨hno, _⟩⟩
  · obtain rfl := hz z hz'.out
    exact ⟨g, A', n', c', rfl, hi, hb⟩
  · exact absurd hok hno.out
theorem comb_bad (A : Option Addr) (n c : Nat) (L : List (Nat × Nat)) (w : World) (h : ResL w A n L) (hn : n ≤ 1000) (hT : TabW w) (h5 : TabN w.heap.size) (hno : ¬ OkR L) :
    Calls Tryd.prog 12 #[.slice A n c] w fun e w' => e = .returned (.tuple #[.agg #[.bool false, .slice none 0 0], .int .i64 40]) ∧ Below w.heap.size w w' := by
  refine (comb_z A n c L w h hn hT h5 (fun hok => absurd hok hno)).mono ?_
  rintro e w' ⟨hb, ⟨hok, _⟩ | ⟨_, rfl⟩⟩
  · exact absurd hok.out hno
  · exact ⟨rfl, hb⟩
theorem cons_b (A : Option Addr) (n c : Nat) (L : List (Nat × Nat)) (ga : Bool) (Aa : Option Addr) (na ca : Nat) {z : Int} (v : Bool) (w : World) (h : ResL w A n L) (ha : IsInt w ga Aa na ca z) (hn : n ≤ 1000) (hT : TabW w) (h5 : TabN w.heap.size) (hv : v = true ↔ Cons L z) :
    Calls Tryd.prog 20 #[.slice A n c, .agg #[.bool ga, .slice Aa na ca]] w fun e w' => e = .returned (.bool v) ∧ Below w.heap.size w w' := by
  refine (cons_z A n c L ga Aa na ca w h ha hn hT h5).mono ?_
  rintro e w' ⟨u, rfl, hb, hu⟩
  have hu' := hu.out
  have huv : u = v := by
    cases u <;> cases v
    · rfl
    · have := hu'.2 (hv.1 rfl); cases this
    · have := hv.2 (hu'.1 rfl); cases this
    · rfl
  subst huv
  exact ⟨rfl, hb⟩
theorem bnd_100 {r : Int} (h : Bnd 100 r) : r = 7 := by
  have h1 := h.nn
  have h2 := h.lo
  have h3 := h.hi
  have h4 : r ≤ 7 := by
    rcases Int.lt_or_le 7 r with h | h
    · have := Int.mul_le_mul (show (8 : Int) ≤ r by omega) (show (8 : Int) ≤ r by omega) (by decide) h1
      omega
    · exact h
  have h5 : 7 ≤ r := by
    rcases Int.lt_or_le r 7 with h | h
    · have := Int.mul_le_mul (show r + 1 ≤ (7 : Int) by omega) (show r + 1 ≤ (7 : Int) by omega) (by omega) (by decide)
      omega
    · exact h
  omega
theorem good_67 : Good 67 100 7 1 3 := ⟨⟨-2, by decide⟩, by decide, by decide, by decide, by decide, by decide⟩
theorem no_good_50 (n d : Int) : ¬ Good 50 100 7 n d := fun h => by
  obtain ⟨k, hk⟩ := h.cong
  have h1 := h.nlo
  have h2 := h.nhi
  have h3 := h.cop
  rcases Int.emod_two_eq d with h4 | h4
  · have e1 : (2 : Int) ∣ ((Int.gcd d 100 : Nat) : Int) := Int.dvd_coe_gcd (Int.dvd_of_emod_eq_zero h4) ⟨50, by decide⟩
    rw [h3] at e1
    omega
  · omega
theorem crat_third (ga : Bool) (Aa : Option Addr) (na ca : Nat) (gm : Bool) (Am : Option Addr) (nm cm : Nat) (w : World) (ha : IsInt w ga Aa na ca 67) (hm : IsInt w gm Am nm cm 100) :
    Calls Tryd.prog 27 #[.agg #[.bool ga, .slice Aa na ca], .agg #[.bool gm, .slice Am nm cm]] w (RetRatE w (Rat.divInt 1 3) 0) := by
  refine (crat_z ga Aa na ca gm Am nm cm w ha hm (Sz.of (by decide) (by decide) : Sz 1 67) (Sz.of (by decide) (by decide) : Sz 1 100) (by decide) (by decide)).mono ?_
  rintro e w' ⟨r, hr, ⟨gn, An, nn, cn, gd, Ad, nd, cd, q, rfl, hq, hb, hg⟩ | ⟨_, _, hno⟩⟩
  · obtain rfl := bnd_100 hr.out
    have h1 := hg.out.unique good_67 (by decide)
    have e1 : q = Rat.divInt 1 3 := by
      rw [← Rat.num_divInt_den q, Rat.divInt_eq_divInt_iff (by have := q.den_nz; omega) (by decide)]
      exact h1
    rw [← e1]
    exact ⟨gn, An, nn, cn, gd, Ad, nd, cd, rfl, hq, hb⟩
  · obtain rfl := bnd_100 hr.out
    exact absurd good_67 (hno.out 1 3)
theorem crat_fifty (ga : Bool) (Aa : Option Addr) (na ca : Nat) (gm : Bool) (Am : Option Addr) (nm cm : Nat) (w : World) (ha : IsInt w ga Aa na ca 50) (hm : IsInt w gm Am nm cm 100) :
    Calls Tryd.prog 27 #[.agg #[.bool ga, .slice Aa na ca], .agg #[.bool gm, .slice Am nm cm]] w (fun e w' => e = .returned (.tuple #[.agg #[.bool false, .slice none 0 0, .bool false, .slice none 0 0], .int .i64 41]) ∧ Below w.heap.size w w') := by
  refine (crat_z ga Aa na ca gm Am nm cm w ha hm (Sz.of (by decide) (by decide) : Sz 1 50) (Sz.of (by decide) (by decide) : Sz 1 100) (by decide) (by decide)).mono ?_
  rintro e w' ⟨r, hr, ⟨gn, An, nn, cn, gd, Ad, nd, cd, q, rfl, hq, hb, hg⟩ | ⟨rfl, hb, _⟩⟩
  · obtain rfl := bnd_100 hr.out
    exact absurd hg.out (no_good_50 _ _)
  · exact ⟨rfl, hb⟩
set_option maxRecDepth 1000000 in
set_option maxHeartbeats 4000000 in
theorem lrat_z (a d : Int) (w : World) (ha : a.natAbs < 4294967296) (hd : d.natAbs < 4294967296) (h0 : d ≠ 0) :
    Calls Tryd.prog 37 #[.int .i64 a, .int .i64 d] w (RetRat w (Rat.divInt a d)) := by
  have B := (Below.refl w.heap.size w).alloc (Nat.le_refl _) (.cells #[.bool false, .slice none 0 0, .bool false, .slice none 0 0] 57)
  have R := Slot4.new w (.bool false) (.slice none 0 0) (.bool false) (.slice none 0 0) 57
  have za : Sz 1 a := Sz.of (by simpa using ha) (by decide)
  have zd : Sz 1 d := Sz.of (by simpa using hd) (by decide)
  go_enter Tryd.func37, Tryd.ntmps37
  generalize hW : w.alloc (.cells #[.bool false, .slice none 0 0, .bool false, .slice none 0 0] 57) = W0 at *
  go_wp2_with fail
  try rw [hW]
  clear hW
  (with_reducible refine (rof_any a _ (by omega) (by omega)).mono ?_)
  rintro e w1 ⟨g1, A1, n1, c1, rfl, i1, b1⟩
  go_wp2_with fail
  (with_reducible refine (rof_any d _ (by omega) (by omega)).mono ?_)
  rintro e w2 ⟨g2, A2, n2, c2, rfl, i2, b2⟩
  go_wp2_with fail
  (with_reducible refine (rqof_z g1 A1 n1 c1 g2 A2 n2 c2 _ (i1.below b2) i2 za zd (by decide) h0).mono ?_)
  rintro e w3 ⟨gnp3, Anp3, nnp3, cnp3, gdp3, Adp3, ndp3, cdp3, rfl, i3, b3⟩
  have b4 := (Below.refl w3.heap.size w3).alloc (Nat.le_refl _) (.cells #[.bool gnp3, .slice Anp3 nnp3 cnp3, .bool gdp3, .slice Adp3 ndp3 cdp3] 57)
  have T := Slot4.new w3 (.bool gnp3) (.slice Anp3 nnp3 cnp3) (.bool gdp3) (.slice Adp3 ndp3 cdp3) 57
  replace b1 := b1.trans (b2.mono b1.size)
  replace b1 := b1.trans (b3.mono b1.size)
  replace b1 := b1.trans (b4.mono b1.size)
  replace i3 := i3.below b4
  replace R := R.after b1
  replace B := B.trans (b1.mono B.size)
  clear b1 b2 b3 b4 i1 i2
  have ⟨t0, t1, t2, t3, _⟩ := T
  have ⟨r0, r1, r2, r3, k0, k1, k2, k3, _⟩ := R
  generalize hW : w3.alloc (.cells #[.bool gnp3, .slice Anp3 nnp3 cnp3, .bool gdp3, .slice Adp3 ndp3 cdp3] 57) = W4 at *
  go_wp2
  try rw [hW]
  clear hW
  refine bodyPost_ret (v := .agg #[.bool gnp3, .slice Anp3 nnp3 cnp3, .bool gdp3, .slice Adp3 ndp3 cdp3]) (by obtain ⟨v0, v1, v2, v3⟩ := R.set4e (.bool gnp3) (.slice Anp3 nnp3 cnp3) (.bool gdp3) (.slice Adp3 ndp3 cdp3); simp [results, Tryd.results37, go_sem, v0, v1, v2, v3]) rfl ⟨_, _, _, _, _, _, _, _, rfl, i3.stored4 R rfl rfl rfl rfl _ _ _ _, ?_⟩
  exact Below.set4 B (by omega) _ _ _ _
end Go.Proofs.YtclmenpclkmfeaaDoor
