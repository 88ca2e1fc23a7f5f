/- Contracts of torsionref02: Div, Floor, Round, Integral, Text; validity of any value. -/
import Derived.Test.YtlpoboikompjfaaGreatDoorVRefQ2
import Derived.Test.YtlpoboikompjfaaGreatDoorVG28RatT
import Derived.Test.YtlpoboikompjfaaGreatDoorVRText
import Derived.Test.YtlpoboikompjfaaGreatDoorVLawBase
namespace Go.Proofs.YtlpoboikompjfaaGreatDoor
open Go.RowKit

set_option maxRecDepth 1000000 in
set_option maxHeartbeats 4000000 in
theorem rqof_bad (gn : Bool) (An : Option Addr) (nn cn : Nat) (gd : Bool) (Ad : Option Addr) (nd cd : Nat) (w : World) (hd : IsInt w gd Ad nd cd 0) :
    Calls Tryz.prog 13 #[.agg #[.bool gn, .slice An nn cn], .agg #[.bool gd, .slice Ad nd cd]] w (fun e w' => e = .returned (.tuple #[.agg #[.bool false, .slice none 0 0, .bool false, .slice none 0 0], .int .i64 3]) ∧ Below w.heap.size w w') := by
  have b1 := (Below.refl w.heap.size w).alloc (Nat.le_refl _) (.cells #[.bool gn, .slice An nn cn] 26)
  have b2 := b1.alloc b1.size (.cells #[.bool gd, .slice Ad nd cd] 26)
  have b3 := b2.alloc b2.size (.cells #[.bool false, .slice none 0 0, .bool false, .slice none 0 0] 28)
  have R0 := Slot4.new ((w.alloc (.cells #[.bool gn, .slice An nn cn] 26)).alloc (.cells #[.bool gd, .slice Ad nd cd] 26)) (.bool false) (.slice none 0 0) (.bool false) (.slice none 0 0) 28
  have Q0 := (Slot2.new (w.alloc (.cells #[.bool gn, .slice An nn cn] 26)) (.bool gd) (.slice Ad nd cd) 26).alloc (.cells #[.bool false, .slice none 0 0, .bool false, .slice none 0 0] 28)
  simp only [World.size_alloc] at Q0 R0
  have Id := hd.below b3
  have ⟨q0, q1, _, _, _⟩ := Q0
  go_enter Tryz.func13, Tryz.ntmps13
  go_wp2_with fail
  (with_reducible refine (rsign_z gd Ad nd cd _ 0 Id rfl).mono ?_)
  rintro e w1 ⟨rfl, hb1⟩
  have R1 := R0.after hb1
  have B1 := b3.trans (hb1.mono b3.size)
  clear Q0 R0 q0 q1 hb1 Id b1 b2 b3
  have ⟨r0, r1, r2, r3, k0, k1, k2, k3, _⟩ := R1
  go_wp2
  refine bodyPost_ret (v := .tuple #[.agg #[.bool false, .slice none 0 0, .bool false, .slice none 0 0], .int .i64 3]) (by obtain ⟨v0, v1, v2, v3⟩ := R1.set4e (.bool false) (.slice none 0 0) (.bool false) (.slice none 0 0); simp [results, Tryz.results13, go_sem, v0, v1, v2, v3]) rfl ⟨rfl, ?_⟩
  exact Below.set4 B1 (by omega) _ _ _ _
set_option maxRecDepth 1000000 in
set_option maxHeartbeats 4000000 in
theorem rqdiv_z (gxn : Bool) (Axn : Option Addr) (nxn cxn : Nat) (gxd : Bool) (Axd : Option Addr) (nxd cxd : Nat) (gyn : Bool) (Ayn : Option Addr) (nyn cyn : Nat) (gyd : Bool) (Ayd : Option Addr) (nyd cyd : Nat) {k l : Nat} {a b : Rat} (w : World) (ha : IsRat w gxn Axn nxn cxn gxd Axd nxd cxd a) (hb : IsRat w gyn Ayn nyn cyn gyd Ayd nyd cyd b) (sa : RSz k a) (sb : RSz l b) (hk : k + l + 1 + 1 ≤ 10000) (hz : b ≠ 0) :
    Calls Tryz.prog 15 #[.agg #[.bool gxn, .slice Axn nxn cxn, .bool gxd, .slice Axd nxd cxd], .agg #[.bool gyn, .slice Ayn nyn cyn, .bool gyd, .slice Ayd nyd cyd]] w (RetRatE w (a / b) 0) := by
  obtain ⟨B0, X0, Y0, R0⟩ := frameQ3 w (.bool gxn) (.slice Axn nxn cxn) (.bool gxd) (.slice Axd nxd cxd) (.bool gyn) (.slice Ayn nyn cyn) (.bool gyd) (.slice Ayd nyd cyd) 28 28 28
  have Ix := ha.below B0
  have Iy := hb.below B0
  have Ixn := Ix.num
  have Ixd := Ix.den
  have Iyn := Iy.num
  have Iyd := Iy.den
  clear ha hb
  have Z1 : Sz (k + l) (a.num * b.den) := sa.num.mul sb.den (by omega)
  have Z2 : Sz (k + l) ((a.den : Int) * b.num) := sa.den.mul sb.num (by omega)
  have HD := Lib.hid (Int.mul_ne_zero (den_ne a) (num_ne hz))
  have HQ := Lib.hid (q_div a b)
  clear hz
  go_enter Tryz.func15, Tryz.ntmps15
  go_upto_region 1 with (fail)
  generalize ((w.alloc (.cells #[.bool gxn, .slice Axn nxn cxn, .bool gxd, .slice Axd nxd cxd] 28)).alloc (.cells #[.bool gyn, .slice Ayn nyn cyn, .bool gyd, .slice Ayd nyd cyd] 28)).alloc (.cells #[.bool false, .slice none 0 0, .bool false, .slice none 0 0] 28) = W0 at *
  have HS : Hid (∀ V, Below W0.heap.size W0 V → (V.cell? ⟨w.heap.size, 0, none⟩ = some (.bool gxn) ∧ V.cell? ⟨w.heap.size, 1, none⟩ = some (.slice Axn nxn cxn) ∧ V.cell? ⟨w.heap.size, 2, none⟩ = some (.bool gxd) ∧ V.cell? ⟨w.heap.size, 3, none⟩ = some (.slice Axd nxd cxd)) ∧ (V.cell? ⟨w.heap.size + 1, 0, none⟩ = some (.bool gyn) ∧ V.cell? ⟨w.heap.size + 1, 1, none⟩ = some (.slice Ayn nyn cyn) ∧ V.cell? ⟨w.heap.size + 1, 2, none⟩ = some (.bool gyd) ∧ V.cell? ⟨w.heap.size + 1, 3, none⟩ = some (.slice Ayd nyd cyd))) := fun V hV => ⟨(X0.after hV).cells, (Y0.after hV).cells⟩
  have Dp0 : Below W0.heap.size W0 W0.drew := (Below.refl _ _).drew
  refine wp_region_seq (.pre [(0, true), (1, true), (2, true), (3, true), (5, true), (6, true), (7, true), (8, true), (4, false), (9, false), (10, false), (11, true), (12, true), (13, false), (14, true)] .done) (fun W => (W.cell? ⟨w.heap.size, 0, none⟩ = some (.bool gxn) ∧ W.cell? ⟨w.heap.size, 1, none⟩ = some (.slice Axn nxn cxn) ∧ W.cell? ⟨w.heap.size, 2, none⟩ = some (.bool gxd) ∧ W.cell? ⟨w.heap.size, 3, none⟩ = some (.slice Axd nxd cxd)) ∧ (W.cell? ⟨w.heap.size + 1, 0, none⟩ = some (.bool gyn) ∧ W.cell? ⟨w.heap.size + 1, 1, none⟩ = some (.slice Ayn nyn cyn) ∧ W.cell? ⟨w.heap.size + 1, 2, none⟩ = some (.bool gyd) ∧ W.cell? ⟨w.heap.size + 1, 3, none⟩ = some (.slice Ayd nyd cyd))) (by kernel_rfl) (by kernel_rfl) ?_ (by kernel_rfl) (HS.out _ Dp0) ?_
  · refine chk_pre _ _ _ (by as_aux_lemma => kernel_rfl) ?_
    exact (by as_aux_lemma => kernel_rfl)
  refine seq_take _ ?_ rfl (Or.inl ⟨by rfl, ?_⟩) ?_
  rotate_left
  · (intro w hSw; (try dsimp only at hSw); go_simp; (try with_reducible rfl))
  try simp only [Act.put, List.setIfInBounds_toArray, List.set_cons_zero, List.set_cons_succ]
  refine seq_take _ ?_ rfl (Or.inl ⟨by rfl, ?_⟩) ?_
  rotate_left
  · (intro w hSw; (try dsimp only at hSw); go_simp; (try with_reducible rfl))
  try simp only [Act.put, List.setIfInBounds_toArray, List.set_cons_zero, List.set_cons_succ]
  refine seq_take _ ?_ rfl (Or.inl ⟨by rfl, ?_⟩) ?_
  rotate_left
  · (intro w hSw; (try dsimp only at hSw); go_simp; (try with_reducible rfl))
  try simp only [Act.put, List.setIfInBounds_toArray, List.set_cons_zero, List.set_cons_succ]
  refine seq_take _ ?_ rfl (Or.inl ⟨by rfl, ?_⟩) ?_
  rotate_left
  · (intro w hSw; (try dsimp only at hSw); go_simp; (try with_reducible rfl))
  try simp only [Act.put, List.setIfInBounds_toArray, List.set_cons_zero, List.set_cons_succ]
  refine seq_take _ ?_ rfl (Or.inl ⟨by rfl, ?_⟩) ?_
  rotate_left
  · (intro w hSw; (try dsimp only at hSw); go_simp; (try with_reducible rfl))
  try simp only [Act.put, List.setIfInBounds_toArray, List.set_cons_zero, List.set_cons_succ]
  refine seq_take _ ?_ rfl (Or.inl ⟨by rfl, ?_⟩) ?_
  rotate_left
  · (intro w hSw; (try dsimp only at hSw); go_simp; (try with_reducible rfl))
  try simp only [Act.put, List.setIfInBounds_toArray, List.set_cons_zero, List.set_cons_succ]
  refine seq_take _ ?_ rfl (Or.inl ⟨by rfl, ?_⟩) ?_
  rotate_left
  · (intro w hSw; (try dsimp only at hSw); go_simp; (try with_reducible rfl))
  try simp only [Act.put, List.setIfInBounds_toArray, List.set_cons_zero, List.set_cons_succ]
  refine seq_take _ ?_ rfl (Or.inl ⟨by rfl, ?_⟩) ?_
  rotate_left
  · (intro w hSw; (try dsimp only at hSw); go_simp; (try with_reducible rfl))
  try simp only [Act.put, List.setIfInBounds_toArray, List.set_cons_zero, List.set_cons_succ]
  refine seq_one _ rfl fun K hK => ?_
  go_simp
  (with_reducible refine (rmul_z gxn gyd Axn Ayd nxn cxn nyd cyd _ (Ixn.below Dp0) (Iyd.below Dp0) sa.num sb.den).mono ?_)
  rintro e vp1 ⟨gp1, Ap1, np1, cp1, rfl, ip1, bp1⟩
  have Dp1 : Below W0.heap.size W0 vp1 := Below.trans Dp0 (bp1.mono (Below.size Dp0))
  go_wp2_with fail
  refine hK.out _ _ (HS.out _ Dp1) (fun hHeld => ?_)
  clear hK K hHeld
  try simp only [Act.put, List.setIfInBounds_toArray, List.set_cons_zero, List.set_cons_succ]
  refine seq_one _ rfl fun K hK => ?_
  go_simp
  (with_reducible refine (rmul_z gxd gyn Axd Ayn nxd cxd nyn cyn _ (Ixd.below Dp1) (Iyn.below Dp1) sa.den sb.num).mono ?_)
  rintro e vp2 ⟨gp2, Ap2, np2, cp2, rfl, ip2, bp2⟩
  have Dp2 : Below W0.heap.size W0 vp2 := Below.trans Dp1 (bp2.mono (Below.size Dp1))
  go_wp2_with fail
  refine hK.out _ _ (HS.out _ Dp2) (fun hHeld => ?_)
  clear hK K hHeld
  try simp only [Act.put, List.setIfInBounds_toArray, List.set_cons_zero, List.set_cons_succ]
  refine seq_one _ rfl fun K hK => ?_
  go_simp
  (with_reducible refine (rqof_z gp1 Ap1 np1 cp1 gp2 Ap2 np2 cp2 _ (ip1.below bp2) ip2 Z1 Z2 (by omega) HD.out).mono ?_)
  rintro e vp3 ⟨gnp3, Anp3, nnp3, cnp3, gdp3, Adp3, ndp3, cdp3, rfl, ip3, bp3⟩
  have Dp3 : Below W0.heap.size W0 vp3 := Below.trans Dp2 (bp3.mono (Below.size Dp2))
  go_wp2_with fail
  refine hK.out _ _ (HS.out _ Dp3) (fun hHeld => ?_)
  clear hK K hHeld
  try simp only [Act.put, List.setIfInBounds_toArray, List.set_cons_zero, List.set_cons_succ]
  refine seq_take _ ?_ rfl (Or.inl ⟨by rfl, ?_⟩) ?_
  rotate_left
  · (intro w hSw; (try dsimp only at hSw); go_simp; (try with_reducible rfl))
  try simp only [Act.put, List.setIfInBounds_toArray, List.set_cons_zero, List.set_cons_succ]
  refine seq_take _ ?_ rfl (Or.inl ⟨by rfl, ?_⟩) ?_
  rotate_left
  · (intro w hSw; (try dsimp only at hSw); go_simp; (try with_reducible rfl))
  try simp only [Act.put, List.setIfInBounds_toArray, List.set_cons_zero, List.set_cons_succ]
  refine seq_one _ rfl fun K hK => ?_
  have R1 := R0.after Dp3
  have ⟨r0, r1, r2, r3, k0, k1, k2, k3, _⟩ := R1
  go_simp
  refine hK.out _ _ (⟨((X0.after Dp3).far4 (by omega) _ _ _ _).cells, ((Y0.after Dp3).far4 (by omega) _ _ _ _).cells⟩) (fun hHeld => ?_)
  clear hK K hHeld
  try simp only [Act.put, List.setIfInBounds_toArray, List.set_cons_zero, List.set_cons_succ]
  refine seq_take _ ?_ rfl (Or.inl ⟨by rfl, ?_⟩) ?_
  rotate_left
  · (intro w hSw; (try dsimp only at hSw); go_simp; (try with_reducible rfl))
  try simp only [Act.put, List.setIfInBounds_toArray, List.set_cons_zero, List.set_cons_succ]
  refine NoPanic.normal ?_
  go_wp2
  have hs := R0.after Dp3
  rw [HQ.out] at ip3
  refine bodyPost_ret (v := .tuple #[.agg #[.bool gnp3, .slice Anp3 nnp3 cnp3, .bool gdp3, .slice Adp3 ndp3 cdp3], .int .i64 0]) (by obtain ⟨v0, v1, v2, v3⟩ := hs.set4e (.bool gnp3) (.slice Anp3 nnp3 cnp3) (.bool gdp3) (.slice Adp3 ndp3 cdp3); simp [results, Tryz.results15, go_sem, v0, v1, v2, v3]) rfl ⟨_, _, _, _, _, _, _, _, rfl, ip3.stored4 hs rfl rfl rfl rfl _ _ _ _, ?_⟩
  exact Below.set4 (B0.trans (Dp3.mono B0.size)) (by omega) _ _ _ _
set_option maxRecDepth 1000000 in
set_option maxHeartbeats 4000000 in
theorem rqdiv_bad (gxn : Bool) (Axn : Option Addr) (nxn cxn : Nat) (gxd : Bool) (Axd : Option Addr) (nxd cxd : Nat) (gyn : Bool) (Ayn : Option Addr) (nyn cyn : Nat) (gyd : Bool) (Ayd : Option Addr) (nyd cyd : Nat) {k l : Nat} {a b : Rat} (w : World) (ha : IsRat w gxn Axn nxn cxn gxd Axd nxd cxd a) (hb : IsRat w gyn Ayn nyn cyn gyd Ayd nyd cyd b) (sa : RSz k a) (sb : RSz l b) (hk : k + l + 1 + 1 ≤ 10000) (hz : b = 0) :
    Calls Tryz.prog 15 #[.agg #[.bool gxn, .slice Axn nxn cxn, .bool gxd, .slice Axd nxd cxd], .agg #[.bool gyn, .slice Ayn nyn cyn, .bool gyd, .slice Ayd nyd cyd]] w (fun e w' => e = .returned (.tuple #[.agg #[.bool false, .slice none 0 0, .bool false, .slice none 0 0], .int .i64 3]) ∧ Below w.heap.size w w') := by
  obtain ⟨B0, X0, Y0, R0⟩ := frameQ3 w (.bool gxn) (.slice Axn nxn cxn) (.bool gxd) (.slice Axd nxd cxd) (.bool gyn) (.slice Ayn nyn cyn) (.bool gyd) (.slice Ayd nyd cyd) 28 28 28
  have Ix := ha.below B0
  have Iy := hb.below B0
  have Ixn := Ix.num
  have Ixd := Ix.den
  have Iyn := Iy.num
  have Iyd := Iy.den
  clear ha hb
  have Z1 : Sz (k + l) (a.num * b.den) := sa.num.mul sb.den (by omega)
  have Z2 : Sz (k + l) ((a.den : Int) * b.num) := sa.den.mul sb.num (by omega)
  have HD : Hid ((a.den : Int) * b.num = 0) := by show (a.den : Int) * b.num = 0; rw [hz]; simp
  clear hz
  go_enter Tryz.func15, Tryz.ntmps15
  go_upto_region 1 with (fail)
  generalize ((w.alloc (.cells #[.bool gxn, .slice Axn nxn cxn, .bool gxd, .slice Axd nxd cxd] 28)).alloc (.cells #[.bool gyn, .slice Ayn nyn cyn, .bool gyd, .slice Ayd nyd cyd] 28)).alloc (.cells #[.bool false, .slice none 0 0, .bool false, .slice none 0 0] 28) = W0 at *
  have HS : Hid (∀ V, Below W0.heap.size W0 V → (V.cell? ⟨w.heap.size, 0, none⟩ = some (.bool gxn) ∧ V.cell? ⟨w.heap.size, 1, none⟩ = some (.slice Axn nxn cxn) ∧ V.cell? ⟨w.heap.size, 2, none⟩ = some (.bool gxd) ∧ V.cell? ⟨w.heap.size, 3, none⟩ = some (.slice Axd nxd cxd)) ∧ (V.cell? ⟨w.heap.size + 1, 0, none⟩ = some (.bool gyn) ∧ V.cell? ⟨w.heap.size + 1, 1, none⟩ = some (.slice Ayn nyn cyn) ∧ V.cell? ⟨w.heap.size + 1, 2, none⟩ = some (.bool gyd) ∧ V.cell? ⟨w.heap.size + 1, 3, none⟩ = some (.slice Ayd nyd cyd))) := fun V hV => ⟨(X0.after hV).cells, (Y0.after hV).cells⟩
  have Dp0 : Below W0.heap.size W0 W0.drew := (Below.refl _ _).drew
  refine wp_region_seq (.pre [(0, true), (1, true), (2, true), (3, true), (5, true), (6, true), (7, true), (8, true), (4, false), (9, false), (10, false), (11, true), (12, true), (13, false), (14, true)] .done) (fun W => (W.cell? ⟨w.heap.size, 0, none⟩ = some (.bool gxn) ∧ W.cell? ⟨w.heap.size, 1, none⟩ = some (.slice Axn nxn cxn) ∧ W.cell? ⟨w.heap.size, 2, none⟩ = some (.bool gxd) ∧ W.cell? ⟨w.heap.size, 3, none⟩ = some (.slice Axd nxd cxd)) ∧ (W.cell? ⟨w.heap.size + 1, 0, none⟩ = some (.bool gyn) ∧ W.cell? ⟨w.heap.size + 1, 1, none⟩ = some (.slice Ayn nyn cyn) ∧ W.cell? ⟨w.heap.size + 1, 2, none⟩ = some (.bool gyd) ∧ W.cell? ⟨w.heap.size + 1, 3, none⟩ = some (.slice Ayd nyd cyd))) (by kernel_rfl) (by kernel_rfl) ?_ (by kernel_rfl) (HS.out _ Dp0) ?_
  · refine chk_pre _ _ _ (by as_aux_lemma => kernel_rfl) ?_
    exact (by as_aux_lemma => kernel_rfl)
  refine seq_take _ ?_ rfl (Or.inl ⟨by rfl, ?_⟩) ?_
  rotate_left
  · (intro w hSw; (try dsimp only at hSw); go_simp; (try with_reducible rfl))
  try simp only [Act.put, List.setIfInBounds_toArray, List.set_cons_zero, List.set_cons_succ]
  refine seq_take _ ?_ rfl (Or.inl ⟨by rfl, ?_⟩) ?_
  rotate_left
  · (intro w hSw; (try dsimp only at hSw); go_simp; (try with_reducible rfl))
  try simp only [Act.put, List.setIfInBounds_toArray, List.set_cons_zero, List.set_cons_succ]
  refine seq_take _ ?_ rfl (Or.inl ⟨by rfl, ?_⟩) ?_
  rotate_left
  · (intro w hSw; (try dsimp only at hSw); go_simp; (try with_reducible rfl))
  try simp only [Act.put, List.setIfInBounds_toArray, List.set_cons_zero, List.set_cons_succ]
  refine seq_take _ ?_ rfl (Or.inl ⟨by rfl, ?_⟩) ?_
  rotate_left
  · (intro w hSw; (try dsimp only at hSw); go_simp; (try with_reducible rfl))
  try simp only [Act.put, List.setIfInBounds_toArray, List.set_cons_zero, List.set_cons_succ]
  refine seq_take _ ?_ rfl (Or.inl ⟨by rfl, ?_⟩) ?_
  rotate_left
  · (intro w hSw; (try dsimp only at hSw); go_simp; (try with_reducible rfl))
  try simp only [Act.put, List.setIfInBounds_toArray, List.set_cons_zero, List.set_cons_succ]
  refine seq_take _ ?_ rfl (Or.inl ⟨by rfl, ?_⟩) ?_
  rotate_left
  · (intro w hSw; (try dsimp only at hSw); go_simp; (try with_reducible rfl))
  try simp only [Act.put, List.setIfInBounds_toArray, List.set_cons_zero, List.set_cons_succ]
  refine seq_take _ ?_ rfl (Or.inl ⟨by rfl, ?_⟩) ?_
  rotate_left
  · (intro w hSw; (try dsimp only at hSw); go_simp; (try with_reducible rfl))
  try simp only [Act.put, List.setIfInBounds_toArray, List.set_cons_zero, List.set_cons_succ]
  refine seq_take _ ?_ rfl (Or.inl ⟨by rfl, ?_⟩) ?_
  rotate_left
  · (intro w hSw; (try dsimp only at hSw); go_simp; (try with_reducible rfl))
  try simp only [Act.put, List.setIfInBounds_toArray, List.set_cons_zero, List.set_cons_succ]
  refine seq_one _ rfl fun K hK => ?_
  go_simp
  (with_reducible refine (rmul_z gxn gyd Axn Ayd nxn cxn nyd cyd _ (Ixn.below Dp0) (Iyd.below Dp0) sa.num sb.den).mono ?_)
  rintro e vp1 ⟨gp1, Ap1, np1, cp1, rfl, ip1, bp1⟩
  have Dp1 : Below W0.heap.size W0 vp1 := Below.trans Dp0 (bp1.mono (Below.size Dp0))
  go_wp2_with fail
  refine hK.out _ _ (HS.out _ Dp1) (fun hHeld => ?_)
  clear hK K hHeld
  try simp only [Act.put, List.setIfInBounds_toArray, List.set_cons_zero, List.set_cons_succ]
  refine seq_one _ rfl fun K hK => ?_
  go_simp
  (with_reducible refine (rmul_z gxd gyn Axd Ayn nxd cxd nyn cyn _ (Ixd.below Dp1) (Iyn.below Dp1) sa.den sb.num).mono ?_)
  rintro e vp2 ⟨gp2, Ap2, np2, cp2, rfl, ip2, bp2⟩
  have Dp2 : Below W0.heap.size W0 vp2 := Below.trans Dp1 (bp2.mono (Below.size Dp1))
  go_wp2_with fail
  refine hK.out _ _ (HS.out _ Dp2) (fun hHeld => ?_)
  clear hK K hHeld
  try simp only [Act.put, List.setIfInBounds_toArray, List.set_cons_zero, List.set_cons_succ]
  refine seq_one _ rfl fun K hK => ?_
  go_simp
  (with_reducible refine (rqof_bad gp1 Ap1 np1 cp1 gp2 Ap2 np2 cp2 _ (by have h := ip2; rwa [HD.out] at h)).mono ?_)
  rintro e vp3 ⟨rfl, bp3⟩
  have Dp3 : Below W0.heap.size W0 vp3 := Below.trans Dp2 (bp3.mono (Below.size Dp2))
  go_wp2_with fail
  refine hK.out _ _ (HS.out _ Dp3) (fun hHeld => ?_)
  clear hK K hHeld
  try simp only [Act.put, List.setIfInBounds_toArray, List.set_cons_zero, List.set_cons_succ]
  refine seq_take _ ?_ rfl (Or.inl ⟨by rfl, ?_⟩) ?_
  rotate_left
  · (intro w hSw; (try dsimp only at hSw); go_simp; (try with_reducible rfl))
  try simp only [Act.put, List.setIfInBounds_toArray, List.set_cons_zero, List.set_cons_succ]
  refine seq_take _ ?_ rfl (Or.inl ⟨by rfl, ?_⟩) ?_
  rotate_left
  · (intro w hSw; (try dsimp only at hSw); go_simp; (try with_reducible rfl))
  try simp only [Act.put, List.setIfInBounds_toArray, List.set_cons_zero, List.set_cons_succ]
  refine seq_one _ rfl fun K hK => ?_
  have R1 := R0.after Dp3
  have ⟨r0, r1, r2, r3, k0, k1, k2, k3, _⟩ := R1
  go_simp
  refine hK.out _ _ (⟨((X0.after Dp3).far4 (by omega) _ _ _ _).cells, ((Y0.after Dp3).far4 (by omega) _ _ _ _).cells⟩) (fun hHeld => ?_)
  clear hK K hHeld
  try simp only [Act.put, List.setIfInBounds_toArray, List.set_cons_zero, List.set_cons_succ]
  refine seq_take _ ?_ rfl (Or.inl ⟨by rfl, ?_⟩) ?_
  rotate_left
  · (intro w hSw; (try dsimp only at hSw); go_simp; (try with_reducible rfl))
  try simp only [Act.put, List.setIfInBounds_toArray, List.set_cons_zero, List.set_cons_succ]
  refine NoPanic.normal ?_
  go_wp2
  have hs := R0.after Dp3
  refine bodyPost_ret (v := .tuple #[.agg #[.bool false, .slice none 0 0, .bool false, .slice none 0 0], .int .i64 3]) (by obtain ⟨v0, v1, v2, v3⟩ := hs.set4e (.bool false) (.slice none 0 0) (.bool false) (.slice none 0 0); simp [results, Tryz.results15, go_sem, v0, v1, v2, v3]) rfl ⟨rfl, ?_⟩
  exact Below.set4 (B0.trans (Dp3.mono B0.size)) (by omega) _ _ _ _
set_option maxRecDepth 1000000 in
set_option maxHeartbeats 4000000 in
theorem rqfloor_z (gxn : Bool) (Axn : Option Addr) (nxn cxn : Nat) (gxd : Bool) (Axd : Option Addr) (nxd cxd : Nat) {k : Nat} {q : Rat} (w : World) (hq : IsRat w gxn Axn nxn cxn gxd Axd nxd cxd q) (sq : RSz k q) (hk : k + 1 + 1 ≤ 10000) :
    Calls Tryz.prog 31 #[.agg #[.bool gxn, .slice Axn nxn cxn, .bool gxd, .slice Axd nxd cxd]] w (RetInt w q.floor) := by
  have hf : q.floor = q.num / q.den := Rat.floor_def q
  rw [hf]
  clear hf
  have b0 := (Below.refl w.heap.size w).alloc (Nat.le_refl _) (.cells #[.bool gxn, .slice Axn nxn cxn, .bool gxd, .slice Axd nxd cxd] 28)
  have B0 := b0.alloc b0.size (.cells #[.bool false, .slice none 0 0] 26)
  have R0 := (Slot4.new w (.bool gxn) (.slice Axn nxn cxn) (.bool gxd) (.slice Axd nxd cxd) 28).alloc (.cells #[.bool false, .slice none 0 0] 26)
  have Q0 := Slot2.new (w.alloc (.cells #[.bool gxn, .slice Axn nxn cxn, .bool gxd, .slice Axd nxd cxd] 28)) (.bool false) (.slice none 0 0) 26
  simp only [World.size_alloc] at Q0
  have In := hq.num.below B0
  have Id := hq.den.below B0
  clear hq
  have ⟨r0, r1, r2, r3, _⟩ := R0
  go_enter Tryz.func31, Tryz.ntmps31
  go_wp2_with fail
  (with_reducible refine (rdm_z gxn gxd Axn Axd nxn cxn nxd cxd _ In Id sq.num sq.den (den_ne q) hk).mono ?_)
  rintro e w1 ⟨g5, A5, n5, c5, g6, A6, n6, c6, rfl, hi5, hi6, hb1⟩
  have b7 := (Below.refl w1.heap.size w1).alloc (Nat.le_refl _) (.cells #[.bool g5, .slice A5 n5 c5] 26)
  have b8 := b7.alloc b7.size (.cells #[.bool g6, .slice A6 n6 c6] 26)
  have hb8 := hb1.trans (b8.mono hb1.size)
  have X8 := (Slot2.new w1 (.bool g5) (.slice A5 n5 c5) 26).alloc (.cells #[.bool g6, .slice A6 n6 c6] 26)
  have Jx8 := hi5.below b8
  have Q8 := Q0.after hb8
  have B8 := B0.trans (hb8.mono B0.size)
  clear r0 r1 r2 r3 b0 b7 b8 hb1 hb8 hi5 hi6 R0 Q0 B0 In Id
  have ⟨x0, x1, _, _, _⟩ := X8
  have ⟨q0, q1, _, _, _⟩ := Q8
  go_wp2
  exact bodyPost_ret (v := .agg #[.bool g5, .slice A5 n5 c5]) (by simp [results, Tryz.results31, go_sem, q0, q1]) rfl ⟨_, _, _, _, rfl, Jx8.stored q0 q1 rfl rfl _ _, (B8.setCell (by simp) _).setCell (by simp) _⟩
set_option maxRecDepth 1000000 in
set_option maxHeartbeats 4000000 in
theorem rqround_z (gxn : Bool) (Axn : Option Addr) (nxn cxn : Nat) (gxd : Bool) (Axd : Option Addr) (nxd cxd : Nat) {k : Nat} {a : Rat} (w : World) (ha : IsRat w gxn Axn nxn cxn gxd Axd nxd cxd a) (sa : RSz k a) (hk : k + 1 + 1 + 1 + 1 ≤ 10000) :
    Calls Tryz.prog 33 #[.agg #[.bool gxn, .slice Axn nxn cxn, .bool gxd, .slice Axd nxd cxd]] w (RetInt w (a + Rat.divInt 1 2).floor) := by
  have b0 := (Below.refl w.heap.size w).alloc (Nat.le_refl _) (.cells #[.bool gxn, .slice Axn nxn cxn, .bool gxd, .slice Axd nxd cxd] 28)
  have B0 := b0.alloc b0.size (.cells #[.bool false, .slice none 0 0] 26)
  have X0 := (Slot4.new w (.bool gxn) (.slice Axn nxn cxn) (.bool gxd) (.slice Axd nxd cxd) 28).alloc (.cells #[.bool false, .slice none 0 0] 26)
  have R0 := Slot2.new (w.alloc (.cells #[.bool gxn, .slice Axn nxn cxn, .bool gxd, .slice Axd nxd cxd] 28)) (.bool false) (.slice none 0 0) 26
  simp only [World.size_alloc] at R0
  have Ix := ha.below B0
  have Zh : RSz 1 (Rat.divInt 1 2) := RSz.divInt (Sz.of (by decide) (by decide)) (Sz.of (by decide) (by decide)) (by decide)
  have Zs : RSz (k + 1 + 1) (a + Rat.divInt 1 2) := RSz.add sa Zh (by omega)
  clear ha b0
  go_enter Tryz.func33, Tryz.ntmps33
  go_upto_region 1 with (fail)
  generalize (w.alloc (.cells #[.bool gxn, .slice Axn nxn cxn, .bool gxd, .slice Axd nxd cxd] 28)).alloc (.cells #[.bool false, .slice none 0 0] 26) = W0 at *
  have HS : Hid (∀ V, Below W0.heap.size W0 V → (V.cell? ⟨w.heap.size, 0, none⟩ = some (.bool gxn) ∧ V.cell? ⟨w.heap.size, 1, none⟩ = some (.slice Axn nxn cxn) ∧ V.cell? ⟨w.heap.size, 2, none⟩ = some (.bool gxd) ∧ V.cell? ⟨w.heap.size, 3, none⟩ = some (.slice Axd nxd cxd))) := fun V hV => (X0.after hV).cells
  have Dp0 : Below W0.heap.size W0 W0.drew := (Below.refl _ _).drew
  refine wp_region_seq (.pre [(0, true), (1, false), (2, false), (3, false), (4, false)] .done) (fun W => (W.cell? ⟨w.heap.size, 0, none⟩ = some (.bool gxn) ∧ W.cell? ⟨w.heap.size, 1, none⟩ = some (.slice Axn nxn cxn) ∧ W.cell? ⟨w.heap.size, 2, none⟩ = some (.bool gxd) ∧ W.cell? ⟨w.heap.size, 3, none⟩ = some (.slice Axd nxd cxd))) (by kernel_rfl) (by kernel_rfl) ?_ (by kernel_rfl) (HS.out _ Dp0) ?_
  · refine chk_pre _ _ _ (by as_aux_lemma => kernel_rfl) ?_
    exact (by as_aux_lemma => kernel_rfl)
  refine seq_take _ ?_ rfl (Or.inl ⟨by rfl, ?_⟩) ?_
  rotate_left
  · (intro w hSw; (try dsimp only at hSw); go_simp; (try with_reducible rfl))
  try simp only [Act.put, List.setIfInBounds_toArray, List.set_cons_zero, List.set_cons_succ]
  refine seq_one _ rfl fun K hK => ?_
  go_simp
  (with_reducible refine (rqmade_z 1 2 _ (by decide) (by decide) (by decide) (by decide) (by decide)).mono ?_)
  rintro e vp1 ⟨gnp1, Anp1, nnp1, cnp1, gdp1, Adp1, ndp1, cdp1, rfl, ip1, bp1⟩
  have Dp1 : Below W0.heap.size W0 vp1 := Below.trans Dp0 (bp1.mono (Below.size Dp0))
  go_wp2_with fail
  refine hK.out _ _ (HS.out _ Dp1) (fun hHeld => ?_)
  clear hK K hHeld
  try simp only [Act.put, List.setIfInBounds_toArray, List.set_cons_zero, List.set_cons_succ]
  refine seq_one _ rfl fun K hK => ?_
  go_simp
  (with_reducible refine (rqadd_z gxn Axn nxn cxn gxd Axd nxd cxd gnp1 Anp1 nnp1 cnp1 gdp1 Adp1 ndp1 cdp1 _ (Ix.below Dp1) ip1 sa Zh (by omega)).mono ?_)
  rintro e vp2 ⟨gnp2, Anp2, nnp2, cnp2, gdp2, Adp2, ndp2, cdp2, rfl, ip2, bp2⟩
  have Dp2 : Below W0.heap.size W0 vp2 := Below.trans Dp1 (bp2.mono (Below.size Dp1))
  go_wp2_with fail
  refine hK.out _ _ (HS.out _ Dp2) (fun hHeld => ?_)
  clear hK K hHeld
  try simp only [Act.put, List.setIfInBounds_toArray, List.set_cons_zero, List.set_cons_succ]
  refine seq_one _ rfl fun K hK => ?_
  go_simp
  (with_reducible refine (rqfloor_z gnp2 Anp2 nnp2 cnp2 gdp2 Adp2 ndp2 cdp2 _ ip2 Zs (by omega)).mono ?_)
  rintro e vp3 ⟨gp3, Ap3, np3, cp3, rfl, ip3, bp3⟩
  have Dp3 : Below W0.heap.size W0 vp3 := Below.trans Dp2 (bp3.mono (Below.size Dp2))
  go_wp2_with fail
  refine hK.out _ _ (HS.out _ Dp3) (fun hHeld => ?_)
  clear hK K hHeld
  try simp only [Act.put, List.setIfInBounds_toArray, List.set_cons_zero, List.set_cons_succ]
  refine seq_one _ rfl fun K hK => ?_
  have R1 := R0.after Dp3
  have ⟨r0, r1, k0, k1, _⟩ := R1
  go_simp
  refine hK.out _ _ (((((X0.after Dp3).far (by omega) _).far (by omega) _)).cells) (fun hHeld => ?_)
  clear hK K hHeld
  try simp only [Act.put, List.setIfInBounds_toArray, List.set_cons_zero, List.set_cons_succ]
  refine NoPanic.normal ?_
  go_wp2
  have hs := R0.after Dp3
  have hB := B0.trans (Dp3.mono B0.size)
  have ⟨q0, q1, _, _, _⟩ := hs
  exact bodyPost_ret (v := .agg #[.bool gp3, .slice Ap3 np3 cp3]) (by simp [results, Tryz.results33, go_sem, q0, q1]) rfl ⟨_, _, _, _, rfl, ip3.stored q0 q1 rfl rfl _ _, (hB.setCell (by simp) _).setCell (by simp) _⟩
set_option maxRecDepth 1000000 in
set_option maxHeartbeats 4000000 in
theorem rqint_t (gxn : Bool) (Axn : Option Addr) (nxn cxn : Nat) (gxd : Bool) (Axd : Option Addr) (nxd cxd : Nat) {k : Nat} {a : Rat} (w : World) (ha : IsRat w gxn Axn nxn cxn gxd Axd nxd cxd a) (sa : RSz k a) (h1 : a.den = 1) :
    Calls Tryz.prog 35 #[.agg #[.bool gxn, .slice Axn nxn cxn, .bool gxd, .slice Axd nxd cxd]] w fun e w' => e = .returned (.bool true) ∧ Below w.heap.size w w' := by
  have B0 := (Below.refl w.heap.size w).alloc (Nat.le_refl _) (.cells #[.bool gxn, .slice Axn nxn cxn, .bool gxd, .slice Axd nxd cxd] 28)
  have X0 := Slot4.new w (.bool gxn) (.slice Axn nxn cxn) (.bool gxd) (.slice Axd nxd cxd) 28
  have Ixd := ha.den.below B0
  clear ha
  have HC : Hid (cmpN (a.den : Int) 1 = 0) := by rw [h1]; exact cmpN_eq 1
  clear h1
  go_enter Tryz.func35, Tryz.ntmps35
  go_upto_region 1 with (fail)
  generalize w.alloc (.cells #[.bool gxn, .slice Axn nxn cxn, .bool gxd, .slice Axd nxd cxd] 28) = W0 at *
  have HS : Hid (∀ V, Below W0.heap.size W0 V → (V.cell? ⟨w.heap.size, 0, none⟩ = some (.bool gxn) ∧ V.cell? ⟨w.heap.size, 1, none⟩ = some (.slice Axn nxn cxn) ∧ V.cell? ⟨w.heap.size, 2, none⟩ = some (.bool gxd) ∧ V.cell? ⟨w.heap.size, 3, none⟩ = some (.slice Axd nxd cxd))) := fun V hV => (X0.after hV).cells
  have Dp0 : Below W0.heap.size W0 W0.drew := (Below.refl _ _).drew
  refine wp_region_seq (.pre [(0, true), (1, true), (2, false), (3, false), (4, true), (5, true)] .done) (fun W => (W.cell? ⟨w.heap.size, 0, none⟩ = some (.bool gxn) ∧ W.cell? ⟨w.heap.size, 1, none⟩ = some (.slice Axn nxn cxn) ∧ W.cell? ⟨w.heap.size, 2, none⟩ = some (.bool gxd) ∧ W.cell? ⟨w.heap.size, 3, none⟩ = some (.slice Axd nxd cxd))) (by kernel_rfl) (by kernel_rfl) ?_ (by kernel_rfl) (HS.out _ Dp0) ?_
  · refine chk_pre _ _ _ (by as_aux_lemma => kernel_rfl) ?_
    exact (by as_aux_lemma => kernel_rfl)
  refine seq_take _ ?_ rfl (Or.inl ⟨by rfl, ?_⟩) ?_
  rotate_left
  · (intro w hSw; (try dsimp only at hSw); go_simp; (try with_reducible rfl))
  try simp only [Act.put, List.setIfInBounds_toArray, List.set_cons_zero, List.set_cons_succ]
  refine seq_take _ ?_ rfl (Or.inl ⟨by rfl, ?_⟩) ?_
  rotate_left
  · (intro w hSw; (try dsimp only at hSw); go_simp; (try with_reducible rfl))
  try simp only [Act.put, List.setIfInBounds_toArray, List.set_cons_zero, List.set_cons_succ]
  refine seq_one _ rfl fun K hK => ?_
  go_simp
  (with_reducible refine (rof_any 1 _ (by decide) (by decide)).mono ?_)
  rintro e vp1 ⟨gp1, Ap1, np1, cp1, rfl, ip1, bp1⟩
  have Dp1 : Below W0.heap.size W0 vp1 := Below.trans Dp0 (bp1.mono (Below.size Dp0))
  go_wp2_with fail
  refine hK.out _ _ (HS.out _ Dp1) (fun hHeld => ?_)
  clear hK K hHeld
  try simp only [Act.put, List.setIfInBounds_toArray, List.set_cons_zero, List.set_cons_succ]
  refine seq_one _ rfl fun K hK => ?_
  go_simp
  (with_reducible refine (rcmp_z gxd gp1 Axd Ap1 nxd cxd np1 cp1 _ 0 (Ixd.below Dp1) ip1 sa.den (Sz.of (by decide) (by decide) : Sz 1 1) HC.out).mono ?_)
  rintro e vp2 ⟨rfl, bp2⟩
  have Dp2 : Below W0.heap.size W0 vp2 := Below.trans Dp1 (bp2.mono (Below.size Dp1))
  go_wp2_with fail
  refine hK.out _ _ (HS.out _ Dp2) (fun hHeld => ?_)
  clear hK K hHeld
  try simp only [Act.put, List.setIfInBounds_toArray, List.set_cons_zero, List.set_cons_succ]
  refine seq_take _ ?_ rfl (Or.inl ⟨by rfl, ?_⟩) ?_
  rotate_left
  · (intro w hSw; (try dsimp only at hSw); go_simp; (try with_reducible rfl))
  try simp only [Act.put, List.setIfInBounds_toArray, List.set_cons_zero, List.set_cons_succ]
  refine seq_take _ ?_ rfl (Or.inl ⟨by rfl, ?_⟩) ?_
  rotate_left
  · (intro w hSw; (try dsimp only at hSw); go_simp; (try with_reducible rfl))
  try simp only [Act.put, List.setIfInBounds_toArray, List.set_cons_zero, List.set_cons_succ]
  refine NoPanic.normal ?_
  go_wp2_with fail
  go_ret
  exact ⟨rfl, B0.trans (Dp2.mono B0.size)⟩
set_option maxRecDepth 1000000 in
set_option maxHeartbeats 4000000 in
theorem rqint_f (gxn : Bool) (Axn : Option Addr) (nxn cxn : Nat) (gxd : Bool) (Axd : Option Addr) (nxd cxd : Nat) {k : Nat} {a : Rat} (w : World) (ha : IsRat w gxn Axn nxn cxn gxd Axd nxd cxd a) (sa : RSz k a) (h1 : a.den ≠ 1) :
    Calls Tryz.prog 35 #[.agg #[.bool gxn, .slice Axn nxn cxn, .bool gxd, .slice Axd nxd cxd]] w fun e w' => e = .returned (.bool false) ∧ Below w.heap.size w w' := by
  have B0 := (Below.refl w.heap.size w).alloc (Nat.le_refl _) (.cells #[.bool gxn, .slice Axn nxn cxn, .bool gxd, .slice Axd nxd cxd] 28)
  have X0 := Slot4.new w (.bool gxn) (.slice Axn nxn cxn) (.bool gxd) (.slice Axd nxd cxd) 28
  have Ixd := ha.den.below B0
  clear ha
  obtain ⟨s, hs⟩ : ∃ s, cmpN (a.den : Int) 1 = s := ⟨_, rfl⟩
  have hs0 : (s == 0) = false := by
    rw [← hs]
    rcases Int.lt_trichotomy (a.den : Int) 1 with h | h | h
    · rw [cmpN_lt h]; rfl
    · exact absurd (by omega) h1
    · rw [cmpN_gt h]; rfl
  have HC := Lib.hid hs
  clear h1 hs
  go_enter Tryz.func35, Tryz.ntmps35
  go_upto_region 1 with (fail)
  generalize w.alloc (.cells #[.bool gxn, .slice Axn nxn cxn, .bool gxd, .slice Axd nxd cxd] 28) = W0 at *
  have HS : Hid (∀ V, Below W0.heap.size W0 V → (V.cell? ⟨w.heap.size, 0, none⟩ = some (.bool gxn) ∧ V.cell? ⟨w.heap.size, 1, none⟩ = some (.slice Axn nxn cxn) ∧ V.cell? ⟨w.heap.size, 2, none⟩ = some (.bool gxd) ∧ V.cell? ⟨w.heap.size, 3, none⟩ = some (.slice Axd nxd cxd))) := fun V hV => (X0.after hV).cells
  have Dp0 : Below W0.heap.size W0 W0.drew := (Below.refl _ _).drew
  refine wp_region_seq (.pre [(0, true), (1, true), (2, false), (3, false), (4, true), (5, true)] .done) (fun W => (W.cell? ⟨w.heap.size, 0, none⟩ = some (.bool gxn) ∧ W.cell? ⟨w.heap.size, 1, none⟩ = some (.slice Axn nxn cxn) ∧ W.cell? ⟨w.heap.size, 2, none⟩ = some (.bool gxd) ∧ W.cell? ⟨w.heap.size, 3, none⟩ = some (.slice Axd nxd cxd))) (by kernel_rfl) (by kernel_rfl) ?_ (by kernel_rfl) (HS.out _ Dp0) ?_
  · refine chk_pre _ _ _ (by as_aux_lemma => kernel_rfl) ?_
    exact (by as_aux_lemma => kernel_rfl)
  refine seq_take _ ?_ rfl (Or.inl ⟨by rfl, ?_⟩) ?_
  rotate_left
  · (intro w hSw; (try dsimp only at hSw); go_simp; (try with_reducible rfl))
  try simp only [Act.put, List.setIfInBounds_toArray, List.set_cons_zero, List.set_cons_succ]
  refine seq_take _ ?_ rfl (Or.inl ⟨by rfl, ?_⟩) ?_
  rotate_left
  · (intro w hSw; (try dsimp only at hSw); go_simp; (try with_reducible rfl))
  try simp only [Act.put, List.setIfInBounds_toArray, List.set_cons_zero, List.set_cons_succ]
  refine seq_one _ rfl fun K hK => ?_
  go_simp
  (with_reducible refine (rof_any 1 _ (by decide) (by decide)).mono ?_)
  rintro e vp1 ⟨gp1, Ap1, np1, cp1, rfl, ip1, bp1⟩
  have Dp1 : Below W0.heap.size W0 vp1 := Below.trans Dp0 (bp1.mono (Below.size Dp0))
  go_wp2_with fail
  refine hK.out _ _ (HS.out _ Dp1) (fun hHeld => ?_)
  clear hK K hHeld
  try simp only [Act.put, List.setIfInBounds_toArray, List.set_cons_zero, List.set_cons_succ]
  refine seq_one _ rfl fun K hK => ?_
  go_simp
  (with_reducible refine (rcmp_z gxd gp1 Axd Ap1 nxd cxd np1 cp1 _ s (Ixd.below Dp1) ip1 sa.den (Sz.of (by decide) (by decide) : Sz 1 1) HC.out).mono ?_)
  rintro e vp2 ⟨rfl, bp2⟩
  have Dp2 : Below W0.heap.size W0 vp2 := Below.trans Dp1 (bp2.mono (Below.size Dp1))
  go_wp2_with fail
  refine hK.out _ _ (HS.out _ Dp2) (fun hHeld => ?_)
  clear hK K hHeld
  try simp only [Act.put, List.setIfInBounds_toArray, List.set_cons_zero, List.set_cons_succ]
  refine seq_take _ ?_ rfl (Or.inl ⟨by rfl, ?_⟩) ?_
  rotate_left
  · (intro w hSw; (try dsimp only at hSw); go_simp; (try with_reducible rfl))
  try simp only [Act.put, List.setIfInBounds_toArray, List.set_cons_zero, List.set_cons_succ]
  refine seq_take _ ?_ rfl (Or.inl ⟨by rfl, ?_⟩) ?_
  rotate_left
  · (intro w hSw; (try dsimp only at hSw); go_simp; (try with_reducible rfl))
  try simp only [Act.put, List.setIfInBounds_toArray, List.set_cons_zero, List.set_cons_succ]
  refine NoPanic.normal ?_
  go_wp2_with fail
  go_ret
  exact ⟨rfl, B0.trans (Dp2.mono B0.size)⟩
set_option maxRecDepth 1000000 in
set_option maxHeartbeats 4000000 in
theorem rqtext_z (gxn : Bool) (Axn : Option Addr) (nxn cxn : Nat) (gxd : Bool) (Axd : Option Addr) (nxd cxd : Nat) {k : Nat} {a : Rat} (w : World) (t : ByteArray) (ha : IsRat w gxn Axn nxn cxn gxd Axd nxd cxd a) (sa : RSz k a) (hk : k ≤ 12) (ht : rtxt a = t) :
    Calls Tryz.prog 41 #[.agg #[.bool gxn, .slice Axn nxn cxn, .bool gxd, .slice Axd nxd cxd]] w fun e w' => e = .returned (.string t) ∧ Below w.heap.size w w' := by
  have B0 := (Below.refl w.heap.size w).alloc (Nat.le_refl _) (.cells #[.bool gxn, .slice Axn nxn cxn, .bool gxd, .slice Axd nxd cxd] 28)
  have X0 := Slot4.new w (.bool gxn) (.slice Axn nxn cxn) (.bool gxd) (.slice Axd nxd cxd) 28
  have Ix := ha.below B0
  clear ha
  have ⟨x0, x1, x2, x3, _⟩ := X0
  by_cases hd : a.den = 1
  · rw [rtxt_one hd] at ht
    subst ht
    go_enter Tryz.func41, Tryz.ntmps41
    go_wp2_with fail
    (with_reducible refine (rqint_t gxn Axn nxn cxn gxd Axd nxd cxd _ Ix sa hd).mono ?_)
    rintro e w1 ⟨rfl, b1⟩
    have X1 := X0.after b1
    have B1 := B0.trans (b1.mono B0.size)
    have J := Ix.below b1
    clear x0 x1 x2 x3 X0 B0 Ix b1
    have ⟨y0, y1, y2, y3, _⟩ := X1
    go_wp2_with fail
    (with_reducible refine (rtext_z gxn Axn nxn cxn _ J.num sa.num (by omega)).mono ?_)
    rintro e w2 ⟨rfl, b2⟩
    go_wp2
    go_ret
    exact ⟨rfl, B1.trans (b2.mono B1.size)⟩
  · rw [rtxt_more hd] at ht
    have HT := Lib.hid ht
    go_enter Tryz.func41, Tryz.ntmps41
    go_wp2_with fail
    (with_reducible refine (rqint_f gxn Axn nxn cxn gxd Axd nxd cxd _ Ix sa hd).mono ?_)
    rintro e w1 ⟨rfl, b1⟩
    have X1 := X0.after b1
    have B1 := B0.trans (b1.mono B0.size)
    have J := Ix.below b1
    clear x0 x1 x2 x3 X0 B0 Ix b1 ht hd
    have hz1 := txt_size sa.num hk
    have hz2 := txt_size sa.den hk
    have a1 : ∀ W : World, (Op.stringOp .add (txt a.num) ⟨#[47]⟩).run Tryz.prog W = .ok (.string (txt a.num ++ ⟨#[47]⟩)) W := fun W => run_string_add_sum W _ _ (by have : (ByteArray.mk #[47]).size = 1 := rfl; omega)
    have a2 : ∀ W : World, (Op.stringOp .add (txt a.num ++ ⟨#[47]⟩) (txt (a.den : Int))).run Tryz.prog W = .ok (.string (txt a.num ++ ⟨#[47]⟩ ++ txt (a.den : Int))) W := fun W => run_string_add_sum W _ _ (by rw [ByteArray.size_append]; have : (ByteArray.mk #[47]).size = 1 := rfl; omega)
    clear hz1 hz2
    go_upto_region 3 with (fail)
    have HS : Hid (∀ V, Below w1.heap.size w1 V → (V.cell? ⟨w.heap.size, 0, none⟩ = some (.bool gxn) ∧ V.cell? ⟨w.heap.size, 1, none⟩ = some (.slice Axn nxn cxn) ∧ V.cell? ⟨w.heap.size, 2, none⟩ = some (.bool gxd) ∧ V.cell? ⟨w.heap.size, 3, none⟩ = some (.slice Axd nxd cxd))) := fun V hV => (X1.after hV).cells
    have Dp0 : Below w1.heap.size w1 w1.drew := (Below.refl _ _).drew
    refine wp_region_seq (.pre [(0, true), (1, true), (4, true), (5, true), (2, false), (3, true), (6, false), (7, true), (8, true)] .done) (fun W => (W.cell? ⟨w.heap.size, 0, none⟩ = some (.bool gxn) ∧ W.cell? ⟨w.heap.size, 1, none⟩ = some (.slice Axn nxn cxn) ∧ W.cell? ⟨w.heap.size, 2, none⟩ = some (.bool gxd) ∧ W.cell? ⟨w.heap.size, 3, none⟩ = some (.slice Axd nxd cxd))) (by kernel_rfl) (by kernel_rfl) ?_ (by kernel_rfl) (HS.out _ Dp0) ?_
    · refine chk_pre _ _ _ (by as_aux_lemma => kernel_rfl) ?_
      exact (by as_aux_lemma => kernel_rfl)
    refine seq_take _ ?_ rfl (Or.inl ⟨by rfl, ?_⟩) ?_
    rotate_left
    · (intro w hSw; (try dsimp only at hSw); go_simp; (try with_reducible rfl))
    try simp only [Act.put, List.setIfInBounds_toArray, List.set_cons_zero, List.set_cons_succ]
    refine seq_take _ ?_ rfl (Or.inl ⟨by rfl, ?_⟩) ?_
    rotate_left
    · (intro w hSw; (try dsimp only at hSw); go_simp; (try with_reducible rfl))
    try simp only [Act.put, List.setIfInBounds_toArray, List.set_cons_zero, List.set_cons_succ]
    refine seq_take _ ?_ rfl (Or.inl ⟨by rfl, ?_⟩) ?_
    rotate_left
    · (intro w hSw; (try dsimp only at hSw); go_simp; (try with_reducible rfl))
    try simp only [Act.put, List.setIfInBounds_toArray, List.set_cons_zero, List.set_cons_succ]
    refine seq_take _ ?_ rfl (Or.inl ⟨by rfl, ?_⟩) ?_
    rotate_left
    · (intro w hSw; (try dsimp only at hSw); go_simp; (try with_reducible rfl))
    try simp only [Act.put, List.setIfInBounds_toArray, List.set_cons_zero, List.set_cons_succ]
    refine seq_one _ rfl fun K hK => ?_
    go_simp
    (with_reducible refine (rtext_z gxn Axn nxn cxn _ (J.num.below Dp0) sa.num (by omega)).mono ?_)
    rintro e vp1 ⟨rfl, bp1⟩
    have Dp1 : Below w1.heap.size w1 vp1 := Below.trans Dp0 (bp1.mono (Below.size Dp0))
    go_wp2_with fail
    refine hK.out _ _ (HS.out _ Dp1) (fun hHeld => ?_)
    clear hK K hHeld
    try simp only [Act.put, List.setIfInBounds_toArray, List.set_cons_zero, List.set_cons_succ]
    refine seq_take _ ?_ rfl (Or.inl ⟨by rfl, ?_⟩) ?_
    rotate_left
    · (intro w hSw; (try dsimp only at hSw); go_simp; (try with_reducible rfl))
    try simp only [Act.put, List.setIfInBounds_toArray, List.set_cons_zero, List.set_cons_succ]
    refine seq_one _ rfl fun K hK => ?_
    go_simp
    (with_reducible refine (rtext_z gxd Axd nxd cxd _ (J.den.below Dp1) sa.den (by omega)).mono ?_)
    rintro e vp2 ⟨rfl, bp2⟩
    have Dp2 : Below w1.heap.size w1 vp2 := Below.trans Dp1 (bp2.mono (Below.size Dp1))
    go_wp2_with fail
    refine hK.out _ _ (HS.out _ Dp2) (fun hHeld => ?_)
    clear hK K hHeld
    try simp only [Act.put, List.setIfInBounds_toArray, List.set_cons_zero, List.set_cons_succ]
    refine seq_take _ ?_ rfl (Or.inl ⟨by rfl, ?_⟩) ?_
    rotate_left
    · (intro w hSw; (try dsimp only at hSw); go_simp; (try with_reducible rfl))
    try simp only [Act.put, List.setIfInBounds_toArray, List.set_cons_zero, List.set_cons_succ]
    refine seq_take _ ?_ rfl (Or.inl ⟨by rfl, ?_⟩) ?_
    rotate_left
    · (intro w hSw; (try dsimp only at hSw); go_simp; (try with_reducible rfl))
    try simp only [Act.put, List.setIfInBounds_toArray, List.set_cons_zero, List.set_cons_succ]
    refine NoPanic.normal ?_
    go_wp2_with fail
    go_ret
    exact ⟨by rw [← HT.out]; first | rfl | simp, B1.trans (Dp2.mono B1.size)⟩
set_option maxRecDepth 1000000 in
set_option maxHeartbeats 4000000 in
theorem rqsame_zero (w : World) : Calls Tryz.prog 16 #[.agg #[.bool false, .slice none 0 0, .bool false, .slice none 0 0], .agg #[.bool false, .slice none 0 0, .bool false, .slice none 0 0]] w fun e w' => e = .returned (.bool true) ∧ Below w.heap.size w w' := by
  obtain ⟨B0, X0, Y0⟩ := frameQ2p w (.bool false) (.slice none 0 0) (.bool false) (.slice none 0 0) (.bool false) (.slice none 0 0) (.bool false) (.slice none 0 0) 28 28
  have ⟨x0, x1, x2, x3, _⟩ := X0
  have ⟨y0, y1, y2, y3, _⟩ := Y0
  go_enter Tryz.func16, Tryz.ntmps16
  go_wp2_with fail
  (with_reducible refine (same_z false false none none 0 0 0 0 _ (isInt_zero' _) (isInt_zero' _) rfl).mono ?_)
  rintro e w1 ⟨rfl, b1⟩
  have ⟨x0', x1', x2', x3', _⟩ := X0.after b1
  have ⟨y0', y1', y2', y3', _⟩ := Y0.after b1
  have B1 := B0.trans (b1.mono B0.size)
  clear x0 x1 x2 x3 y0 y1 y2 y3
  go_wp2_with fail
  (with_reducible refine (same_z false false none none 0 0 0 0 _ (isInt_zero' _) (isInt_zero' _) rfl).mono ?_)
  rintro e w2 ⟨rfl, b2⟩
  go_wp2
  go_ret
  exact ⟨rfl, B1.trans (b2.mono B1.size)⟩
theorem validV_int {w : World} {neg : Bool} {A : Option Addr} {n c : Nat} {xs : List Nat} (hv : validV neg xs = true) (h : Lim w w.heap.size A n c xs) : IsInt w neg A n c (zOf neg (val xs)) := by
  by_cases h0 : xs.length = 0
  · unfold validV at hv
    rw [if_pos h0] at hv
    have hn : neg = false := by simpa using hv
    have hx : xs = [] := List.length_eq_zero_iff.1 h0
    subst hn hx
    exact ⟨rfl, by rw [zOf_natAbs]; have e : digs (val []) = [] := digs_zero; rw [e]; exact h⟩
  · unfold validV at hv
    rw [if_neg h0] at hv
    have hl : xs.getD (xs.length - 1) 0 ≠ 0 := by simpa using hv
    have hd : digs (val xs) = xs := digs_val h.lt (fun hne => by
      rw [List.getLast_eq_getElem]
      rw [List.getD_eq_getElem?_getD, List.getElem?_eq_getElem (by omega)] at hl
      simpa using hl)
    refine ⟨?_, by rw [zOf_natAbs, hd]; exact h⟩
    rw [zOf_neg]
    have : 0 < val xs := by
      rcases Nat.eq_zero_or_pos (val xs) with h2 | h2
      · rw [h2, digs_zero] at hd; rw [← hd] at h0; exact absurd rfl h0
      · exact h2
    simp [this]
/-- The verdict on any value. -/
def vrat (gn : Bool) (xs : List Nat) (gd : Bool) (ys : List Nat) : Bool := validV gn xs && validV gd ys && decide (0 < zOf gd (val ys)) && decide (Nat.gcd (zOf gn (val xs)).natAbs (zOf gd (val ys)).natAbs = 1)
set_option maxHeartbeats 1000000 in
theorem rvalid_any (neg : Bool) (A : Option Addr) (n c : Nat) (xs : List Nat) (v : Bool) (w : World) (hv : validV neg xs = v) (ha : Lim w w.heap.size A n c xs) :
    Calls Tryz.prog 44 #[.agg #[.bool neg, .slice A n c]] w fun e w' => e = .returned (.bool v) ∧ Below w.heap.size w w' := by
  have HB := (Below.refl w.heap.size w).alloc (Nat.le_refl _) (.cells #[.bool neg, .slice A n c] 26)
  obtain ⟨k0, k1, _, _, _⟩ := Slot2.new w (.bool neg) (.slice A n c) 26
  rcases Nat.eq_zero_or_pos n with h0 | h0
  · have hn : v = !neg := by rw [← hv]; unfold validV; rw [if_pos (by rw [ha.len]; exact h0)]
    subst h0 hn
    clear hv
    go_enter Tryz.func44, Tryz.ntmps44
    go_wp2
    go_ret
    exact ⟨rfl, HB⟩
  · obtain ⟨ad, rfl, _, x, hx, hxl, hcx⟩ := (ha.below HB).at_ (k := n - 1) (by omega)
    have hxv : v = decide (x ≠ 0) := by rw [← hv]; unfold validV; rw [if_neg (by rw [ha.len]; omega), ha.len, hx.out]
    have b1 : ((n : Int) == 0) = false := by simp; omega
    have hnl := ha.cap
    have i1 : IntKind.i64.wrap ((n : Int) - 1) = (n : Int) - 1 := by rw [IntKind.wrap_i64]; omega
    rcases Nat.eq_zero_or_pos x with hx0 | hx0
    · subst hx0
      have hv0 : v = false := by rw [hxv]; rfl
      subst hv0
      clear ha hx hv hxv
      go_enter Tryz.func44, Tryz.ntmps44
      go_wp2
      go_ret
      exact ⟨rfl, HB⟩
    · have b2 : ((x : Int) != 0) = true := by simp; omega
      have hv0 : v = true := by rw [hxv]; exact decide_eq_true (by omega)
      subst hv0
      clear ha hx hv hxv
      go_enter Tryz.func44, Tryz.ntmps44
      go_wp2
      go_ret
      exact ⟨retB (by simp), HB⟩

set_option maxRecDepth 1000000 in
set_option maxHeartbeats 4000000 in
theorem qvalid_any_a (gxn : Bool) (Axn : Option Addr) (nxn cxn : Nat) (gxd : Bool) (Axd : Option Addr) (nxd cxd : Nat) {xs ys : List Nat} (w : World) (hx : Lim w w.heap.size Axn nxn cxn xs) (hy : Lim w w.heap.size Axd nxd cxd ys) (_sx : nxn ≤ 4) (_sy : nxd ≤ 4) (h1 : validV gxn xs = false) :
    Calls Tryz.prog 17 #[.agg #[.bool gxn, .slice Axn nxn cxn, .bool gxd, .slice Axd nxd cxd]] w fun e w' => e = .returned (.bool false) ∧ Below w.heap.size w w' := by
  have B := (Below.refl w.heap.size w).alloc (Nat.le_refl _) (.cells #[.bool gxn, .slice Axn nxn cxn, .bool gxd, .slice Axd nxd cxd] 28)
  have X0 := Slot4.new w (.bool gxn) (.slice Axn nxn cxn) (.bool gxd) (.slice Axd nxd cxd) 28
  have Lxn : Hid (∀ W, Below w.heap.size w W → Lim W w.heap.size Axn nxn cxn xs) := fun W hW => hx.below hW
  have Lxd : Hid (∀ W, Below w.heap.size w W → Lim W w.heap.size Axd nxd cxd ys) := fun W hW => hy.below hW
  have Hxn := Lib.hid h1
  clear hx hy
  go_enter Tryz.func17, Tryz.ntmps17
  have ⟨X0c0, X0c1, X0c2, X0c3, _⟩ := X0
  go_wp2_with fail
  (with_reducible refine (valid_lit gxn Axn nxn cxn _ false _ Hxn.out (Lxn.out _ B) (Nat.le_trans B.size (Nat.le_refl _))).mono ?_)
  rintro e w1 ⟨rfl, ba⟩
  clear X0c0 X0c1 X0c2 X0c3
  replace X0 := X0.after ba
  replace B := B.trans (ba.mono B.size)
  clear ba
  go_wp2
  go_ret
  exact ⟨rfl, B⟩
set_option maxRecDepth 1000000 in
set_option maxHeartbeats 4000000 in
theorem qvalid_any_b (gxn : Bool) (Axn : Option Addr) (nxn cxn : Nat) (gxd : Bool) (Axd : Option Addr) (nxd cxd : Nat) {xs ys : List Nat} (w : World) (hx : Lim w w.heap.size Axn nxn cxn xs) (hy : Lim w w.heap.size Axd nxd cxd ys) (_sx : nxn ≤ 4) (_sy : nxd ≤ 4) (h1 : validV gxn xs = true) (h2 : validV gxd ys = false) :
    Calls Tryz.prog 17 #[.agg #[.bool gxn, .slice Axn nxn cxn, .bool gxd, .slice Axd nxd cxd]] w fun e w' => e = .returned (.bool false) ∧ Below w.heap.size w w' := by
  have B := (Below.refl w.heap.size w).alloc (Nat.le_refl _) (.cells #[.bool gxn, .slice Axn nxn cxn, .bool gxd, .slice Axd nxd cxd] 28)
  have X0 := Slot4.new w (.bool gxn) (.slice Axn nxn cxn) (.bool gxd) (.slice Axd nxd cxd) 28
  have Lxn : Hid (∀ W, Below w.heap.size w W → Lim W w.heap.size Axn nxn cxn xs) := fun W hW => hx.below hW
  have Lxd : Hid (∀ W, Below w.heap.size w W → Lim W w.heap.size Axd nxd cxd ys) := fun W hW => hy.below hW
  have Hxn := Lib.hid h1
  have Hxd := Lib.hid h2
  clear hx hy
  go_enter Tryz.func17, Tryz.ntmps17
  have ⟨X0c0, X0c1, X0c2, X0c3, _⟩ := X0
  go_wp2_with fail
  (with_reducible refine (valid_lit gxn Axn nxn cxn _ true _ Hxn.out (Lxn.out _ B) (Nat.le_trans B.size (Nat.le_refl _))).mono ?_)
  rintro e w1 ⟨rfl, ba⟩
  clear X0c0 X0c1 X0c2 X0c3
  replace X0 := X0.after ba
  replace B := B.trans (ba.mono B.size)
  clear ba
  have ⟨X0c0, X0c1, X0c2, X0c3, _⟩ := X0
  go_wp2_with fail
  (with_reducible refine (valid_lit gxd Axd nxd cxd _ false _ Hxd.out (Lxd.out _ B) (Nat.le_trans B.size (Nat.le_refl _))).mono ?_)
  rintro e w2 ⟨rfl, bb⟩
  clear X0c0 X0c1 X0c2 X0c3
  replace X0 := X0.after bb
  replace B := B.trans (bb.mono B.size)
  clear bb
  go_wp2
  go_ret
  exact ⟨rfl, B⟩
set_option maxRecDepth 1000000 in
set_option maxHeartbeats 4000000 in
theorem qvalid_any_c (gxn : Bool) (Axn : Option Addr) (nxn cxn : Nat) (gxd : Bool) (Axd : Option Addr) (nxd cxd : Nat) {xs ys : List Nat} (w : World) (hx : Lim w w.heap.size Axn nxn cxn xs) (hy : Lim w w.heap.size Axd nxd cxd ys) (sx : nxn ≤ 4) (sy : nxd ≤ 4) (h1 : validV gxn xs = true) (h2 : validV gxd ys = true) (h3 : ¬ 0 < zOf gxd (val ys)) :
    Calls Tryz.prog 17 #[.agg #[.bool gxn, .slice Axn nxn cxn, .bool gxd, .slice Axd nxd cxd]] w fun e w' => e = .returned (.bool false) ∧ Below w.heap.size w w' := by
  have B := (Below.refl w.heap.size w).alloc (Nat.le_refl _) (.cells #[.bool gxn, .slice Axn nxn cxn, .bool gxd, .slice Axd nxd cxd] 28)
  have X0 := Slot4.new w (.bool gxn) (.slice Axn nxn cxn) (.bool gxd) (.slice Axd nxd cxd) 28
  have Lxn : Hid (∀ W, Below w.heap.size w W → Lim W w.heap.size Axn nxn cxn xs) := fun W hW => hx.below hW
  have Lxd : Hid (∀ W, Below w.heap.size w W → Lim W w.heap.size Axd nxd cxd ys) := fun W hW => hy.below hW
  have Hxn := Lib.hid h1
  have Hxd := Lib.hid h2
  have Zn : Sz 4 (zOf gxn (val xs)) := ⟨by decide, by rw [zOf_natAbs]; exact Nat.le_trans (digs_len_val hx.lt) (by rw [hx.len]; exact sx)⟩
  have Zd : Sz 4 (zOf gxd (val ys)) := ⟨by decide, by rw [zOf_natAbs]; exact Nat.le_trans (digs_len_val hy.lt) (by rw [hy.len]; exact sy)⟩
  have In := (validV_int h1 hx).below B
  have Id := (validV_int h2 hy).below B
  generalize zOf gxn (val xs) = n at *
  generalize zOf gxd (val ys) = d at *
  obtain ⟨s, hs⟩ : ∃ s, sgn d = s := ⟨_, rfl⟩
  have hs0 : ¬ 0 < s := by rw [← hs]; unfold sgn; rw [if_neg h3]; split <;> decide
  have HG := Lib.hid hs
  clear hs h3 h1 h2
  clear hx hy
  go_enter Tryz.func17, Tryz.ntmps17
  have ⟨X0c0, X0c1, X0c2, X0c3, _⟩ := X0
  go_wp2_with fail
  (with_reducible refine (valid_lit gxn Axn nxn cxn _ true _ Hxn.out (Lxn.out _ B) (Nat.le_trans B.size (Nat.le_refl _))).mono ?_)
  rintro e w1 ⟨rfl, ba⟩
  clear X0c0 X0c1 X0c2 X0c3
  replace X0 := X0.after ba
  replace In := In.below ba
  replace Id := Id.below ba
  replace B := B.trans (ba.mono B.size)
  clear ba
  have ⟨X0c0, X0c1, X0c2, X0c3, _⟩ := X0
  go_wp2_with fail
  (with_reducible refine (valid_lit gxd Axd nxd cxd _ true _ Hxd.out (Lxd.out _ B) (Nat.le_trans B.size (Nat.le_refl _))).mono ?_)
  rintro e w2 ⟨rfl, bb⟩
  clear X0c0 X0c1 X0c2 X0c3
  replace X0 := X0.after bb
  replace In := In.below bb
  replace Id := Id.below bb
  replace B := B.trans (bb.mono B.size)
  clear bb
  have ⟨X0c0, X0c1, X0c2, X0c3, _⟩ := X0
  go_wp2_with fail
  (with_reducible refine (sign_z gxd Axd nxd cxd _ s Id HG.out).mono ?_)
  rintro e w3 ⟨rfl, bc⟩
  clear X0c0 X0c1 X0c2 X0c3
  replace X0 := X0.after bc
  replace In := In.below bc
  replace Id := Id.below bc
  replace B := B.trans (bc.mono B.size)
  clear bc
  go_wp2
  go_ret
  exact ⟨rfl, B⟩
set_option maxRecDepth 1000000 in
set_option maxHeartbeats 4000000 in
theorem qvalid_any_d (gxn : Bool) (Axn : Option Addr) (nxn cxn : Nat) (gxd : Bool) (Axd : Option Addr) (nxd cxd : Nat) {xs ys : List Nat} (w : World) (hx : Lim w w.heap.size Axn nxn cxn xs) (hy : Lim w w.heap.size Axd nxd cxd ys) (sx : nxn ≤ 4) (sy : nxd ≤ 4) (h1 : validV gxn xs = true) (h2 : validV gxd ys = true) (h3 : 0 < zOf gxd (val ys)) (h4 : Nat.gcd (zOf gxn (val xs)).natAbs (zOf gxd (val ys)).natAbs = 1) :
    Calls Tryz.prog 17 #[.agg #[.bool gxn, .slice Axn nxn cxn, .bool gxd, .slice Axd nxd cxd]] w fun e w' => e = .returned (.bool true) ∧ Below w.heap.size w w' := by
  have B := (Below.refl w.heap.size w).alloc (Nat.le_refl _) (.cells #[.bool gxn, .slice Axn nxn cxn, .bool gxd, .slice Axd nxd cxd] 28)
  have X0 := Slot4.new w (.bool gxn) (.slice Axn nxn cxn) (.bool gxd) (.slice Axd nxd cxd) 28
  have Lxn : Hid (∀ W, Below w.heap.size w W → Lim W w.heap.size Axn nxn cxn xs) := fun W hW => hx.below hW
  have Lxd : Hid (∀ W, Below w.heap.size w W → Lim W w.heap.size Axd nxd cxd ys) := fun W hW => hy.below hW
  have Hxn := Lib.hid h1
  have Hxd := Lib.hid h2
  have Zn : Sz 4 (zOf gxn (val xs)) := ⟨by decide, by rw [zOf_natAbs]; exact Nat.le_trans (digs_len_val hx.lt) (by rw [hx.len]; exact sx)⟩
  have Zd : Sz 4 (zOf gxd (val ys)) := ⟨by decide, by rw [zOf_natAbs]; exact Nat.le_trans (digs_len_val hy.lt) (by rw [hy.len]; exact sy)⟩
  have In := (validV_int h1 hx).below B
  have Id := (validV_int h2 hy).below B
  generalize zOf gxn (val xs) = n at *
  generalize zOf gxd (val ys) = d at *
  have HG : Hid (sgn d = 1) := by show sgn d = 1; unfold sgn; rw [if_neg (by omega), if_pos h3]
  obtain ⟨g, hgg⟩ : ∃ g : Int, ((Nat.gcd n.natAbs d.natAbs : Nat) : Int) = g := ⟨_, rfl⟩
  have HGG := Lib.hid hgg
  have HV : Hid (g = 1) := by show g = 1; omega
  clear hgg h3 h4 h1 h2
  clear hx hy
  go_enter Tryz.func17, Tryz.ntmps17
  have ⟨X0c0, X0c1, X0c2, X0c3, _⟩ := X0
  go_wp2_with fail
  (with_reducible refine (valid_lit gxn Axn nxn cxn _ true _ Hxn.out (Lxn.out _ B) (Nat.le_trans B.size (Nat.le_refl _))).mono ?_)
  rintro e w1 ⟨rfl, ba⟩
  clear X0c0 X0c1 X0c2 X0c3
  replace X0 := X0.after ba
  replace In := In.below ba
  replace Id := Id.below ba
  replace B := B.trans (ba.mono B.size)
  clear ba
  have ⟨X0c0, X0c1, X0c2, X0c3, _⟩ := X0
  go_wp2_with fail
  (with_reducible refine (valid_lit gxd Axd nxd cxd _ true _ Hxd.out (Lxd.out _ B) (Nat.le_trans B.size (Nat.le_refl _))).mono ?_)
  rintro e w2 ⟨rfl, bb⟩
  clear X0c0 X0c1 X0c2 X0c3
  replace X0 := X0.after bb
  replace In := In.below bb
  replace Id := Id.below bb
  replace B := B.trans (bb.mono B.size)
  clear bb
  have ⟨X0c0, X0c1, X0c2, X0c3, _⟩ := X0
  go_wp2_with fail
  (with_reducible refine (sign_z gxd Axd nxd cxd _ 1 Id HG.out).mono ?_)
  rintro e w3 ⟨rfl, bc⟩
  clear X0c0 X0c1 X0c2 X0c3
  replace X0 := X0.after bc
  replace In := In.below bc
  replace Id := Id.below bc
  replace B := B.trans (bc.mono B.size)
  clear bc
  have ⟨X0c0, X0c1, X0c2, X0c3, _⟩ := X0
  go_wp2_with fail
  (with_reducible refine (gcd_z gxn gxd Axn Axd nxn cxn nxd cxd _ In Id Zn Zd).mono ?_)
  rintro e w4 ⟨gg, Ag, ng, cg, rfl, ig, bg⟩
  clear X0c0 X0c1 X0c2 X0c3
  replace X0 := X0.after bg
  replace In := In.below bg
  replace Id := Id.below bg
  replace B := B.trans (bg.mono B.size)
  clear bg
  rw [HGG.out] at ig
  go_wp2_with fail
  (with_reducible refine (qone_t gg Ag ng cg _ ig HV.out).mono ?_)
  rintro e w5 ⟨rfl, bv⟩
  replace X0 := X0.after bv
  replace In := In.below bv
  replace Id := Id.below bv
  replace ig := ig.below bv
  replace B := B.trans (bv.mono B.size)
  clear bv
  go_wp2
  go_ret
  exact ⟨rfl, B⟩
set_option maxRecDepth 1000000 in
set_option maxHeartbeats 4000000 in
theorem qvalid_any_e (gxn : Bool) (Axn : Option Addr) (nxn cxn : Nat) (gxd : Bool) (Axd : Option Addr) (nxd cxd : Nat) {xs ys : List Nat} (w : World) (hx : Lim w w.heap.size Axn nxn cxn xs) (hy : Lim w w.heap.size Axd nxd cxd ys) (sx : nxn ≤ 4) (sy : nxd ≤ 4) (h1 : validV gxn xs = true) (h2 : validV gxd ys = true) (h3 : 0 < zOf gxd (val ys)) (h4 : Nat.gcd (zOf gxn (val xs)).natAbs (zOf gxd (val ys)).natAbs ≠ 1) :
    Calls Tryz.prog 17 #[.agg #[.bool gxn, .slice Axn nxn cxn, .bool gxd, .slice Axd nxd cxd]] w fun e w' => e = .returned (.bool false) ∧ Below w.heap.size w w' := by
  have B := (Below.refl w.heap.size w).alloc (Nat.le_refl _) (.cells #[.bool gxn, .slice Axn nxn cxn, .bool gxd, .slice Axd nxd cxd] 28)
  have X0 := Slot4.new w (.bool gxn) (.slice Axn nxn cxn) (.bool gxd) (.slice Axd nxd cxd) 28
  have Lxn : Hid (∀ W, Below w.heap.size w W → Lim W w.heap.size Axn nxn cxn xs) := fun W hW => hx.below hW
  have Lxd : Hid (∀ W, Below w.heap.size w W → Lim W w.heap.size Axd nxd cxd ys) := fun W hW => hy.below hW
  have Hxn := Lib.hid h1
  have Hxd := Lib.hid h2
  have Zn : Sz 4 (zOf gxn (val xs)) := ⟨by decide, by rw [zOf_natAbs]; exact Nat.le_trans (digs_len_val hx.lt) (by rw [hx.len]; exact sx)⟩
  have Zd : Sz 4 (zOf gxd (val ys)) := ⟨by decide, by rw [zOf_natAbs]; exact Nat.le_trans (digs_len_val hy.lt) (by rw [hy.len]; exact sy)⟩
  have In := (validV_int h1 hx).below B
  have Id := (validV_int h2 hy).below B
  generalize zOf gxn (val xs) = n at *
  generalize zOf gxd (val ys) = d at *
  have HG : Hid (sgn d = 1) := by show sgn d = 1; unfold sgn; rw [if_neg (by omega), if_pos h3]
  obtain ⟨g, hgg⟩ : ∃ g : Int, ((Nat.gcd n.natAbs d.natAbs : Nat) : Int) = g := ⟨_, rfl⟩
  have HGG := Lib.hid hgg
  have HV : Hid (g ≠ 1) := by show g ≠ 1; omega
  clear hgg h3 h4 h1 h2
  clear hx hy
  go_enter Tryz.func17, Tryz.ntmps17
  have ⟨X0c0, X0c1, X0c2, X0c3, _⟩ := X0
  go_wp2_with fail
  (with_reducible refine (valid_lit gxn Axn nxn cxn _ true _ Hxn.out (Lxn.out _ B) (Nat.le_trans B.size (Nat.le_refl _))).mono ?_)
  rintro e w1 ⟨rfl, ba⟩
  clear X0c0 X0c1 X0c2 X0c3
  replace X0 := X0.after ba
  replace In := In.below ba
  replace Id := Id.below ba
  replace B := B.trans (ba.mono B.size)
  clear ba
  have ⟨X0c0, X0c1, X0c2, X0c3, _⟩ := X0
  go_wp2_with fail
  (with_reducible refine (valid_lit gxd Axd nxd cxd _ true _ Hxd.out (Lxd.out _ B) (Nat.le_trans B.size (Nat.le_refl _))).mono ?_)
  rintro e w2 ⟨rfl, bb⟩
  clear X0c0 X0c1 X0c2 X0c3
  replace X0 := X0.after bb
  replace In := In.below bb
  replace Id := Id.below bb
  replace B := B.trans (bb.mono B.size)
  clear bb
  have ⟨X0c0, X0c1, X0c2, X0c3, _⟩ := X0
  go_wp2_with fail
  (with_reducible refine (sign_z gxd Axd nxd cxd _ 1 Id HG.out).mono ?_)
  rintro e w3 ⟨rfl, bc⟩
  clear X0c0 X0c1 X0c2 X0c3
  replace X0 := X0.after bc
  replace In := In.below bc
  replace Id := Id.below bc
  replace B := B.trans (bc.mono B.size)
  clear bc
  have ⟨X0c0, X0c1, X0c2, X0c3, _⟩ := X0
  go_wp2_with fail
  (with_reducible refine (gcd_z gxn gxd Axn Axd nxn cxn nxd cxd _ In Id Zn Zd).mono ?_)
  rintro e w4 ⟨gg, Ag, ng, cg, rfl, ig, bg⟩
  clear X0c0 X0c1 X0c2 X0c3
  replace X0 := X0.after bg
  replace In := In.below bg
  replace Id := Id.below bg
  replace B := B.trans (bg.mono B.size)
  clear bg
  rw [HGG.out] at ig
  go_wp2_with fail
  (with_reducible refine (qone_f gg Ag ng cg _ ig HV.out).mono ?_)
  rintro e w5 ⟨rfl, bv⟩
  replace X0 := X0.after bv
  replace In := In.below bv
  replace Id := Id.below bv
  replace ig := ig.below bv
  replace B := B.trans (bv.mono B.size)
  clear bv
  go_wp2
  go_ret
  exact ⟨rfl, B⟩
theorem qvalid_any (gxn : Bool) (Axn : Option Addr) (nxn cxn : Nat) (gxd : Bool) (Axd : Option Addr) (nxd cxd : Nat) {xs ys : List Nat} (w : World) (hx : Lim w w.heap.size Axn nxn cxn xs) (hy : Lim w w.heap.size Axd nxd cxd ys) (sx : nxn ≤ 4) (sy : nxd ≤ 4) (v : Bool) (hv : vrat gxn xs gxd ys = v) :
    Calls Tryz.prog 17 #[.agg #[.bool gxn, .slice Axn nxn cxn, .bool gxd, .slice Axd nxd cxd]] w fun e w' => e = .returned (.bool v) ∧ Below w.heap.size w w' := by
  subst hv
  unfold vrat
  cases h1 : validV gxn xs with
  | false => exact qvalid_any_a gxn Axn nxn cxn gxd Axd nxd cxd w hx hy sx sy h1
  | true =>
    cases h2 : validV gxd ys with
    | false => exact qvalid_any_b gxn Axn nxn cxn gxd Axd nxd cxd w hx hy sx sy h1 h2
    | true =>
      by_cases h3 : 0 < zOf gxd (val ys)
      · rw [decide_eq_true h3]
        by_cases h4 : Nat.gcd (zOf gxn (val xs)).natAbs (zOf gxd (val ys)).natAbs = 1
        · rw [decide_eq_true h4]; exact qvalid_any_d gxn Axn nxn cxn gxd Axd nxd cxd w hx hy sx sy h1 h2 h3 h4
        · rw [decide_eq_false h4]; exact qvalid_any_e gxn Axn nxn cxn gxd Axd nxd cxd w hx hy sx sy h1 h2 h3 h4
      · rw [decide_eq_false h3]; exact qvalid_any_c gxn Axn nxn cxn gxd Axd nxd cxd w hx hy sx sy h1 h2 h3
set_option maxRecDepth 1000000 in
set_option maxHeartbeats 4000000 in
theorem rqvalid_any_a (gxn : Bool) (Axn : Option Addr) (nxn cxn : Nat) (gxd : Bool) (Axd : Option Addr) (nxd cxd : Nat) {xs ys : List Nat} (w : World) (hx : Lim w w.heap.size Axn nxn cxn xs) (hy : Lim w w.heap.size Axd nxd cxd ys) (_sx : nxn ≤ 4) (_sy : nxd ≤ 4) (h1 : validV gxn xs = false) :
    Calls Tryz.prog 18 #[.agg #[.bool gxn, .slice Axn nxn cxn, .bool gxd, .slice Axd nxd cxd]] w fun e w' => e = .returned (.bool false) ∧ Below w.heap.size w w' := by
  have B := (Below.refl w.heap.size w).alloc (Nat.le_refl _) (.cells #[.bool gxn, .slice Axn nxn cxn, .bool gxd, .slice Axd nxd cxd] 28)
  have X0 := Slot4.new w (.bool gxn) (.slice Axn nxn cxn) (.bool gxd) (.slice Axd nxd cxd) 28
  have Lxn : Hid (∀ W, Below w.heap.size w W → Lim W w.heap.size Axn nxn cxn xs) := fun W hW => hx.below hW
  have Lxd : Hid (∀ W, Below w.heap.size w W → Lim W w.heap.size Axd nxd cxd ys) := fun W hW => hy.below hW
  have Hxn := Lib.hid h1
  clear hx hy
  go_enter Tryz.func18, Tryz.ntmps18
  have ⟨X0c0, X0c1, X0c2, X0c3, _⟩ := X0
  go_wp2_with fail
  (with_reducible refine (rvalid_any gxn Axn nxn cxn _ false _ Hxn.out ((Lxn.out _ B).more B.size)).mono ?_)
  rintro e w1 ⟨rfl, ba⟩
  clear X0c0 X0c1 X0c2 X0c3
  replace X0 := X0.after ba
  replace B := B.trans (ba.mono B.size)
  clear ba
  go_wp2
  go_ret
  exact ⟨rfl, B⟩
set_option maxRecDepth 1000000 in
set_option maxHeartbeats 4000000 in
theorem rqvalid_any_b (gxn : Bool) (Axn : Option Addr) (nxn cxn : Nat) (gxd : Bool) (Axd : Option Addr) (nxd cxd : Nat) {xs ys : List Nat} (w : World) (hx : Lim w w.heap.size Axn nxn cxn xs) (hy : Lim w w.heap.size Axd nxd cxd ys) (_sx : nxn ≤ 4) (_sy : nxd ≤ 4) (h1 : validV gxn xs = true) (h2 : validV gxd ys = false) :
    Calls Tryz.prog 18 #[.agg #[.bool gxn, .slice Axn nxn cxn, .bool gxd, .slice Axd nxd cxd]] w fun e w' => e = .returned (.bool false) ∧ Below w.heap.size w w' := by
  have B := (Below.refl w.heap.size w).alloc (Nat.le_refl _) (.cells #[.bool gxn, .slice Axn nxn cxn, .bool gxd, .slice Axd nxd cxd] 28)
  have X0 := Slot4.new w (.bool gxn) (.slice Axn nxn cxn) (.bool gxd) (.slice Axd nxd cxd) 28
  have Lxn : Hid (∀ W, Below w.heap.size w W → Lim W w.heap.size Axn nxn cxn xs) := fun W hW => hx.below hW
  have Lxd : Hid (∀ W, Below w.heap.size w W → Lim W w.heap.size Axd nxd cxd ys) := fun W hW => hy.below hW
  have Hxn := Lib.hid h1
  have Hxd := Lib.hid h2
  clear hx hy
  go_enter Tryz.func18, Tryz.ntmps18
  have ⟨X0c0, X0c1, X0c2, X0c3, _⟩ := X0
  go_wp2_with fail
  (with_reducible refine (rvalid_any gxn Axn nxn cxn _ true _ Hxn.out ((Lxn.out _ B).more B.size)).mono ?_)
  rintro e w1 ⟨rfl, ba⟩
  clear X0c0 X0c1 X0c2 X0c3
  replace X0 := X0.after ba
  replace B := B.trans (ba.mono B.size)
  clear ba
  have ⟨X0c0, X0c1, X0c2, X0c3, _⟩ := X0
  go_wp2_with fail
  (with_reducible refine (rvalid_any gxd Axd nxd cxd _ false _ Hxd.out ((Lxd.out _ B).more B.size)).mono ?_)
  rintro e w2 ⟨rfl, bb⟩
  clear X0c0 X0c1 X0c2 X0c3
  replace X0 := X0.after bb
  replace B := B.trans (bb.mono B.size)
  clear bb
  go_wp2
  go_ret
  exact ⟨rfl, B⟩
set_option maxRecDepth 1000000 in
set_option maxHeartbeats 4000000 in
theorem rqvalid_any_c (gxn : Bool) (Axn : Option Addr) (nxn cxn : Nat) (gxd : Bool) (Axd : Option Addr) (nxd cxd : Nat) {xs ys : List Nat} (w : World) (hx : Lim w w.heap.size Axn nxn cxn xs) (hy : Lim w w.heap.size Axd nxd cxd ys) (sx : nxn ≤ 4) (sy : nxd ≤ 4) (h1 : validV gxn xs = true) (h2 : validV gxd ys = true) (h3 : ¬ 0 < zOf gxd (val ys)) :
    Calls Tryz.prog 18 #[.agg #[.bool gxn, .slice Axn nxn cxn, .bool gxd, .slice Axd nxd cxd]] w fun e w' => e = .returned (.bool false) ∧ Below w.heap.size w w' := by
  have B := (Below.refl w.heap.size w).alloc (Nat.le_refl _) (.cells #[.bool gxn, .slice Axn nxn cxn, .bool gxd, .slice Axd nxd cxd] 28)
  have X0 := Slot4.new w (.bool gxn) (.slice Axn nxn cxn) (.bool gxd) (.slice Axd nxd cxd) 28
  have Lxn : Hid (∀ W, Below w.heap.size w W → Lim W w.heap.size Axn nxn cxn xs) := fun W hW => hx.below hW
  have Lxd : Hid (∀ W, Below w.heap.size w W → Lim W w.heap.size Axd nxd cxd ys) := fun W hW => hy.below hW
  have Hxn := Lib.hid h1
  have Hxd := Lib.hid h2
  have Zn : Sz 4 (zOf gxn (val xs)) := ⟨by decide, by rw [zOf_natAbs]; exact Nat.le_trans (digs_len_val hx.lt) (by rw [hx.len]; exact sx)⟩
  have Zd : Sz 4 (zOf gxd (val ys)) := ⟨by decide, by rw [zOf_natAbs]; exact Nat.le_trans (digs_len_val hy.lt) (by rw [hy.len]; exact sy)⟩
  have In := (validV_int h1 hx).below B
  have Id := (validV_int h2 hy).below B
  generalize zOf gxn (val xs) = n at *
  generalize zOf gxd (val ys) = d at *
  obtain ⟨s, hs⟩ : ∃ s, sgn d = s := ⟨_, rfl⟩
  have hs0 : s < 1 := by rw [← hs]; unfold sgn; rw [if_neg h3]; split <;> decide
  have HG := Lib.hid hs
  clear hs h3 h1 h2
  clear hx hy
  go_enter Tryz.func18, Tryz.ntmps18
  have ⟨X0c0, X0c1, X0c2, X0c3, _⟩ := X0
  go_wp2_with fail
  (with_reducible refine (rvalid_any gxn Axn nxn cxn _ true _ Hxn.out ((Lxn.out _ B).more B.size)).mono ?_)
  rintro e w1 ⟨rfl, ba⟩
  clear X0c0 X0c1 X0c2 X0c3
  replace X0 := X0.after ba
  replace In := In.below ba
  replace Id := Id.below ba
  replace B := B.trans (ba.mono B.size)
  clear ba
  have ⟨X0c0, X0c1, X0c2, X0c3, _⟩ := X0
  go_wp2_with fail
  (with_reducible refine (rvalid_any gxd Axd nxd cxd _ true _ Hxd.out ((Lxd.out _ B).more B.size)).mono ?_)
  rintro e w2 ⟨rfl, bb⟩
  clear X0c0 X0c1 X0c2 X0c3
  replace X0 := X0.after bb
  replace In := In.below bb
  replace Id := Id.below bb
  replace B := B.trans (bb.mono B.size)
  clear bb
  have ⟨X0c0, X0c1, X0c2, X0c3, _⟩ := X0
  go_wp2_with fail
  (with_reducible refine (rsign_z gxd Axd nxd cxd _ s Id HG.out).mono ?_)
  rintro e w3 ⟨rfl, bc⟩
  clear X0c0 X0c1 X0c2 X0c3
  replace X0 := X0.after bc
  replace In := In.below bc
  replace Id := Id.below bc
  replace B := B.trans (bc.mono B.size)
  clear bc
  go_wp2
  go_ret
  exact ⟨rfl, B⟩
set_option maxRecDepth 1000000 in
set_option maxHeartbeats 4000000 in
theorem rqvalid_any_d (gxn : Bool) (Axn : Option Addr) (nxn cxn : Nat) (gxd : Bool) (Axd : Option Addr) (nxd cxd : Nat) {xs ys : List Nat} (w : World) (hx : Lim w w.heap.size Axn nxn cxn xs) (hy : Lim w w.heap.size Axd nxd cxd ys) (sx : nxn ≤ 4) (sy : nxd ≤ 4) (h1 : validV gxn xs = true) (h2 : validV gxd ys = true) (h3 : 0 < zOf gxd (val ys)) (h4 : Nat.gcd (zOf gxn (val xs)).natAbs (zOf gxd (val ys)).natAbs = 1) :
    Calls Tryz.prog 18 #[.agg #[.bool gxn, .slice Axn nxn cxn, .bool gxd, .slice Axd nxd cxd]] w fun e w' => e = .returned (.bool true) ∧ Below w.heap.size w w' := by
  have B := (Below.refl w.heap.size w).alloc (Nat.le_refl _) (.cells #[.bool gxn, .slice Axn nxn cxn, .bool gxd, .slice Axd nxd cxd] 28)
  have X0 := Slot4.new w (.bool gxn) (.slice Axn nxn cxn) (.bool gxd) (.slice Axd nxd cxd) 28
  have Lxn : Hid (∀ W, Below w.heap.size w W → Lim W w.heap.size Axn nxn cxn xs) := fun W hW => hx.below hW
  have Lxd : Hid (∀ W, Below w.heap.size w W → Lim W w.heap.size Axd nxd cxd ys) := fun W hW => hy.below hW
  have Hxn := Lib.hid h1
  have Hxd := Lib.hid h2
  have Zn : Sz 4 (zOf gxn (val xs)) := ⟨by decide, by rw [zOf_natAbs]; exact Nat.le_trans (digs_len_val hx.lt) (by rw [hx.len]; exact sx)⟩
  have Zd : Sz 4 (zOf gxd (val ys)) := ⟨by decide, by rw [zOf_natAbs]; exact Nat.le_trans (digs_len_val hy.lt) (by rw [hy.len]; exact sy)⟩
  have In := (validV_int h1 hx).below B
  have Id := (validV_int h2 hy).below B
  generalize zOf gxn (val xs) = n at *
  generalize zOf gxd (val ys) = d at *
  have HG : Hid (sgn d = 1) := by show sgn d = 1; unfold sgn; rw [if_neg (by omega), if_pos h3]
  obtain ⟨g, hgg⟩ : ∃ g : Int, ((Nat.gcd n.natAbs d.natAbs : Nat) : Int) = g := ⟨_, rfl⟩
  have HGG := Lib.hid hgg
  have HV : Hid (g = 1) := by show g = 1; omega
  have Zg : Sz 4 g := by rw [← hgg]; exact Sz.of (by rw [Int.natAbs_natCast]; exact Nat.lt_of_le_of_lt (Nat.gcd_le_right _ (by omega)) Zd.lt) (by decide)
  have HC : Hid (cmpN g 1 = 0) := by rw [HV.out]; exact cmpN_eq 1
  clear hgg h3 h4 h1 h2
  clear hx hy
  go_enter Tryz.func18, Tryz.ntmps18
  have ⟨X0c0, X0c1, X0c2, X0c3, _⟩ := X0
  go_wp2_with fail
  (with_reducible refine (rvalid_any gxn Axn nxn cxn _ true _ Hxn.out ((Lxn.out _ B).more B.size)).mono ?_)
  rintro e w1 ⟨rfl, ba⟩
  clear X0c0 X0c1 X0c2 X0c3
  replace X0 := X0.after ba
  replace In := In.below ba
  replace Id := Id.below ba
  replace B := B.trans (ba.mono B.size)
  clear ba
  have ⟨X0c0, X0c1, X0c2, X0c3, _⟩ := X0
  go_wp2_with fail
  (with_reducible refine (rvalid_any gxd Axd nxd cxd _ true _ Hxd.out ((Lxd.out _ B).more B.size)).mono ?_)
  rintro e w2 ⟨rfl, bb⟩
  clear X0c0 X0c1 X0c2 X0c3
  replace X0 := X0.after bb
  replace In := In.below bb
  replace Id := Id.below bb
  replace B := B.trans (bb.mono B.size)
  clear bb
  have ⟨X0c0, X0c1, X0c2, X0c3, _⟩ := X0
  go_wp2_with fail
  (with_reducible refine (rsign_z gxd Axd nxd cxd _ 1 Id HG.out).mono ?_)
  rintro e w3 ⟨rfl, bc⟩
  clear X0c0 X0c1 X0c2 X0c3
  replace X0 := X0.after bc
  replace In := In.below bc
  replace Id := Id.below bc
  replace B := B.trans (bc.mono B.size)
  clear bc
  have ⟨X0c0, X0c1, X0c2, X0c3, _⟩ := X0
  go_wp2_with fail
  (with_reducible refine (rgcd_z gxn gxd Axn Axd nxn cxn nxd cxd _ In Id Zn Zd (by decide)).mono ?_)
  rintro e w4 ⟨gg, Ag, ng, cg, rfl, ig, bg⟩
  clear X0c0 X0c1 X0c2 X0c3
  replace X0 := X0.after bg
  replace In := In.below bg
  replace Id := Id.below bg
  replace B := B.trans (bg.mono B.size)
  clear bg
  rw [HGG.out] at ig
  go_wp2_with fail
  (with_reducible refine (rof_any 1 _ (by decide) (by decide)).mono ?_)
  rintro e w5 ⟨go, Ao, no, co, rfl, io, bo⟩
  replace X0 := X0.after bo
  replace In := In.below bo
  replace Id := Id.below bo
  replace ig := ig.below bo
  replace B := B.trans (bo.mono B.size)
  clear bo
  go_wp2_with fail
  (with_reducible refine (rcmp_z gg go Ag Ao ng cg no co _ 0 ig io Zg (Sz.of (by decide) (by decide) : Sz 1 1) HC.out).mono ?_)
  rintro e w6 ⟨rfl, bv⟩
  replace X0 := X0.after bv
  replace In := In.below bv
  replace Id := Id.below bv
  replace ig := ig.below bv
  replace io := io.below bv
  replace B := B.trans (bv.mono B.size)
  clear bv
  go_wp2
  go_ret
  exact ⟨rfl, B⟩
set_option maxRecDepth 1000000 in
set_option maxHeartbeats 4000000 in
theorem rqvalid_any_e (gxn : Bool) (Axn : Option Addr) (nxn cxn : Nat) (gxd : Bool) (Axd : Option Addr) (nxd cxd : Nat) {xs ys : List Nat} (w : World) (hx : Lim w w.heap.size Axn nxn cxn xs) (hy : Lim w w.heap.size Axd nxd cxd ys) (sx : nxn ≤ 4) (sy : nxd ≤ 4) (h1 : validV gxn xs = true) (h2 : validV gxd ys = true) (h3 : 0 < zOf gxd (val ys)) (h4 : Nat.gcd (zOf gxn (val xs)).natAbs (zOf gxd (val ys)).natAbs ≠ 1) :
    Calls Tryz.prog 18 #[.agg #[.bool gxn, .slice Axn nxn cxn, .bool gxd, .slice Axd nxd cxd]] w fun e w' => e = .returned (.bool false) ∧ Below w.heap.size w w' := by
  have B := (Below.refl w.heap.size w).alloc (Nat.le_refl _) (.cells #[.bool gxn, .slice Axn nxn cxn, .bool gxd, .slice Axd nxd cxd] 28)
  have X0 := Slot4.new w (.bool gxn) (.slice Axn nxn cxn) (.bool gxd) (.slice Axd nxd cxd) 28
  have Lxn : Hid (∀ W, Below w.heap.size w W → Lim W w.heap.size Axn nxn cxn xs) := fun W hW => hx.below hW
  have Lxd : Hid (∀ W, Below w.heap.size w W → Lim W w.heap.size Axd nxd cxd ys) := fun W hW => hy.below hW
  have Hxn := Lib.hid h1
  have Hxd := Lib.hid h2
  have Zn : Sz 4 (zOf gxn (val xs)) := ⟨by decide, by rw [zOf_natAbs]; exact Nat.le_trans (digs_len_val hx.lt) (by rw [hx.len]; exact sx)⟩
  have Zd : Sz 4 (zOf gxd (val ys)) := ⟨by decide, by rw [zOf_natAbs]; exact Nat.le_trans (digs_len_val hy.lt) (by rw [hy.len]; exact sy)⟩
  have In := (validV_int h1 hx).below B
  have Id := (validV_int h2 hy).below B
  generalize zOf gxn (val xs) = n at *
  generalize zOf gxd (val ys) = d at *
  have HG : Hid (sgn d = 1) := by show sgn d = 1; unfold sgn; rw [if_neg (by omega), if_pos h3]
  obtain ⟨g, hgg⟩ : ∃ g : Int, ((Nat.gcd n.natAbs d.natAbs : Nat) : Int) = g := ⟨_, rfl⟩
  have HGG := Lib.hid hgg
  have HV : Hid (g ≠ 1) := by show g ≠ 1; omega
  have Zg : Sz 4 g := by rw [← hgg]; exact Sz.of (by rw [Int.natAbs_natCast]; exact Nat.lt_of_le_of_lt (Nat.gcd_le_right _ (by omega)) Zd.lt) (by decide)
  obtain ⟨t, ht⟩ : ∃ t, cmpN g 1 = t := ⟨_, rfl⟩
  have ht0 : (t == 0) = false := by
    rw [← ht]
    rcases Int.lt_trichotomy g 1 with h | h | h
    · rw [cmpN_lt h]; rfl
    · exact absurd h HV.out
    · rw [cmpN_gt h]; rfl
  have HC := Lib.hid ht
  clear ht
  clear hgg h3 h4 h1 h2
  clear hx hy
  go_enter Tryz.func18, Tryz.ntmps18
  have ⟨X0c0, X0c1, X0c2, X0c3, _⟩ := X0
  go_wp2_with fail
  (with_reducible refine (rvalid_any gxn Axn nxn cxn _ true _ Hxn.out ((Lxn.out _ B).more B.size)).mono ?_)
  rintro e w1 ⟨rfl, ba⟩
  clear X0c0 X0c1 X0c2 X0c3
  replace X0 := X0.after ba
  replace In := In.below ba
  replace Id := Id.below ba
  replace B := B.trans (ba.mono B.size)
  clear ba
  have ⟨X0c0, X0c1, X0c2, X0c3, _⟩ := X0
  go_wp2_with fail
  (with_reducible refine (rvalid_any gxd Axd nxd cxd _ true _ Hxd.out ((Lxd.out _ B).more B.size)).mono ?_)
  rintro e w2 ⟨rfl, bb⟩
  clear X0c0 X0c1 X0c2 X0c3
  replace X0 := X0.after bb
  replace In := In.below bb
  replace Id := Id.below bb
  replace B := B.trans (bb.mono B.size)
  clear bb
  have ⟨X0c0, X0c1, X0c2, X0c3, _⟩ := X0
  go_wp2_with fail
  (with_reducible refine (rsign_z gxd Axd nxd cxd _ 1 Id HG.out).mono ?_)
  rintro e w3 ⟨rfl, bc⟩
  clear X0c0 X0c1 X0c2 X0c3
  replace X0 := X0.after bc
  replace In := In.below bc
  replace Id := Id.below bc
  replace B := B.trans (bc.mono B.size)
  clear bc
  have ⟨X0c0, X0c1, X0c2, X0c3, _⟩ := X0
  go_wp2_with fail
  (with_reducible refine (rgcd_z gxn gxd Axn Axd nxn cxn nxd cxd _ In Id Zn Zd (by decide)).mono ?_)
  rintro e w4 ⟨gg, Ag, ng, cg, rfl, ig, bg⟩
  clear X0c0 X0c1 X0c2 X0c3
  replace X0 := X0.after bg
  replace In := In.below bg
  replace Id := Id.below bg
  replace B := B.trans (bg.mono B.size)
  clear bg
  rw [HGG.out] at ig
  go_wp2_with fail
  (with_reducible refine (rof_any 1 _ (by decide) (by decide)).mono ?_)
  rintro e w5 ⟨go, Ao, no, co, rfl, io, bo⟩
  replace X0 := X0.after bo
  replace In := In.below bo
  replace Id := Id.below bo
  replace ig := ig.below bo
  replace B := B.trans (bo.mono B.size)
  clear bo
  go_wp2_with fail
  (with_reducible refine (rcmp_z gg go Ag Ao ng cg no co _ t ig io Zg (Sz.of (by decide) (by decide) : Sz 1 1) HC.out).mono ?_)
  rintro e w6 ⟨rfl, bv⟩
  replace X0 := X0.after bv
  replace In := In.below bv
  replace Id := Id.below bv
  replace ig := ig.below bv
  replace io := io.below bv
  replace B := B.trans (bv.mono B.size)
  clear bv
  go_wp2
  go_ret
  exact ⟨rfl, B⟩
theorem rqvalid_any (gxn : Bool) (Axn : Option Addr) (nxn cxn : Nat) (gxd : Bool) (Axd : Option Addr) (nxd cxd : Nat) {xs ys : List Nat} (w : World) (hx : Lim w w.heap.size Axn nxn cxn xs) (hy : Lim w w.heap.size Axd nxd cxd ys) (sx : nxn ≤ 4) (sy : nxd ≤ 4) (v : Bool) (hv : vrat gxn xs gxd ys = v) :
    Calls Tryz.prog 18 #[.agg #[.bool gxn, .slice Axn nxn cxn, .bool gxd, .slice Axd nxd cxd]] w fun e w' => e = .returned (.bool v) ∧ Below w.heap.size w w' := by
  subst hv
  unfold vrat
  cases h1 : validV gxn xs with
  | false => exact rqvalid_any_a gxn Axn nxn cxn gxd Axd nxd cxd w hx hy sx sy h1
  | true =>
    cases h2 : validV gxd ys with
    | false => exact rqvalid_any_b gxn Axn nxn cxn gxd Axd nxd cxd w hx hy sx sy h1 h2
    | true =>
      by_cases h3 : 0 < zOf gxd (val ys)
      · rw [decide_eq_true h3]
        by_cases h4 : Nat.gcd (zOf gxn (val xs)).natAbs (zOf gxd (val ys)).natAbs = 1
        · rw [decide_eq_true h4]; exact rqvalid_any_d gxn Axn nxn cxn gxd Axd nxd cxd w hx hy sx sy h1 h2 h3 h4
        · rw [decide_eq_false h4]; exact rqvalid_any_e gxn Axn nxn cxn gxd Axd nxd cxd w hx hy sx sy h1 h2 h3 h4
      · rw [decide_eq_false h3]; exact rqvalid_any_c gxn Axn nxn cxn gxd Axd nxd cxd w hx hy sx sy h1 h2 h3
set_option maxRecDepth 1000000 in
set_option maxHeartbeats 4000000 in
theorem qvalid_z (gxn : Bool) (Axn : Option Addr) (nxn cxn : Nat) (gxd : Bool) (Axd : Option Addr) (nxd cxd : Nat) {k : Nat} {a : Rat} (w : World) (ha : IsRat w gxn Axn nxn cxn gxd Axd nxd cxd a) (sa : RSz k a) :
    Calls Tryz.prog 17 #[.agg #[.bool gxn, .slice Axn nxn cxn, .bool gxd, .slice Axd nxd cxd]] w fun e w' => e = .returned (.bool true) ∧ Below w.heap.size w w' := by
  have B := (Below.refl w.heap.size w).alloc (Nat.le_refl _) (.cells #[.bool gxn, .slice Axn nxn cxn, .bool gxd, .slice Axd nxd cxd] 28)
  have X0 := Slot4.new w (.bool gxn) (.slice Axn nxn cxn) (.bool gxd) (.slice Axd nxd cxd) 28
  have Ix := ha.below B
  have HS1 : Hid (sgn (a.den : Int) = 1) := by
    have := a.den_pos
    show sgn (a.den : Int) = 1
    unfold sgn; rw [if_neg (by omega), if_pos (by omega)]
  have hg : ((Nat.gcd a.num.natAbs ((a.den : Int)).natAbs : Nat) : Int) = 1 := by rw [Int.natAbs_natCast]; have := a.reduced; unfold Nat.Coprime at this; omega
  have HG := Lib.hid hg
  clear ha hg
  go_enter Tryz.func17, Tryz.ntmps17
  have ⟨X0c0, X0c1, X0c2, X0c3, _⟩ := X0
  go_wp2_with fail
  (with_reducible refine (valid_int gxn Axn nxn cxn _ _ Ix.num).mono ?_)
  rintro e w1 ⟨rfl, ba⟩
  clear X0c0 X0c1 X0c2 X0c3
  replace X0 := X0.after ba
  replace Ix := Ix.below ba
  replace B := B.trans (ba.mono B.size)
  clear ba
  have ⟨X0c0, X0c1, X0c2, X0c3, _⟩ := X0
  go_wp2_with fail
  (with_reducible refine (valid_int gxd Axd nxd cxd _ _ Ix.den).mono ?_)
  rintro e w2 ⟨rfl, bb⟩
  clear X0c0 X0c1 X0c2 X0c3
  replace X0 := X0.after bb
  replace Ix := Ix.below bb
  replace B := B.trans (bb.mono B.size)
  clear bb
  have ⟨X0c0, X0c1, X0c2, X0c3, _⟩ := X0
  go_wp2_with fail
  (with_reducible refine (sign_z gxd Axd nxd cxd _ 1 Ix.den HS1.out).mono ?_)
  rintro e w3 ⟨rfl, bc⟩
  clear X0c0 X0c1 X0c2 X0c3
  replace X0 := X0.after bc
  replace Ix := Ix.below bc
  replace B := B.trans (bc.mono B.size)
  clear bc
  have ⟨X0c0, X0c1, X0c2, X0c3, _⟩ := X0
  go_wp2_with fail
  (with_reducible refine (gcd_z gxn gxd Axn Axd nxn cxn nxd cxd _ Ix.num Ix.den sa.num sa.den).mono ?_)
  rintro e w4 ⟨gd, Ad, nd, cd, rfl, id, bd⟩
  clear X0c0 X0c1 X0c2 X0c3
  replace X0 := X0.after bd
  replace Ix := Ix.below bd
  replace B := B.trans (bd.mono B.size)
  clear bd
  rw [HG.out] at id
  go_wp2_with fail
  (with_reducible refine (qone_t gd Ad nd cd _ id rfl).mono ?_)
  rintro e w5 ⟨rfl, be⟩
  replace X0 := X0.after be
  replace Ix := Ix.below be
  replace id := id.below be
  replace B := B.trans (be.mono B.size)
  clear be
  go_wp2
  go_ret
  exact ⟨rfl, B⟩
end Go.Proofs.YtlpoboikompjfaaGreatDoor
