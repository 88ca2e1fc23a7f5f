/- Contracts of torsionref02: Neg, Add, Sub, Cmp, Sign, Floor, Valid. -/
import Derived.Test.YtlpoboikompjfaaGreatDoorVG25RatR
import Derived.Deep.DeepCutAuto
namespace Go.Proofs.YtlpoboikompjfaaGreatDoor
open Go.RowKit

set_option maxRecDepth 1000000 in
set_option maxHeartbeats 4000000 in
theorem rqneg_z (gxn : Bool) (Axn : Option Addr) (nxn cxn : Nat) (gxd : Bool) (Axd : Option Addr) (nxd cxd : Nat) {k : Nat} {a : Rat} (w : World) (ha : IsRat w gxn Axn nxn cxn gxd Axd nxd cxd a) (sa : RSz k a) :
    Calls Tryz.prog 26 #[.agg #[.bool gxn, .slice Axn nxn cxn, .bool gxd, .slice Axd nxd cxd]] w (RetRat w (-a)) := by
  obtain ⟨B0, X0, R0⟩ := frameQ2 w (.bool gxn) (.slice Axn nxn cxn) (.bool gxd) (.slice Axd nxd cxd) 28 28
  have Ix := ha.below B0
  have Ixn := Ix.num
  clear ha
  go_enter Tryz.func26, Tryz.ntmps26
  go_upto_region 1 with (fail)
  generalize (w.alloc (.cells #[.bool gxn, .slice Axn nxn cxn, .bool gxd, .slice Axd nxd cxd] 28)).alloc (.cells #[.bool false, .slice none 0 0, .bool false, .slice none 0 0] 28) = W0 at *
  have HS : Hid (∀ V, Below W0.heap.size W0 V → (V.cell? ⟨w.heap.size, 0, none⟩ = some (.bool gxn) ∧ V.cell? ⟨w.heap.size, 1, none⟩ = some (.slice Axn nxn cxn) ∧ V.cell? ⟨w.heap.size, 2, none⟩ = some (.bool gxd) ∧ V.cell? ⟨w.heap.size, 3, none⟩ = some (.slice Axd nxd cxd))) := fun V hV => (X0.after hV).cells
  have Dp0 : Below W0.heap.size W0 W0.drew := (Below.refl _ _).drew
  refine wp_region_seq (.pre [(0, true), (1, true), (3, true), (4, true), (2, false), (5, true), (6, false)] .done) (fun W => (W.cell? ⟨w.heap.size, 0, none⟩ = some (.bool gxn) ∧ W.cell? ⟨w.heap.size, 1, none⟩ = some (.slice Axn nxn cxn) ∧ W.cell? ⟨w.heap.size, 2, none⟩ = some (.bool gxd) ∧ W.cell? ⟨w.heap.size, 3, none⟩ = some (.slice Axd nxd cxd))) (by kernel_rfl) (by kernel_rfl) ?_ (by kernel_rfl) (HS.out _ Dp0) ?_
  · refine chk_pre _ _ _ (by as_aux_lemma => kernel_rfl) ?_
    exact (by as_aux_lemma => kernel_rfl)
  refine seq_take _ ?_ rfl (Or.inl ⟨by rfl, ?_⟩) ?_
  rotate_left
  · (intro w hSw; (try dsimp only at hSw); go_simp; (try with_reducible rfl))
  try simp only [Act.put, List.setIfInBounds_toArray, List.set_cons_zero, List.set_cons_succ]
  refine seq_take _ ?_ rfl (Or.inl ⟨by rfl, ?_⟩) ?_
  rotate_left
  · (intro w hSw; (try dsimp only at hSw); go_simp; (try with_reducible rfl))
  try simp only [Act.put, List.setIfInBounds_toArray, List.set_cons_zero, List.set_cons_succ]
  refine seq_take _ ?_ rfl (Or.inl ⟨by rfl, ?_⟩) ?_
  rotate_left
  · (intro w hSw; (try dsimp only at hSw); go_simp; (try with_reducible rfl))
  try simp only [Act.put, List.setIfInBounds_toArray, List.set_cons_zero, List.set_cons_succ]
  refine seq_take _ ?_ rfl (Or.inl ⟨by rfl, ?_⟩) ?_
  rotate_left
  · (intro w hSw; (try dsimp only at hSw); go_simp; (try with_reducible rfl))
  try simp only [Act.put, List.setIfInBounds_toArray, List.set_cons_zero, List.set_cons_succ]
  refine seq_one _ rfl fun K hK => ?_
  go_simp
  (with_reducible refine (rneg_z gxn Axn nxn cxn _ (Ixn.below Dp0) sa.num).mono ?_)
  rintro e vp1 ⟨gp1, Ap1, np1, cp1, rfl, ip1, bp1⟩
  have Dp1 : Below W0.heap.size W0 vp1 := Below.trans Dp0 (bp1.mono (Below.size Dp0))
  go_wp2_with fail
  refine hK.out _ _ (HS.out _ Dp1) (fun hHeld => ?_)
  clear hK K hHeld
  try simp only [Act.put, List.setIfInBounds_toArray, List.set_cons_zero, List.set_cons_succ]
  refine seq_take _ ?_ rfl (Or.inl ⟨by rfl, ?_⟩) ?_
  rotate_left
  · (intro w hSw; (try dsimp only at hSw); go_simp; (try with_reducible rfl))
  try simp only [Act.put, List.setIfInBounds_toArray, List.set_cons_zero, List.set_cons_succ]
  refine seq_one _ rfl fun K hK => ?_
  have R1 := R0.after Dp1
  have ⟨r0, r1, r2, r3, k0, k1, k2, k3, _⟩ := R1
  go_simp
  refine hK.out _ _ (((X0.after Dp1).far4 (by omega) _ _ _ _).cells) (fun hHeld => ?_)
  clear hK K hHeld
  try simp only [Act.put, List.setIfInBounds_toArray, List.set_cons_zero, List.set_cons_succ]
  refine NoPanic.normal ?_
  go_wp2
  have hs := R0.after Dp1
  have hd : (a.den : Int) = ((-a).den : Int) := by rw [Rat.neg_den]
  have jd := Ix.den.below Dp1
  rw [hd] at jd
  rw [← Rat.neg_num] at ip1
  refine bodyPost_ret (v := .agg #[.bool gp1, .slice Ap1 np1 cp1, .bool gxd, .slice Axd nxd cxd]) (by obtain ⟨v0, v1, v2, v3⟩ := hs.set4e (.bool gp1) (.slice Ap1 np1 cp1) (.bool gxd) (.slice Axd nxd cxd); simp [results, Tryz.results26, go_sem, v0, v1, v2, v3]) rfl ⟨_, _, _, _, _, _, _, _, rfl, ⟨ip1.stored4 hs rfl rfl rfl rfl _ _ _ _, jd.stored4 hs rfl rfl rfl rfl _ _ _ _⟩, ?_⟩
  exact Below.set4 (B0.trans (Dp1.mono B0.size)) (by omega) _ _ _ _
set_option maxRecDepth 1000000 in
set_option maxHeartbeats 4000000 in
theorem rqmul_z (gxn : Bool) (Axn : Option Addr) (nxn cxn : Nat) (gxd : Bool) (Axd : Option Addr) (nxd cxd : Nat) (gyn : Bool) (Ayn : Option Addr) (nyn cyn : Nat) (gyd : Bool) (Ayd : Option Addr) (nyd cyd : Nat) {k l : Nat} {a b : Rat} (w : World) (ha : IsRat w gxn Axn nxn cxn gxd Axd nxd cxd a) (hb : IsRat w gyn Ayn nyn cyn gyd Ayd nyd cyd b) (sa : RSz k a) (sb : RSz l b) (hk : k + l + 1 + 1 ≤ 10000) :
    Calls Tryz.prog 24 #[.agg #[.bool gxn, .slice Axn nxn cxn, .bool gxd, .slice Axd nxd cxd], .agg #[.bool gyn, .slice Ayn nyn cyn, .bool gyd, .slice Ayd nyd cyd]] w (RetRat w (a * b)) := by
  obtain ⟨B0, X0, Y0, R0⟩ := frameQ3 w (.bool gxn) (.slice Axn nxn cxn) (.bool gxd) (.slice Axd nxd cxd) (.bool gyn) (.slice Ayn nyn cyn) (.bool gyd) (.slice Ayd nyd cyd) 28 28 28
  have Ix := ha.below B0
  have Iy := hb.below B0
  have Ixn := Ix.num
  have Ixd := Ix.den
  have Iyn := Iy.num
  have Iyd := Iy.den
  clear ha hb
  have Z1 : Sz (k + l) (a.num * b.num) := sa.num.mul sb.num (by omega)
  have Z2 : Sz (k + l) ((a.den : Int) * b.den) := sa.den.mul sb.den (by omega)
  have HD := Lib.hid (Int.mul_ne_zero (den_ne a) (den_ne b))
  have HQ := Lib.hid (q_mul a b)
  go_enter Tryz.func24, Tryz.ntmps24
  go_upto_region 1 with (fail)
  generalize ((w.alloc (.cells #[.bool gxn, .slice Axn nxn cxn, .bool gxd, .slice Axd nxd cxd] 28)).alloc (.cells #[.bool gyn, .slice Ayn nyn cyn, .bool gyd, .slice Ayd nyd cyd] 28)).alloc (.cells #[.bool false, .slice none 0 0, .bool false, .slice none 0 0] 28) = W0 at *
  have HS : Hid (∀ V, Below W0.heap.size W0 V → (V.cell? ⟨w.heap.size, 0, none⟩ = some (.bool gxn) ∧ V.cell? ⟨w.heap.size, 1, none⟩ = some (.slice Axn nxn cxn) ∧ V.cell? ⟨w.heap.size, 2, none⟩ = some (.bool gxd) ∧ V.cell? ⟨w.heap.size, 3, none⟩ = some (.slice Axd nxd cxd)) ∧ (V.cell? ⟨w.heap.size + 1, 0, none⟩ = some (.bool gyn) ∧ V.cell? ⟨w.heap.size + 1, 1, none⟩ = some (.slice Ayn nyn cyn) ∧ V.cell? ⟨w.heap.size + 1, 2, none⟩ = some (.bool gyd) ∧ V.cell? ⟨w.heap.size + 1, 3, none⟩ = some (.slice Ayd nyd cyd))) := fun V hV => ⟨(X0.after hV).cells, (Y0.after hV).cells⟩
  have Dp0 : Below W0.heap.size W0 W0.drew := (Below.refl _ _).drew
  refine wp_region_seq (.pre [(0, true), (1, true), (2, true), (3, true), (5, true), (6, true), (7, true), (8, true), (4, false), (9, false), (10, false), (11, false)] .done) (fun W => (W.cell? ⟨w.heap.size, 0, none⟩ = some (.bool gxn) ∧ W.cell? ⟨w.heap.size, 1, none⟩ = some (.slice Axn nxn cxn) ∧ W.cell? ⟨w.heap.size, 2, none⟩ = some (.bool gxd) ∧ W.cell? ⟨w.heap.size, 3, none⟩ = some (.slice Axd nxd cxd)) ∧ (W.cell? ⟨w.heap.size + 1, 0, none⟩ = some (.bool gyn) ∧ W.cell? ⟨w.heap.size + 1, 1, none⟩ = some (.slice Ayn nyn cyn) ∧ W.cell? ⟨w.heap.size + 1, 2, none⟩ = some (.bool gyd) ∧ W.cell? ⟨w.heap.size + 1, 3, none⟩ = some (.slice Ayd nyd cyd))) (by kernel_rfl) (by kernel_rfl) ?_ (by kernel_rfl) (HS.out _ Dp0) ?_
  · refine chk_pre _ _ _ (by as_aux_lemma => kernel_rfl) ?_
    exact (by as_aux_lemma => kernel_rfl)
  refine seq_take _ ?_ rfl (Or.inl ⟨by rfl, ?_⟩) ?_
  rotate_left
  · (intro w hSw; (try dsimp only at hSw); go_simp; (try with_reducible rfl))
  try simp only [Act.put, List.setIfInBounds_toArray, List.set_cons_zero, List.set_cons_succ]
  refine seq_take _ ?_ rfl (Or.inl ⟨by rfl, ?_⟩) ?_
  rotate_left
  · (intro w hSw; (try dsimp only at hSw); go_simp; (try with_reducible rfl))
  try simp only [Act.put, List.setIfInBounds_toArray, List.set_cons_zero, List.set_cons_succ]
  refine seq_take _ ?_ rfl (Or.inl ⟨by rfl, ?_⟩) ?_
  rotate_left
  · (intro w hSw; (try dsimp only at hSw); go_simp; (try with_reducible rfl))
  try simp only [Act.put, List.setIfInBounds_toArray, List.set_cons_zero, List.set_cons_succ]
  refine seq_take _ ?_ rfl (Or.inl ⟨by rfl, ?_⟩) ?_
  rotate_left
  · (intro w hSw; (try dsimp only at hSw); go_simp; (try with_reducible rfl))
  try simp only [Act.put, List.setIfInBounds_toArray, List.set_cons_zero, List.set_cons_succ]
  refine seq_take _ ?_ rfl (Or.inl ⟨by rfl, ?_⟩) ?_
  rotate_left
  · (intro w hSw; (try dsimp only at hSw); go_simp; (try with_reducible rfl))
  try simp only [Act.put, List.setIfInBounds_toArray, List.set_cons_zero, List.set_cons_succ]
  refine seq_take _ ?_ rfl (Or.inl ⟨by rfl, ?_⟩) ?_
  rotate_left
  · (intro w hSw; (try dsimp only at hSw); go_simp; (try with_reducible rfl))
  try simp only [Act.put, List.setIfInBounds_toArray, List.set_cons_zero, List.set_cons_succ]
  refine seq_take _ ?_ rfl (Or.inl ⟨by rfl, ?_⟩) ?_
  rotate_left
  · (intro w hSw; (try dsimp only at hSw); go_simp; (try with_reducible rfl))
  try simp only [Act.put, List.setIfInBounds_toArray, List.set_cons_zero, List.set_cons_succ]
  refine seq_take _ ?_ rfl (Or.inl ⟨by rfl, ?_⟩) ?_
  rotate_left
  · (intro w hSw; (try dsimp only at hSw); go_simp; (try with_reducible rfl))
  try simp only [Act.put, List.setIfInBounds_toArray, List.set_cons_zero, List.set_cons_succ]
  refine seq_one _ rfl fun K hK => ?_
  go_simp
  (with_reducible refine (rmul_z gxn gyn Axn Ayn nxn cxn nyn cyn _ (Ixn.below Dp0) (Iyn.below Dp0) sa.num sb.num).mono ?_)
  rintro e vp1 ⟨gp1, Ap1, np1, cp1, rfl, ip1, bp1⟩
  have Dp1 : Below W0.heap.size W0 vp1 := Below.trans Dp0 (bp1.mono (Below.size Dp0))
  go_wp2_with fail
  refine hK.out _ _ (HS.out _ Dp1) (fun hHeld => ?_)
  clear hK K hHeld
  try simp only [Act.put, List.setIfInBounds_toArray, List.set_cons_zero, List.set_cons_succ]
  refine seq_one _ rfl fun K hK => ?_
  go_simp
  (with_reducible refine (rmul_z gxd gyd Axd Ayd nxd cxd nyd cyd _ (Ixd.below Dp1) (Iyd.below Dp1) sa.den sb.den).mono ?_)
  rintro e vp2 ⟨gp2, Ap2, np2, cp2, rfl, ip2, bp2⟩
  have Dp2 : Below W0.heap.size W0 vp2 := Below.trans Dp1 (bp2.mono (Below.size Dp1))
  go_wp2_with fail
  refine hK.out _ _ (HS.out _ Dp2) (fun hHeld => ?_)
  clear hK K hHeld
  try simp only [Act.put, List.setIfInBounds_toArray, List.set_cons_zero, List.set_cons_succ]
  refine seq_one _ rfl fun K hK => ?_
  go_simp
  (with_reducible refine (rqofd_z gp1 Ap1 np1 cp1 gp2 Ap2 np2 cp2 _ (ip1.below bp2) ip2 Z1 Z2 (by omega) HD.out).mono ?_)
  rintro e vp3 ⟨gnp3, Anp3, nnp3, cnp3, gdp3, Adp3, ndp3, cdp3, rfl, ip3, bp3⟩
  have Dp3 : Below W0.heap.size W0 vp3 := Below.trans Dp2 (bp3.mono (Below.size Dp2))
  go_wp2_with fail
  refine hK.out _ _ (HS.out _ Dp3) (fun hHeld => ?_)
  clear hK K hHeld
  try simp only [Act.put, List.setIfInBounds_toArray, List.set_cons_zero, List.set_cons_succ]
  refine seq_one _ rfl fun K hK => ?_
  have R1 := R0.after Dp3
  have ⟨r0, r1, r2, r3, k0, k1, k2, k3, _⟩ := R1
  go_simp
  refine hK.out _ _ (⟨((X0.after Dp3).far4 (by omega) _ _ _ _).cells, ((Y0.after Dp3).far4 (by omega) _ _ _ _).cells⟩) (fun hHeld => ?_)
  clear hK K hHeld
  try simp only [Act.put, List.setIfInBounds_toArray, List.set_cons_zero, List.set_cons_succ]
  refine NoPanic.normal ?_
  go_wp2
  have hs := R0.after Dp3
  rw [HQ.out] at ip3
  refine bodyPost_ret (v := .agg #[.bool gnp3, .slice Anp3 nnp3 cnp3, .bool gdp3, .slice Adp3 ndp3 cdp3]) (by obtain ⟨v0, v1, v2, v3⟩ := hs.set4e (.bool gnp3) (.slice Anp3 nnp3 cnp3) (.bool gdp3) (.slice Adp3 ndp3 cdp3); simp [results, Tryz.results24, go_sem, v0, v1, v2, v3]) rfl ⟨_, _, _, _, _, _, _, _, rfl, ip3.stored4 hs rfl rfl rfl rfl _ _ _ _, ?_⟩
  exact Below.set4 (B0.trans (Dp3.mono B0.size)) (by omega) _ _ _ _
set_option maxRecDepth 1000000 in
set_option maxHeartbeats 4000000 in
theorem rqadd_z (gxn : Bool) (Axn : Option Addr) (nxn cxn : Nat) (gxd : Bool) (Axd : Option Addr) (nxd cxd : Nat) (gyn : Bool) (Ayn : Option Addr) (nyn cyn : Nat) (gyd : Bool) (Ayd : Option Addr) (nyd cyd : Nat) {k l : Nat} {a b : Rat} (w : World) (ha : IsRat w gxn Axn nxn cxn gxd Axd nxd cxd a) (hb : IsRat w gyn Ayn nyn cyn gyd Ayd nyd cyd b) (sa : RSz k a) (sb : RSz l b) (hk : k + l + 1 + 1 + 1 ≤ 10000) :
    Calls Tryz.prog 20 #[.agg #[.bool gxn, .slice Axn nxn cxn, .bool gxd, .slice Axd nxd cxd], .agg #[.bool gyn, .slice Ayn nyn cyn, .bool gyd, .slice Ayd nyd cyd]] w (RetRat w (a + b)) := by
  obtain ⟨B0, X0, Y0, R0⟩ := frameQ3 w (.bool gxn) (.slice Axn nxn cxn) (.bool gxd) (.slice Axd nxd cxd) (.bool gyn) (.slice Ayn nyn cyn) (.bool gyd) (.slice Ayd nyd cyd) 28 28 28
  have Ix := ha.below B0
  have Iy := hb.below B0
  have Ixn := Ix.num
  have Ixd := Ix.den
  have Iyn := Iy.num
  have Iyd := Iy.den
  clear ha hb
  have Z1 : Sz (k + l) (a.num * b.den) := sa.num.mul sb.den (by omega)
  have Z2 : Sz (l + k) (b.num * a.den) := sb.num.mul sa.den (by omega)
  have Z3 := sa.nadd sb (by omega)
  have Z4 := sa.dmul sb (by omega)
  have HD := Lib.hid (Int.mul_ne_zero (den_ne a) (den_ne b))
  have HQ := Lib.hid (q_add a b)
  go_enter Tryz.func20, Tryz.ntmps20
  go_upto_region 1 with (fail)
  generalize ((w.alloc (.cells #[.bool gxn, .slice Axn nxn cxn, .bool gxd, .slice Axd nxd cxd] 28)).alloc (.cells #[.bool gyn, .slice Ayn nyn cyn, .bool gyd, .slice Ayd nyd cyd] 28)).alloc (.cells #[.bool false, .slice none 0 0, .bool false, .slice none 0 0] 28) = W0 at *
  have HS : Hid (∀ V, Below W0.heap.size W0 V → (V.cell? ⟨w.heap.size, 0, none⟩ = some (.bool gxn) ∧ V.cell? ⟨w.heap.size, 1, none⟩ = some (.slice Axn nxn cxn) ∧ V.cell? ⟨w.heap.size, 2, none⟩ = some (.bool gxd) ∧ V.cell? ⟨w.heap.size, 3, none⟩ = some (.slice Axd nxd cxd)) ∧ (V.cell? ⟨w.heap.size + 1, 0, none⟩ = some (.bool gyn) ∧ V.cell? ⟨w.heap.size + 1, 1, none⟩ = some (.slice Ayn nyn cyn) ∧ V.cell? ⟨w.heap.size + 1, 2, none⟩ = some (.bool gyd) ∧ V.cell? ⟨w.heap.size + 1, 3, none⟩ = some (.slice Ayd nyd cyd))) := fun V hV => ⟨(X0.after hV).cells, (Y0.after hV).cells⟩
  have HI : Hid (∀ V, Below W0.heap.size W0 V → IsRat V gxn Axn nxn cxn gxd Axd nxd cxd a ∧ IsRat V gyn Ayn nyn cyn gyd Ayd nyd cyd b) := fun V hV => ⟨Ix.below hV, Iy.below hV⟩
  go_cut [5] (fun p0 wx => ∃ g, p0 = .pointer (some ⟨g, 0, none⟩) ∧ IntAt wx g (a.num * b.den + b.num * a.den) ∧ W0.heap.size ≤ g ∧ Below W0.heap.size W0 wx)
  case first =>
    as_aux_lemma =>
      refine wp_region_ev (fun d a0 a' w' => ∃ u6 u7 u8 u9 u10 u11 u12 u13 u14 u15 u16 u5 : Value, a' = ((((((((((((a0.put (some 6) u6).put (some 7) u7).put (some 8) u8).put (some 9) u9).put (some 10) u10).put (some 11) u11).put (some 12) u12).put (some 13) u13).put (some 14) u14).put (some 15) u15).put (some 16) u16).put (some 5) u5) ∧ Below W0.heap.size W0 w' ∧ (d 0 = true → u6 = .pointer (some ⟨w.heap.size, 0, none⟩)) ∧ (d 1 = true → u7 = .agg #[.bool gxn, .slice Axn nxn cxn]) ∧ (d 2 = true → u8 = .pointer (some ⟨w.heap.size + 1, 2, none⟩)) ∧ (d 3 = true → u9 = .agg #[.bool gyd, .slice Ayd nyd cyd]) ∧ (d 4 = true → IntV w' u10 (a.num * b.den)) ∧ (d 5 = true → u11 = .pointer (some ⟨w.heap.size + 1, 0, none⟩)) ∧ (d 6 = true → u12 = .agg #[.bool gyn, .slice Ayn nyn cyn]) ∧ (d 7 = true → u13 = .pointer (some ⟨w.heap.size, 2, none⟩)) ∧ (d 8 = true → u14 = .agg #[.bool gxd, .slice Axd nxd cxd]) ∧ (d 9 = true → IntV w' u15 (b.num * a.den)) ∧ (d 10 = true → IntV w' u16 (a.num * b.den + b.num * a.den)) ∧ (d 11 = true → OwnP W0.heap.size w' u5 (d 12) (a.num * b.den + b.num * a.den)) ∧ (d 12 = true → d 11 = true)) (by kernel_rfl) (by kernel_rfl) ?_ ?_ ?_ ?_
      · intro d d' h a' w' hh
        obtain rfl : d = d' := funext h
        exact hh
      · exact ⟨_, _, _, _, _, _, _, _, _, _, _, _, (by simp only [Act.put, List.setIfInBounds_toArray, List.set_cons_zero, List.set_cons_succ]; rfl), (Below.refl _ _).drew, (fun h => by cases h), (fun h => by cases h), (fun h => by cases h), (fun h => by cases h), (fun h => by cases h), (fun h => by cases h), (fun h => by cases h), (fun h => by cases h), (fun h => by cases h), (fun h => by cases h), (fun h => by cases h), (fun h => by cases h), (fun h => by cases h)⟩
      · refine ⟨?_, ?_, ?_, ?_, ?_, ?_, ?_, ?_, ?_, ?_, ?_, ?_, ?_, trivial⟩
        · intro d a2 w2 hd hm ⟨u6, u7, u8, u9, u10, u11, u12, u13, u14, u15, u16, u5, e, HB, f0, f1, f2, f3, f4, f5, f6, f7, f8, f9, f10, f11, t0⟩ K hK
          subst e
          simp only [Act.put, List.setIfInBounds_toArray, List.set_cons_zero, List.set_cons_succ]
          go_simp
          exact hK.out _ _ ⟨.pointer (some ⟨w.heap.size, 0, none⟩), u7, u8, u9, u10, u11, u12, u13, u14, u15, u16, u5, (by simp only [Act.put, List.setIfInBounds_toArray, List.set_cons_zero, List.set_cons_succ]), HB, (fun _ => rfl), (fun h => f1 (by simpa using h)), (fun h => f2 (by simpa using h)), (fun h => f3 (by simpa using h)), (fun h => (f4 (by simpa using h))), (fun h => f5 (by simpa using h)), (fun h => f6 (by simpa using h)), (fun h => f7 (by simpa using h)), (fun h => f8 (by simpa using h)), (fun h => (f9 (by simpa using h))), (fun h => (f10 (by simpa using h))), (fun h => by simpa using (f11 (by simpa using h))), (fun h => by simpa using t0 (by simpa using h))⟩
        · intro d a2 w2 hd hm ⟨u6, u7, u8, u9, u10, u11, u12, u13, u14, u15, u16, u5, e, HB, f0, f1, f2, f3, f4, f5, f6, f7, f8, f9, f10, f11, t0⟩ K hK
          subst e
          simp only [Act.put, List.setIfInBounds_toArray, List.set_cons_zero, List.set_cons_succ]
          obtain rfl := f0 (hm ⟨0, .data⟩ (by simp) rfl)
          clear f0
          obtain ⟨⟨q0, q1, q2, q3⟩, ⟨q4, q5, q6, q7⟩⟩ := HS.out w2 HB
          go_simp
          exact hK.out _ _ ⟨.pointer (some ⟨w.heap.size, 0, none⟩), .agg #[.bool gxn, .slice Axn nxn cxn], u8, u9, u10, u11, u12, u13, u14, u15, u16, u5, (by simp only [Act.put, List.setIfInBounds_toArray, List.set_cons_zero, List.set_cons_succ]), HB, (fun _ => rfl), (fun _ => rfl), (fun h => f2 (by simpa using h)), (fun h => f3 (by simpa using h)), (fun h => (f4 (by simpa using h))), (fun h => f5 (by simpa using h)), (fun h => f6 (by simpa using h)), (fun h => f7 (by simpa using h)), (fun h => f8 (by simpa using h)), (fun h => (f9 (by simpa using h))), (fun h => (f10 (by simpa using h))), (fun h => by simpa using (f11 (by simpa using h))), (fun h => by simpa using t0 (by simpa using h))⟩
        · intro d a2 w2 hd hm ⟨u6, u7, u8, u9, u10, u11, u12, u13, u14, u15, u16, u5, e, HB, f0, f1, f2, f3, f4, f5, f6, f7, f8, f9, f10, f11, t0⟩ K hK
          subst e
          simp only [Act.put, List.setIfInBounds_toArray, List.set_cons_zero, List.set_cons_succ]
          go_simp
          exact hK.out _ _ ⟨u6, u7, .pointer (some ⟨w.heap.size + 1, 2, none⟩), u9, u10, u11, u12, u13, u14, u15, u16, u5, (by simp only [Act.put, List.setIfInBounds_toArray, List.set_cons_zero, List.set_cons_succ]), HB, (fun h => f0 (by simpa using h)), (fun h => f1 (by simpa using h)), (fun _ => rfl), (fun h => f3 (by simpa using h)), (fun h => (f4 (by simpa using h))), (fun h => f5 (by simpa using h)), (fun h => f6 (by simpa using h)), (fun h => f7 (by simpa using h)), (fun h => f8 (by simpa using h)), (fun h => (f9 (by simpa using h))), (fun h => (f10 (by simpa using h))), (fun h => by simpa using (f11 (by simpa using h))), (fun h => by simpa using t0 (by simpa using h))⟩
        · intro d a2 w2 hd hm ⟨u6, u7, u8, u9, u10, u11, u12, u13, u14, u15, u16, u5, e, HB, f0, f1, f2, f3, f4, f5, f6, f7, f8, f9, f10, f11, t0⟩ K hK
          subst e
          simp only [Act.put, List.setIfInBounds_toArray, List.set_cons_zero, List.set_cons_succ]
          obtain rfl := f2 (hm ⟨2, .data⟩ (by simp) rfl)
          clear f2
          obtain ⟨⟨q0, q1, q2, q3⟩, ⟨q4, q5, q6, q7⟩⟩ := HS.out w2 HB
          go_simp
          exact hK.out _ _ ⟨u6, u7, .pointer (some ⟨w.heap.size + 1, 2, none⟩), .agg #[.bool gyd, .slice Ayd nyd cyd], u10, u11, u12, u13, u14, u15, u16, u5, (by simp only [Act.put, List.setIfInBounds_toArray, List.set_cons_zero, List.set_cons_succ]), HB, (fun h => f0 (by simpa using h)), (fun h => f1 (by simpa using h)), (fun _ => rfl), (fun _ => rfl), (fun h => (f4 (by simpa using h))), (fun h => f5 (by simpa using h)), (fun h => f6 (by simpa using h)), (fun h => f7 (by simpa using h)), (fun h => f8 (by simpa using h)), (fun h => (f9 (by simpa using h))), (fun h => (f10 (by simpa using h))), (fun h => by simpa using (f11 (by simpa using h))), (fun h => by simpa using t0 (by simpa using h))⟩
        · intro d a2 w2 hd hm ⟨u6, u7, u8, u9, u10, u11, u12, u13, u14, u15, u16, u5, e, HB, f0, f1, f2, f3, f4, f5, f6, f7, f8, f9, f10, f11, t0⟩ K hK
          subst e
          simp only [Act.put, List.setIfInBounds_toArray, List.set_cons_zero, List.set_cons_succ]
          obtain rfl := f1 (hm ⟨1, .data⟩ (by simp) rfl)
          clear f1
          obtain rfl := f3 (hm ⟨3, .data⟩ (by simp) rfl)
          clear f3
          go_simp
          (with_reducible refine (rmul_z gxn gyd Axn Ayd nxn cxn nyd cyd _ (HI.out _ HB).1.num (HI.out _ HB).2.den sa.num sb.den).mono ?_)
          rintro e w3 ⟨gg, AA, nn, cc, rfl, hi, hb⟩
          have HB3 := HB.trans (hb.mono HB.size)
          go_wp2_with fail
          exact hK.out _ _ ⟨u6, .agg #[.bool gxn, .slice Axn nxn cxn], u8, .agg #[.bool gyd, .slice Ayd nyd cyd], .agg #[.bool gg, .slice AA nn cc], u11, u12, u13, u14, u15, u16, u5, (by simp only [Act.put, List.setIfInBounds_toArray, List.set_cons_zero, List.set_cons_succ]), HB3, (fun h => f0 (by simpa using h)), (fun _ => rfl), (fun h => f2 (by simpa using h)), (fun _ => rfl), (fun _ => ⟨_, _, _, _, rfl, hi⟩), (fun h => f5 (by simpa using h)), (fun h => f6 (by simpa using h)), (fun h => f7 (by simpa using h)), (fun h => f8 (by simpa using h)), (fun h => (f9 (by simpa using h)).below hb), (fun h => (f10 (by simpa using h)).below hb), (fun h => by simpa using (f11 (by simpa using h)).below hb), (fun h => by simpa using t0 (by simpa using h))⟩
        · intro d a2 w2 hd hm ⟨u6, u7, u8, u9, u10, u11, u12, u13, u14, u15, u16, u5, e, HB, f0, f1, f2, f3, f4, f5, f6, f7, f8, f9, f10, f11, t0⟩ K hK
          subst e
          simp only [Act.put, List.setIfInBounds_toArray, List.set_cons_zero, List.set_cons_succ]
          go_simp
          exact hK.out _ _ ⟨u6, u7, u8, u9, u10, .pointer (some ⟨w.heap.size + 1, 0, none⟩), u12, u13, u14, u15, u16, u5, (by simp only [Act.put, List.setIfInBounds_toArray, List.set_cons_zero, List.set_cons_succ]), HB, (fun h => f0 (by simpa using h)), (fun h => f1 (by simpa using h)), (fun h => f2 (by simpa using h)), (fun h => f3 (by simpa using h)), (fun h => (f4 (by simpa using h))), (fun _ => rfl), (fun h => f6 (by simpa using h)), (fun h => f7 (by simpa using h)), (fun h => f8 (by simpa using h)), (fun h => (f9 (by simpa using h))), (fun h => (f10 (by simpa using h))), (fun h => by simpa using (f11 (by simpa using h))), (fun h => by simpa using t0 (by simpa using h))⟩
        · intro d a2 w2 hd hm ⟨u6, u7, u8, u9, u10, u11, u12, u13, u14, u15, u16, u5, e, HB, f0, f1, f2, f3, f4, f5, f6, f7, f8, f9, f10, f11, t0⟩ K hK
          subst e
          simp only [Act.put, List.setIfInBounds_toArray, List.set_cons_zero, List.set_cons_succ]
          obtain rfl := f5 (hm ⟨5, .data⟩ (by simp) rfl)
          clear f5
          obtain ⟨⟨q0, q1, q2, q3⟩, ⟨q4, q5, q6, q7⟩⟩ := HS.out w2 HB
          go_simp
          exact hK.out _ _ ⟨u6, u7, u8, u9, u10, .pointer (some ⟨w.heap.size + 1, 0, none⟩), .agg #[.bool gyn, .slice Ayn nyn cyn], u13, u14, u15, u16, u5, (by simp only [Act.put, List.setIfInBounds_toArray, List.set_cons_zero, List.set_cons_succ]), HB, (fun h => f0 (by simpa using h)), (fun h => f1 (by simpa using h)), (fun h => f2 (by simpa using h)), (fun h => f3 (by simpa using h)), (fun h => (f4 (by simpa using h))), (fun _ => rfl), (fun _ => rfl), (fun h => f7 (by simpa using h)), (fun h => f8 (by simpa using h)), (fun h => (f9 (by simpa using h))), (fun h => (f10 (by simpa using h))), (fun h => by simpa using (f11 (by simpa using h))), (fun h => by simpa using t0 (by simpa using h))⟩
        · intro d a2 w2 hd hm ⟨u6, u7, u8, u9, u10, u11, u12, u13, u14, u15, u16, u5, e, HB, f0, f1, f2, f3, f4, f5, f6, f7, f8, f9, f10, f11, t0⟩ K hK
          subst e
          simp only [Act.put, List.setIfInBounds_toArray, List.set_cons_zero, List.set_cons_succ]
          go_simp
          exact hK.out _ _ ⟨u6, u7, u8, u9, u10, u11, u12, .pointer (some ⟨w.heap.size, 2, none⟩), u14, u15, u16, u5, (by simp only [Act.put, List.setIfInBounds_toArray, List.set_cons_zero, List.set_cons_succ]), HB, (fun h => f0 (by simpa using h)), (fun h => f1 (by simpa using h)), (fun h => f2 (by simpa using h)), (fun h => f3 (by simpa using h)), (fun h => (f4 (by simpa using h))), (fun h => f5 (by simpa using h)), (fun h => f6 (by simpa using h)), (fun _ => rfl), (fun h => f8 (by simpa using h)), (fun h => (f9 (by simpa using h))), (fun h => (f10 (by simpa using h))), (fun h => by simpa using (f11 (by simpa using h))), (fun h => by simpa using t0 (by simpa using h))⟩
        · intro d a2 w2 hd hm ⟨u6, u7, u8, u9, u10, u11, u12, u13, u14, u15, u16, u5, e, HB, f0, f1, f2, f3, f4, f5, f6, f7, f8, f9, f10, f11, t0⟩ K hK
          subst e
          simp only [Act.put, List.setIfInBounds_toArray, List.set_cons_zero, List.set_cons_succ]
          obtain rfl := f7 (hm ⟨7, .data⟩ (by simp) rfl)
          clear f7
          obtain ⟨⟨q0, q1, q2, q3⟩, ⟨q4, q5, q6, q7⟩⟩ := HS.out w2 HB
          go_simp
          exact hK.out _ _ ⟨u6, u7, u8, u9, u10, u11, u12, .pointer (some ⟨w.heap.size, 2, none⟩), .agg #[.bool gxd, .slice Axd nxd cxd], u15, u16, u5, (by simp only [Act.put, List.setIfInBounds_toArray, List.set_cons_zero, List.set_cons_succ]), HB, (fun h => f0 (by simpa using h)), (fun h => f1 (by simpa using h)), (fun h => f2 (by simpa using h)), (fun h => f3 (by simpa using h)), (fun h => (f4 (by simpa using h))), (fun h => f5 (by simpa using h)), (fun h => f6 (by simpa using h)), (fun _ => rfl), (fun _ => rfl), (fun h => (f9 (by simpa using h))), (fun h => (f10 (by simpa using h))), (fun h => by simpa using (f11 (by simpa using h))), (fun h => by simpa using t0 (by simpa using h))⟩
        · intro d a2 w2 hd hm ⟨u6, u7, u8, u9, u10, u11, u12, u13, u14, u15, u16, u5, e, HB, f0, f1, f2, f3, f4, f5, f6, f7, f8, f9, f10, f11, t0⟩ K hK
          subst e
          simp only [Act.put, List.setIfInBounds_toArray, List.set_cons_zero, List.set_cons_succ]
          obtain rfl := f6 (hm ⟨6, .data⟩ (by simp) rfl)
          clear f6
          obtain rfl := f8 (hm ⟨8, .data⟩ (by simp) rfl)
          clear f8
          go_simp
          (with_reducible refine (rmul_z gyn gxd Ayn Axd nyn cyn nxd cxd _ (HI.out _ HB).2.num (HI.out _ HB).1.den sb.num sa.den).mono ?_)
          rintro e w3 ⟨gg, AA, nn, cc, rfl, hi, hb⟩
          have HB3 := HB.trans (hb.mono HB.size)
          go_wp2_with fail
          exact hK.out _ _ ⟨u6, u7, u8, u9, u10, u11, .agg #[.bool gyn, .slice Ayn nyn cyn], u13, .agg #[.bool gxd, .slice Axd nxd cxd], .agg #[.bool gg, .slice AA nn cc], u16, u5, (by simp only [Act.put, List.setIfInBounds_toArray, List.set_cons_zero, List.set_cons_succ]), HB3, (fun h => f0 (by simpa using h)), (fun h => f1 (by simpa using h)), (fun h => f2 (by simpa using h)), (fun h => f3 (by simpa using h)), (fun h => (f4 (by simpa using h)).below hb), (fun h => f5 (by simpa using h)), (fun _ => rfl), (fun h => f7 (by simpa using h)), (fun _ => rfl), (fun _ => ⟨_, _, _, _, rfl, hi⟩), (fun h => (f10 (by simpa using h)).below hb), (fun h => by simpa using (f11 (by simpa using h)).below hb), (fun h => by simpa using t0 (by simpa using h))⟩
        · intro d a2 w2 hd hm ⟨u6, u7, u8, u9, u10, u11, u12, u13, u14, u15, u16, u5, e, HB, f0, f1, f2, f3, f4, f5, f6, f7, f8, f9, f10, f11, t0⟩ K hK
          subst e
          simp only [Act.put, List.setIfInBounds_toArray, List.set_cons_zero, List.set_cons_succ]
          obtain ⟨G4, A4, N4, C4, rfl, I4⟩ := f4 (hm ⟨4, .data⟩ (by simp) rfl)
          obtain ⟨G9, A9, N9, C9, rfl, I9⟩ := f9 (hm ⟨9, .data⟩ (by simp) rfl)
          go_simp
          (with_reducible refine (radd_z G4 G9 A4 A9 N4 C4 N9 C9 _ I4 I9 Z1 Z2).mono ?_)
          rintro e w3 ⟨gg, AA, nn, cc, rfl, hi, hb⟩
          have HB3 := HB.trans (hb.mono HB.size)
          go_wp2_with fail
          exact hK.out _ _ ⟨u6, u7, u8, u9, .agg #[.bool G4, .slice A4 N4 C4], u11, u12, u13, u14, .agg #[.bool G9, .slice A9 N9 C9], .agg #[.bool gg, .slice AA nn cc], u5, (by simp only [Act.put, List.setIfInBounds_toArray, List.set_cons_zero, List.set_cons_succ]), HB3, (fun h => f0 (by simpa using h)), (fun h => f1 (by simpa using h)), (fun h => f2 (by simpa using h)), (fun h => f3 (by simpa using h)), (fun h => (f4 (by simpa using h)).below hb), (fun h => f5 (by simpa using h)), (fun h => f6 (by simpa using h)), (fun h => f7 (by simpa using h)), (fun h => f8 (by simpa using h)), (fun h => (f9 (by simpa using h)).below hb), (fun _ => ⟨_, _, _, _, rfl, hi⟩), (fun h => by simpa using (f11 (by simpa using h)).below hb), (fun h => by simpa using t0 (by simpa using h))⟩
        · intro d a2 w2 hd hm ⟨u6, u7, u8, u9, u10, u11, u12, u13, u14, u15, u16, u5, e, HB, f0, f1, f2, f3, f4, f5, f6, f7, f8, f9, f10, f11, t0⟩ K hK
          subst e
          simp only [Act.put, List.setIfInBounds_toArray, List.set_cons_zero, List.set_cons_succ]
          have hb : Below w2.heap.size w2 (w2.alloc (.cells #[.bool false, .slice none 0 0] 26)) := (Below.refl _ _).alloc (Nat.le_refl _) _
          have HB3 := HB.trans (hb.mono HB.size)
          go_simp
          exact hK.out _ _ ⟨u6, u7, u8, u9, u10, u11, u12, u13, u14, u15, u16, .pointer (some ⟨w2.heap.size, 0, none⟩), (by simp only [Act.put, List.setIfInBounds_toArray, List.set_cons_zero, List.set_cons_succ]), HB3, (fun h => f0 (by simpa using h)), (fun h => f1 (by simpa using h)), (fun h => f2 (by simpa using h)), (fun h => f3 (by simpa using h)), (fun h => (f4 (by simpa using h)).below hb), (fun h => f5 (by simpa using h)), (fun h => f6 (by simpa using h)), (fun h => f7 (by simpa using h)), (fun h => f8 (by simpa using h)), (fun h => (f9 (by simpa using h)).below hb), (fun h => (f10 (by simpa using h)).below hb), (fun _ => by have hs : d 12 = false := (by cases hq : d 12 with | false => rfl | true => (have hz := t0 hq; rw [hd] at hz; cases hz)); simpa [hs] using OwnP.new HB.size (a.num * b.den + b.num * a.den)), (fun _ => by simp)⟩
        · intro d a2 w2 hd hm ⟨u6, u7, u8, u9, u10, u11, u12, u13, u14, u15, u16, u5, e, HB, f0, f1, f2, f3, f4, f5, f6, f7, f8, f9, f10, f11, t0⟩ K hK
          subst e
          simp only [Act.put, List.setIfInBounds_toArray, List.set_cons_zero, List.set_cons_succ]
          obtain ⟨gg, AA, nn, cc, rfl, hi⟩ := f10 (hm ⟨10, .data⟩ (by simp) rfl)
          obtain ⟨g, rfl, hg, b0, b1, hs, n0, n1, _⟩ := f11 (hm ⟨11, .data⟩ (by simp) rfl)
          obtain ⟨k0, k1, k2, k3, k4⟩ := id hs
          go_simp
          exact hK.out _ _ ⟨u6, u7, u8, u9, u10, u11, u12, u13, u14, u15, .agg #[.bool gg, .slice AA nn cc], .pointer (some ⟨g, 0, none⟩), (by simp only [Act.put, List.setIfInBounds_toArray, List.set_cons_zero, List.set_cons_succ]), Below.set2 HB hg _ _, (fun h => f0 (by simpa using h)), (fun h => f1 (by simpa using h)), (fun h => f2 (by simpa using h)), (fun h => f3 (by simpa using h)), (fun h => (f4 (by simpa using h)).set2 hs n0 n1 _ _), (fun h => f5 (by simpa using h)), (fun h => f6 (by simpa using h)), (fun h => f7 (by simpa using h)), (fun h => f8 (by simpa using h)), (fun h => (f9 (by simpa using h)).set2 hs n0 n1 _ _), (fun h => (f10 (by simpa using h)).set2 hs n0 n1 _ _), (fun _ => by simpa using OwnP.near hi hg hs n0 n1), (fun _ => by simpa using hm ⟨11, .data⟩ (by simp) rfl)⟩
      · intro d a2 w2 hall ⟨u6, u7, u8, u9, u10, u11, u12, u13, u14, u15, u16, u5, e, HB, f0, f1, f2, f3, f4, f5, f6, f7, f8, f9, f10, f11, t0⟩
        subst e
        simp only [Act.put, List.setIfInBounds_toArray, List.set_cons_zero, List.set_cons_succ]
        obtain rfl := f0 (hall _ (by decide))
        obtain rfl := f1 (hall _ (by decide))
        obtain rfl := f2 (hall _ (by decide))
        obtain rfl := f3 (hall _ (by decide))
        obtain rfl := f5 (hall _ (by decide))
        obtain rfl := f6 (hall _ (by decide))
        obtain rfl := f7 (hall _ (by decide))
        obtain rfl := f8 (hall _ (by decide))
        obtain ⟨g0, rfl, h0, b0⟩ := OwnP.intAtB (by have := f11 (hall _ (by decide)); rwa [hall 12 (by decide)] at this)
        go_wp2_with fail
        go_meet
        exact ⟨g0, rfl, h0, b0, HB⟩
  case rest =>
  obtain ⟨gs, rfl, ⟨g_s, A_s, n_s, c_s, Ss, Is⟩, hgs, HB⟩ := hcut
  obtain ⟨W1, rfl⟩ : ∃ x : World, x = wc := ⟨_, rfl⟩
  replace X0 := X0.after HB
  replace Y0 := Y0.after HB
  have hgr : w.heap.size + 1 + 1 < W0.heap.size := R0.2.2.2.2.2.2.2.2
  replace R0 := R0.after HB
  replace Ixd := Ixd.below HB
  replace Iyd := Iyd.below HB
  replace B0 := B0.trans (HB.mono B0.size)
  clear HB HS HI Ix Iy Ixn Iyn
  go_upto_region 2 with (fail)
  have HS : Hid (∀ V, Below W1.heap.size W1 V → (V.cell? ⟨w.heap.size, 0, none⟩ = some (.bool gxn) ∧ V.cell? ⟨w.heap.size, 1, none⟩ = some (.slice Axn nxn cxn) ∧ V.cell? ⟨w.heap.size, 2, none⟩ = some (.bool gxd) ∧ V.cell? ⟨w.heap.size, 3, none⟩ = some (.slice Axd nxd cxd)) ∧ (V.cell? ⟨w.heap.size + 1, 0, none⟩ = some (.bool gyn) ∧ V.cell? ⟨w.heap.size + 1, 1, none⟩ = some (.slice Ayn nyn cyn) ∧ V.cell? ⟨w.heap.size + 1, 2, none⟩ = some (.bool gyd) ∧ V.cell? ⟨w.heap.size + 1, 3, none⟩ = some (.slice Ayd nyd cyd)) ∧ (V.cell? ⟨gs, 0, none⟩ = some (.bool g_s) ∧ V.cell? ⟨gs, 1, none⟩ = some (.slice A_s n_s c_s))) := fun V hV => ⟨(X0.after hV).cells, (Y0.after hV).cells, (Ss.after hV).1, (Ss.after hV).2.1⟩
  have Dr0 : Below W1.heap.size W1 W1.drew := (Below.refl _ _).drew
  refine wp_region_seq (.pre [(0, true), (1, true), (2, true), (3, true), (4, true), (5, false), (6, false), (7, false)] .done) (fun W => (W.cell? ⟨w.heap.size, 0, none⟩ = some (.bool gxn) ∧ W.cell? ⟨w.heap.size, 1, none⟩ = some (.slice Axn nxn cxn) ∧ W.cell? ⟨w.heap.size, 2, none⟩ = some (.bool gxd) ∧ W.cell? ⟨w.heap.size, 3, none⟩ = some (.slice Axd nxd cxd)) ∧ (W.cell? ⟨w.heap.size + 1, 0, none⟩ = some (.bool gyn) ∧ W.cell? ⟨w.heap.size + 1, 1, none⟩ = some (.slice Ayn nyn cyn) ∧ W.cell? ⟨w.heap.size + 1, 2, none⟩ = some (.bool gyd) ∧ W.cell? ⟨w.heap.size + 1, 3, none⟩ = some (.slice Ayd nyd cyd)) ∧ (W.cell? ⟨gs, 0, none⟩ = some (.bool g_s) ∧ W.cell? ⟨gs, 1, none⟩ = some (.slice A_s n_s c_s))) (by kernel_rfl) (by kernel_rfl) ?_ (by kernel_rfl) (HS.out _ Dr0) ?_
  · refine chk_pre _ _ _ (by as_aux_lemma => kernel_rfl) ?_
    exact (by as_aux_lemma => kernel_rfl)
  refine seq_take _ ?_ rfl (Or.inl ⟨by rfl, ?_⟩) ?_
  rotate_left
  · (intro w hSw; (try dsimp only at hSw); go_simp; (try with_reducible rfl))
  try simp only [Act.put, List.setIfInBounds_toArray, List.set_cons_zero, List.set_cons_succ]
  refine seq_take _ ?_ rfl (Or.inl ⟨by rfl, ?_⟩) ?_
  rotate_left
  · (intro w hSw; (try dsimp only at hSw); go_simp; (try with_reducible rfl))
  try simp only [Act.put, List.setIfInBounds_toArray, List.set_cons_zero, List.set_cons_succ]
  refine seq_take _ ?_ rfl (Or.inl ⟨by rfl, ?_⟩) ?_
  rotate_left
  · (intro w hSw; (try dsimp only at hSw); go_simp; (try with_reducible rfl))
  try simp only [Act.put, List.setIfInBounds_toArray, List.set_cons_zero, List.set_cons_succ]
  refine seq_take _ ?_ rfl (Or.inl ⟨by rfl, ?_⟩) ?_
  rotate_left
  · (intro w hSw; (try dsimp only at hSw); go_simp; (try with_reducible rfl))
  try simp only [Act.put, List.setIfInBounds_toArray, List.set_cons_zero, List.set_cons_succ]
  refine seq_take _ ?_ rfl (Or.inl ⟨by rfl, ?_⟩) ?_
  rotate_left
  · (intro w hSw; (try dsimp only at hSw); go_simp; (try with_reducible rfl))
  try simp only [Act.put, List.setIfInBounds_toArray, List.set_cons_zero, List.set_cons_succ]
  refine seq_one _ rfl fun K hK => ?_
  go_simp
  (with_reducible refine (rmul_z gxd gyd Axd Ayd nxd cxd nyd cyd _ (Ixd.below Dr0) (Iyd.below Dr0) sa.den sb.den).mono ?_)
  rintro e vr1 ⟨gr1, Ar1, nr1, cr1, rfl, ir1, br1⟩
  have Dr1 : Below W1.heap.size W1 vr1 := Below.trans Dr0 (br1.mono (Below.size Dr0))
  go_wp2_with fail
  refine hK.out _ _ (HS.out _ Dr1) (fun hHeld => ?_)
  clear hK K hHeld
  try simp only [Act.put, List.setIfInBounds_toArray, List.set_cons_zero, List.set_cons_succ]
  refine seq_one _ rfl fun K hK => ?_
  go_simp
  (with_reducible refine (rqofd_z g_s A_s n_s c_s gr1 Ar1 nr1 cr1 _ (Is.below Dr1) ir1 Z3 Z4 (by omega) HD.out).mono ?_)
  rintro e vr2 ⟨gnr2, Anr2, nnr2, cnr2, gdr2, Adr2, ndr2, cdr2, rfl, ir2, br2⟩
  have Dr2 : Below W1.heap.size W1 vr2 := Below.trans Dr1 (br2.mono (Below.size Dr1))
  go_wp2_with fail
  refine hK.out _ _ (HS.out _ Dr2) (fun hHeld => ?_)
  clear hK K hHeld
  try simp only [Act.put, List.setIfInBounds_toArray, List.set_cons_zero, List.set_cons_succ]
  refine seq_one _ rfl fun K hK => ?_
  have R1 := R0.after Dr2
  have ⟨r0, r1, r2, r3, k0, k1, k2, k3, _⟩ := R1
  go_simp
  refine hK.out _ _ (⟨((X0.after Dr2).far4 (by omega) _ _ _ _).cells, ((Y0.after Dr2).far4 (by omega) _ _ _ _).cells, ((Ss.after Dr2).far4 (by omega) _ _ _ _).1, ((Ss.after Dr2).far4 (by omega) _ _ _ _).2.1⟩) (fun hHeld => ?_)
  clear hK K hHeld
  try simp only [Act.put, List.setIfInBounds_toArray, List.set_cons_zero, List.set_cons_succ]
  refine NoPanic.normal ?_
  go_wp2
  have hs := R0.after Dr2
  rw [HQ.out] at ir2
  refine bodyPost_ret (v := .agg #[.bool gnr2, .slice Anr2 nnr2 cnr2, .bool gdr2, .slice Adr2 ndr2 cdr2]) (by obtain ⟨v0, v1, v2, v3⟩ := hs.set4e (.bool gnr2) (.slice Anr2 nnr2 cnr2) (.bool gdr2) (.slice Adr2 ndr2 cdr2); simp [results, Tryz.results20, go_sem, v0, v1, v2, v3]) rfl ⟨_, _, _, _, _, _, _, _, rfl, ir2.stored4 hs rfl rfl rfl rfl _ _ _ _, ?_⟩
  exact Below.set4 (B0.trans (Dr2.mono B0.size)) (by omega) _ _ _ _
set_option maxRecDepth 1000000 in
set_option maxHeartbeats 4000000 in
theorem rqsub_z (gxn : Bool) (Axn : Option Addr) (nxn cxn : Nat) (gxd : Bool) (Axd : Option Addr) (nxd cxd : Nat) (gyn : Bool) (Ayn : Option Addr) (nyn cyn : Nat) (gyd : Bool) (Ayd : Option Addr) (nyd cyd : Nat) {k l : Nat} {a b : Rat} (w : World) (ha : IsRat w gxn Axn nxn cxn gxd Axd nxd cxd a) (hb : IsRat w gyn Ayn nyn cyn gyd Ayd nyd cyd b) (sa : RSz k a) (sb : RSz l b) (hk : k + l + 1 + 1 + 1 ≤ 10000) :
    Calls Tryz.prog 22 #[.agg #[.bool gxn, .slice Axn nxn cxn, .bool gxd, .slice Axd nxd cxd], .agg #[.bool gyn, .slice Ayn nyn cyn, .bool gyd, .slice Ayd nyd cyd]] w (RetRat w (a - b)) := by
  obtain ⟨B0, X0, Y0, R0⟩ := frameQ3 w (.bool gxn) (.slice Axn nxn cxn) (.bool gxd) (.slice Axd nxd cxd) (.bool gyn) (.slice Ayn nyn cyn) (.bool gyd) (.slice Ayd nyd cyd) 28 28 28
  have Ix := ha.below B0
  have Iy := hb.below B0
  have Ixn := Ix.num
  have Ixd := Ix.den
  have Iyn := Iy.num
  have Iyd := Iy.den
  clear ha hb
  go_enter Tryz.func22, Tryz.ntmps22
  go_upto_region 1 with (fail)
  generalize ((w.alloc (.cells #[.bool gxn, .slice Axn nxn cxn, .bool gxd, .slice Axd nxd cxd] 28)).alloc (.cells #[.bool gyn, .slice Ayn nyn cyn, .bool gyd, .slice Ayd nyd cyd] 28)).alloc (.cells #[.bool false, .slice none 0 0, .bool false, .slice none 0 0] 28) = W0 at *
  have HS : Hid (∀ V, Below W0.heap.size W0 V → (V.cell? ⟨w.heap.size, 0, none⟩ = some (.bool gxn) ∧ V.cell? ⟨w.heap.size, 1, none⟩ = some (.slice Axn nxn cxn) ∧ V.cell? ⟨w.heap.size, 2, none⟩ = some (.bool gxd) ∧ V.cell? ⟨w.heap.size, 3, none⟩ = some (.slice Axd nxd cxd)) ∧ (V.cell? ⟨w.heap.size + 1, 0, none⟩ = some (.bool gyn) ∧ V.cell? ⟨w.heap.size + 1, 1, none⟩ = some (.slice Ayn nyn cyn) ∧ V.cell? ⟨w.heap.size + 1, 2, none⟩ = some (.bool gyd) ∧ V.cell? ⟨w.heap.size + 1, 3, none⟩ = some (.slice Ayd nyd cyd))) := fun V hV => ⟨(X0.after hV).cells, (Y0.after hV).cells⟩
  have Dp0 : Below W0.heap.size W0 W0.drew := (Below.refl _ _).drew
  refine wp_region_seq (.pre [(0, true), (1, true), (2, false), (3, false), (4, false)] .done) (fun W => (W.cell? ⟨w.heap.size, 0, none⟩ = some (.bool gxn) ∧ W.cell? ⟨w.heap.size, 1, none⟩ = some (.slice Axn nxn cxn) ∧ W.cell? ⟨w.heap.size, 2, none⟩ = some (.bool gxd) ∧ W.cell? ⟨w.heap.size, 3, none⟩ = some (.slice Axd nxd cxd)) ∧ (W.cell? ⟨w.heap.size + 1, 0, none⟩ = some (.bool gyn) ∧ W.cell? ⟨w.heap.size + 1, 1, none⟩ = some (.slice Ayn nyn cyn) ∧ W.cell? ⟨w.heap.size + 1, 2, none⟩ = some (.bool gyd) ∧ W.cell? ⟨w.heap.size + 1, 3, none⟩ = some (.slice Ayd nyd cyd))) (by kernel_rfl) (by kernel_rfl) ?_ (by kernel_rfl) (HS.out _ Dp0) ?_
  · refine chk_pre _ _ _ (by as_aux_lemma => kernel_rfl) ?_
    exact (by as_aux_lemma => kernel_rfl)
  refine seq_take _ ?_ rfl (Or.inl ⟨by rfl, ?_⟩) ?_
  rotate_left
  · (intro w hSw; (try dsimp only at hSw); go_simp; (try with_reducible rfl))
  try simp only [Act.put, List.setIfInBounds_toArray, List.set_cons_zero, List.set_cons_succ]
  refine seq_take _ ?_ rfl (Or.inl ⟨by rfl, ?_⟩) ?_
  rotate_left
  · (intro w hSw; (try dsimp only at hSw); go_simp; (try with_reducible rfl))
  try simp only [Act.put, List.setIfInBounds_toArray, List.set_cons_zero, List.set_cons_succ]
  refine seq_one _ rfl fun K hK => ?_
  go_simp
  (with_reducible refine (rqneg_z gyn Ayn nyn cyn gyd Ayd nyd cyd _ (Iy.below Dp0) sb).mono ?_)
  rintro e vp1 ⟨gnp1, Anp1, nnp1, cnp1, gdp1, Adp1, ndp1, cdp1, rfl, ip1, bp1⟩
  have Dp1 : Below W0.heap.size W0 vp1 := Below.trans Dp0 (bp1.mono (Below.size Dp0))
  go_wp2_with fail
  refine hK.out _ _ (HS.out _ Dp1) (fun hHeld => ?_)
  clear hK K hHeld
  try simp only [Act.put, List.setIfInBounds_toArray, List.set_cons_zero, List.set_cons_succ]
  refine seq_one _ rfl fun K hK => ?_
  go_simp
  (with_reducible refine (rqadd_z gxn Axn nxn cxn gxd Axd nxd cxd gnp1 Anp1 nnp1 cnp1 gdp1 Adp1 ndp1 cdp1 _ (Ix.below Dp1) ip1 sa sb.neg hk).mono ?_)
  rintro e vp2 ⟨gnp2, Anp2, nnp2, cnp2, gdp2, Adp2, ndp2, cdp2, rfl, ip2, bp2⟩
  have Dp2 : Below W0.heap.size W0 vp2 := Below.trans Dp1 (bp2.mono (Below.size Dp1))
  go_wp2_with fail
  refine hK.out _ _ (HS.out _ Dp2) (fun hHeld => ?_)
  clear hK K hHeld
  try simp only [Act.put, List.setIfInBounds_toArray, List.set_cons_zero, List.set_cons_succ]
  refine seq_one _ rfl fun K hK => ?_
  have R1 := R0.after Dp2
  have ⟨r0, r1, r2, r3, k0, k1, k2, k3, _⟩ := R1
  go_simp
  refine hK.out _ _ (⟨((X0.after Dp2).far4 (by omega) _ _ _ _).cells, ((Y0.after Dp2).far4 (by omega) _ _ _ _).cells⟩) (fun hHeld => ?_)
  clear hK K hHeld
  try simp only [Act.put, List.setIfInBounds_toArray, List.set_cons_zero, List.set_cons_succ]
  refine NoPanic.normal ?_
  go_wp2
  have hs := R0.after Dp2
  rw [← Rat.sub_eq_add_neg] at ip2
  refine bodyPost_ret (v := .agg #[.bool gnp2, .slice Anp2 nnp2 cnp2, .bool gdp2, .slice Adp2 ndp2 cdp2]) (by obtain ⟨v0, v1, v2, v3⟩ := hs.set4e (.bool gnp2) (.slice Anp2 nnp2 cnp2) (.bool gdp2) (.slice Adp2 ndp2 cdp2); simp [results, Tryz.results22, go_sem, v0, v1, v2, v3]) rfl ⟨_, _, _, _, _, _, _, _, rfl, ip2.stored4 hs rfl rfl rfl rfl _ _ _ _, ?_⟩
  exact Below.set4 (B0.trans (Dp2.mono B0.size)) (by omega) _ _ _ _
set_option maxRecDepth 1000000 in
set_option maxHeartbeats 4000000 in
theorem rqcmp_z (gxn : Bool) (Axn : Option Addr) (nxn cxn : Nat) (gxd : Bool) (Axd : Option Addr) (nxd cxd : Nat) (gyn : Bool) (Ayn : Option Addr) (nyn cyn : Nat) (gyd : Bool) (Ayd : Option Addr) (nyd cyd : Nat) {k l : Nat} {a b : Rat} (w : World) (s : Int) (ha : IsRat w gxn Axn nxn cxn gxd Axd nxd cxd a) (hb : IsRat w gyn Ayn nyn cyn gyd Ayd nyd cyd b) (sa : RSz k a) (sb : RSz l b) (hk : k + l ≤ 10000) (h : cq a b = s) :
    Calls Tryz.prog 37 #[.agg #[.bool gxn, .slice Axn nxn cxn, .bool gxd, .slice Axd nxd cxd], .agg #[.bool gyn, .slice Ayn nyn cyn, .bool gyd, .slice Ayd nyd cyd]] w fun e w' => e = .returned (.int .i64 s) ∧ Below w.heap.size w w' := by
  obtain ⟨B0, X0, Y0⟩ := frameQ2p w (.bool gxn) (.slice Axn nxn cxn) (.bool gxd) (.slice Axd nxd cxd) (.bool gyn) (.slice Ayn nyn cyn) (.bool gyd) (.slice Ayd nyd cyd) 28 28
  have Ixn := ha.num.below B0
  have Ixd := ha.den.below B0
  have Iyn := hb.num.below B0
  have Iyd := hb.den.below B0
  have hc : cmpN (a.num * b.den) (b.num * a.den) = s := by rw [← h, ← cq_of]; rfl
  have HC := Lib.hid hc
  clear ha hb h hc
  have Z1 : Sz (k + l) (a.num * b.den) := sa.num.mul sb.den (by omega)
  have Z2 : Sz (l + k) (b.num * a.den) := sb.num.mul sa.den (by omega)
  go_enter Tryz.func37, Tryz.ntmps37
  go_upto_region 1 with (fail)
  generalize (w.alloc (.cells #[.bool gxn, .slice Axn nxn cxn, .bool gxd, .slice Axd nxd cxd] 28)).alloc (.cells #[.bool gyn, .slice Ayn nyn cyn, .bool gyd, .slice Ayd nyd cyd] 28) = W0 at *
  have HS : Hid (∀ V, Below W0.heap.size W0 V → (V.cell? ⟨w.heap.size, 0, none⟩ = some (.bool gxn) ∧ V.cell? ⟨w.heap.size, 1, none⟩ = some (.slice Axn nxn cxn) ∧ V.cell? ⟨w.heap.size, 2, none⟩ = some (.bool gxd) ∧ V.cell? ⟨w.heap.size, 3, none⟩ = some (.slice Axd nxd cxd)) ∧ (V.cell? ⟨w.heap.size + 1, 0, none⟩ = some (.bool gyn) ∧ V.cell? ⟨w.heap.size + 1, 1, none⟩ = some (.slice Ayn nyn cyn) ∧ V.cell? ⟨w.heap.size + 1, 2, none⟩ = some (.bool gyd) ∧ V.cell? ⟨w.heap.size + 1, 3, none⟩ = some (.slice Ayd nyd cyd))) := fun V hV => ⟨(X0.after hV).cells, (Y0.after hV).cells⟩
  have Dp0 : Below W0.heap.size W0 W0.drew := (Below.refl _ _).drew
  refine wp_region_seq (.pre [(0, true), (1, true), (2, true), (3, true), (5, true), (6, true), (7, true), (8, true), (4, false), (9, false), (10, false), (11, true)] .done) (fun W => (W.cell? ⟨w.heap.size, 0, none⟩ = some (.bool gxn) ∧ W.cell? ⟨w.heap.size, 1, none⟩ = some (.slice Axn nxn cxn) ∧ W.cell? ⟨w.heap.size, 2, none⟩ = some (.bool gxd) ∧ W.cell? ⟨w.heap.size, 3, none⟩ = some (.slice Axd nxd cxd)) ∧ (W.cell? ⟨w.heap.size + 1, 0, none⟩ = some (.bool gyn) ∧ W.cell? ⟨w.heap.size + 1, 1, none⟩ = some (.slice Ayn nyn cyn) ∧ W.cell? ⟨w.heap.size + 1, 2, none⟩ = some (.bool gyd) ∧ W.cell? ⟨w.heap.size + 1, 3, none⟩ = some (.slice Ayd nyd cyd))) (by kernel_rfl) (by kernel_rfl) ?_ (by kernel_rfl) (HS.out _ Dp0) ?_
  · refine chk_pre _ _ _ (by as_aux_lemma => kernel_rfl) ?_
    exact (by as_aux_lemma => kernel_rfl)
  refine seq_take _ ?_ rfl (Or.inl ⟨by rfl, ?_⟩) ?_
  rotate_left
  · (intro w hSw; (try dsimp only at hSw); go_simp; (try with_reducible rfl))
  try simp only [Act.put, List.setIfInBounds_toArray, List.set_cons_zero, List.set_cons_succ]
  refine seq_take _ ?_ rfl (Or.inl ⟨by rfl, ?_⟩) ?_
  rotate_left
  · (intro w hSw; (try dsimp only at hSw); go_simp; (try with_reducible rfl))
  try simp only [Act.put, List.setIfInBounds_toArray, List.set_cons_zero, List.set_cons_succ]
  refine seq_take _ ?_ rfl (Or.inl ⟨by rfl, ?_⟩) ?_
  rotate_left
  · (intro w hSw; (try dsimp only at hSw); go_simp; (try with_reducible rfl))
  try simp only [Act.put, List.setIfInBounds_toArray, List.set_cons_zero, List.set_cons_succ]
  refine seq_take _ ?_ rfl (Or.inl ⟨by rfl, ?_⟩) ?_
  rotate_left
  · (intro w hSw; (try dsimp only at hSw); go_simp; (try with_reducible rfl))
  try simp only [Act.put, List.setIfInBounds_toArray, List.set_cons_zero, List.set_cons_succ]
  refine seq_take _ ?_ rfl (Or.inl ⟨by rfl, ?_⟩) ?_
  rotate_left
  · (intro w hSw; (try dsimp only at hSw); go_simp; (try with_reducible rfl))
  try simp only [Act.put, List.setIfInBounds_toArray, List.set_cons_zero, List.set_cons_succ]
  refine seq_take _ ?_ rfl (Or.inl ⟨by rfl, ?_⟩) ?_
  rotate_left
  · (intro w hSw; (try dsimp only at hSw); go_simp; (try with_reducible rfl))
  try simp only [Act.put, List.setIfInBounds_toArray, List.set_cons_zero, List.set_cons_succ]
  refine seq_take _ ?_ rfl (Or.inl ⟨by rfl, ?_⟩) ?_
  rotate_left
  · (intro w hSw; (try dsimp only at hSw); go_simp; (try with_reducible rfl))
  try simp only [Act.put, List.setIfInBounds_toArray, List.set_cons_zero, List.set_cons_succ]
  refine seq_take _ ?_ rfl (Or.inl ⟨by rfl, ?_⟩) ?_
  rotate_left
  · (intro w hSw; (try dsimp only at hSw); go_simp; (try with_reducible rfl))
  try simp only [Act.put, List.setIfInBounds_toArray, List.set_cons_zero, List.set_cons_succ]
  refine seq_one _ rfl fun K hK => ?_
  go_simp
  (with_reducible refine (rmul_z gxn gyd Axn Ayd nxn cxn nyd cyd _ (Ixn.below Dp0) (Iyd.below Dp0) sa.num sb.den).mono ?_)
  rintro e vp1 ⟨gp1, Ap1, np1, cp1, rfl, ip1, bp1⟩
  have Dp1 : Below W0.heap.size W0 vp1 := Below.trans Dp0 (bp1.mono (Below.size Dp0))
  go_wp2_with fail
  refine hK.out _ _ (HS.out _ Dp1) (fun hHeld => ?_)
  clear hK K hHeld
  try simp only [Act.put, List.setIfInBounds_toArray, List.set_cons_zero, List.set_cons_succ]
  refine seq_one _ rfl fun K hK => ?_
  go_simp
  (with_reducible refine (rmul_z gyn gxd Ayn Axd nyn cyn nxd cxd _ (Iyn.below Dp1) (Ixd.below Dp1) sb.num sa.den).mono ?_)
  rintro e vp2 ⟨gp2, Ap2, np2, cp2, rfl, ip2, bp2⟩
  have Dp2 : Below W0.heap.size W0 vp2 := Below.trans Dp1 (bp2.mono (Below.size Dp1))
  go_wp2_with fail
  refine hK.out _ _ (HS.out _ Dp2) (fun hHeld => ?_)
  clear hK K hHeld
  try simp only [Act.put, List.setIfInBounds_toArray, List.set_cons_zero, List.set_cons_succ]
  refine seq_one _ rfl fun K hK => ?_
  go_simp
  (with_reducible refine (rcmp_z gp1 gp2 Ap1 Ap2 np1 cp1 np2 cp2 _ s (ip1.below bp2) ip2 Z1 Z2 HC.out).mono ?_)
  rintro e vp3 ⟨rfl, bp3⟩
  have Dp3 : Below W0.heap.size W0 vp3 := Below.trans Dp2 (bp3.mono (Below.size Dp2))
  go_wp2_with fail
  refine hK.out _ _ (HS.out _ Dp3) (fun hHeld => ?_)
  clear hK K hHeld
  try simp only [Act.put, List.setIfInBounds_toArray, List.set_cons_zero, List.set_cons_succ]
  refine seq_take _ ?_ rfl (Or.inl ⟨by rfl, ?_⟩) ?_
  rotate_left
  · (intro w hSw; (try dsimp only at hSw); go_simp; (try with_reducible rfl))
  try simp only [Act.put, List.setIfInBounds_toArray, List.set_cons_zero, List.set_cons_succ]
  refine NoPanic.normal ?_
  go_wp2_with fail
  go_ret
  exact ⟨rfl, B0.trans (Dp3.mono B0.size)⟩
set_option maxRecDepth 1000000 in
set_option maxHeartbeats 4000000 in
theorem rqsign_z (gxn : Bool) (Axn : Option Addr) (nxn cxn : Nat) (gxd : Bool) (Axd : Option Addr) (nxd cxd : Nat) {n : Int} (s : Int) (w : World) (hn : IsInt w gxn Axn nxn cxn n) (h : sgn n = s) :
    Calls Tryz.prog 39 #[.agg #[.bool gxn, .slice Axn nxn cxn, .bool gxd, .slice Axd nxd cxd]] w fun e w' => e = .returned (.int .i64 s) ∧ Below w.heap.size w w' := by
  have B0 := (Below.refl w.heap.size w).alloc (Nat.le_refl _) (.cells #[.bool gxn, .slice Axn nxn cxn, .bool gxd, .slice Axd nxd cxd] 28)
  have R0 := Slot4.new w (.bool gxn) (.slice Axn nxn cxn) (.bool gxd) (.slice Axd nxd cxd) 28
  have In := hn.below B0
  have ⟨r0, r1, r2, r3, _⟩ := R0
  go_enter Tryz.func39, Tryz.ntmps39
  go_wp2_with fail
  (with_reducible refine (rsign_z gxn Axn nxn cxn _ s In h).mono ?_)
  rintro e w1 ⟨rfl, hb1⟩
  go_wp2
  go_ret
  exact ⟨rfl, B0.trans (hb1.mono B0.size)⟩
set_option maxRecDepth 1000000 in
set_option maxHeartbeats 4000000 in
theorem rqvalid_z (gxn : Bool) (Axn : Option Addr) (nxn cxn : Nat) (gxd : Bool) (Axd : Option Addr) (nxd cxd : Nat) {k : Nat} {a : Rat} (w : World) (ha : IsRat w gxn Axn nxn cxn gxd Axd nxd cxd a) (sa : RSz k a) (hk : k + 1 + 1 ≤ 10000) :
    Calls Tryz.prog 18 #[.agg #[.bool gxn, .slice Axn nxn cxn, .bool gxd, .slice Axd nxd cxd]] w fun e w' => e = .returned (.bool true) ∧ Below w.heap.size w w' := by
  have B := (Below.refl w.heap.size w).alloc (Nat.le_refl _) (.cells #[.bool gxn, .slice Axn nxn cxn, .bool gxd, .slice Axd nxd cxd] 28)
  have X0 := Slot4.new w (.bool gxn) (.slice Axn nxn cxn) (.bool gxd) (.slice Axd nxd cxd) 28
  have Ix := ha.below B
  have HS1 : Hid (sgn (a.den : Int) = 1) := by
    have := a.den_pos
    show sgn (a.den : Int) = 1
    unfold sgn; rw [if_neg (by omega), if_pos (by omega)]
  have hg : ((Nat.gcd a.num.natAbs ((a.den : Int)).natAbs : Nat) : Int) = 1 := by rw [Int.natAbs_natCast]; have := a.reduced; unfold Nat.Coprime at this; omega
  have HG := Lib.hid hg
  clear ha hg
  go_enter Tryz.func18, Tryz.ntmps18
  have ⟨X0c0, X0c1, X0c2, X0c3, _⟩ := X0
  go_wp2_with fail
  (with_reducible refine (rvalid_z gxn Axn nxn cxn _ Ix.num).mono ?_)
  rintro e w1 ⟨rfl, ba⟩
  clear X0c0 X0c1 X0c2 X0c3
  replace X0 := X0.after ba
  replace Ix := Ix.below ba
  replace B := B.trans (ba.mono B.size)
  clear ba
  have ⟨X0c0, X0c1, X0c2, X0c3, _⟩ := X0
  go_wp2_with fail
  (with_reducible refine (rvalid_z gxd Axd nxd cxd _ Ix.den).mono ?_)
  rintro e w2 ⟨rfl, bb⟩
  clear X0c0 X0c1 X0c2 X0c3
  replace X0 := X0.after bb
  replace Ix := Ix.below bb
  replace B := B.trans (bb.mono B.size)
  clear bb
  have ⟨X0c0, X0c1, X0c2, X0c3, _⟩ := X0
  go_wp2_with fail
  (with_reducible refine (rsign_z gxd Axd nxd cxd _ 1 Ix.den HS1.out).mono ?_)
  rintro e w3 ⟨rfl, bc⟩
  clear X0c0 X0c1 X0c2 X0c3
  replace X0 := X0.after bc
  replace Ix := Ix.below bc
  replace B := B.trans (bc.mono B.size)
  clear bc
  have ⟨X0c0, X0c1, X0c2, X0c3, _⟩ := X0
  go_wp2_with fail
  (with_reducible refine (rgcd_z gxn gxd Axn Axd nxn cxn nxd cxd _ Ix.num Ix.den sa.num sa.den hk).mono ?_)
  rintro e w4 ⟨gd, Ad, nd, cd, rfl, id, bd⟩
  clear X0c0 X0c1 X0c2 X0c3
  replace X0 := X0.after bd
  replace Ix := Ix.below bd
  replace B := B.trans (bd.mono B.size)
  clear bd
  rw [HG.out] at id
  go_wp2_with fail
  (with_reducible refine (rof_any 1 _ (by decide) (by decide)).mono ?_)
  rintro e w5 ⟨ge, Ae, ne, ce, rfl, ie, be⟩
  replace X0 := X0.after be
  replace Ix := Ix.below be
  replace id := id.below be
  replace B := B.trans (be.mono B.size)
  clear be
  go_wp2_with fail
  (with_reducible refine (rcmp_z gd ge Ad Ae nd cd ne ce _ 0 id ie (Sz.of (by decide) (by decide) : Sz 1 1) (Sz.of (by decide) (by decide) : Sz 1 1) (cmpN_eq 1)).mono ?_)
  rintro e w6 ⟨rfl, bf⟩
  replace X0 := X0.after bf
  replace Ix := Ix.below bf
  replace id := id.below bf
  replace ie := ie.below bf
  replace B := B.trans (bf.mono B.size)
  clear bf
  go_wp2
  go_ret
  exact ⟨rfl, B⟩
end Go.Proofs.YtlpoboikompjfaaGreatDoor
