/- Contracts of the other functions of package rational. Contracts of rational.Text, and of Valid at the zero value. The fixed examples of layer 2. -/
import Derived.Test.YtlpoboikompjfaaGreatDoorVG25RatR
import Derived.Test.YtlpoboikompjfaaGreatDoorVLawRootK
import Derived.Test.YtlpoboikompjfaaGreatDoorVG7AddB
import Derived.Test.YtlpoboikompjfaaGreatDoorVG10DivMod
namespace Go.Proofs.YtlpoboikompjfaaGreatDoor
open Go.RowKit

set_option maxRecDepth 1000000 in
set_option maxHeartbeats 4000000 in
theorem qcmp_z (gxn : Bool) (Axn : Option Addr) (nxn cxn : Nat) (gxd : Bool) (Axd : Option Addr) (nxd cxd : Nat) (gyn : Bool) (Ayn : Option Addr) (nyn cyn : Nat) (gyd : Bool) (Ayd : Option Addr) (nyd cyd : Nat) {k l : Nat} {a b : Rat} (w : World) (s : Int) (ha : IsRat w gxn Axn nxn cxn gxd Axd nxd cxd a) (hb : IsRat w gyn Ayn nyn cyn gyd Ayd nyd cyd b) (sa : RSz k a) (sb : RSz l b) (hk : k + l ≤ 10000) (h : cq a b = s) :
    Calls Tryz.prog 36 #[.agg #[.bool gxn, .slice Axn nxn cxn, .bool gxd, .slice Axd nxd cxd], .agg #[.bool gyn, .slice Ayn nyn cyn, .bool gyd, .slice Ayd nyd cyd]] w fun e w' => e = .returned (.int .i64 s) ∧ Below w.heap.size w w' := by
  obtain ⟨B0, X0, Y0⟩ := frameQ2p w (.bool gxn) (.slice Axn nxn cxn) (.bool gxd) (.slice Axd nxd cxd) (.bool gyn) (.slice Ayn nyn cyn) (.bool gyd) (.slice Ayd nyd cyd) 28 28
  have Ixn := ha.num.below B0
  have Ixd := ha.den.below B0
  have Iyn := hb.num.below B0
  have Iyd := hb.den.below B0
  have hc : cmpN (a.num * b.den) (b.num * a.den) = s := by rw [← h, ← cq_of]; rfl
  have HC := Lib.hid hc
  clear ha hb h hc
  have Z1 : Sz (k + l) (a.num * b.den) := sa.num.mul sb.den (by omega)
  have Z2 : Sz (l + k) (b.num * a.den) := sb.num.mul sa.den (by omega)
  go_enter Tryz.func36, Tryz.ntmps36
  go_upto_region 1 with (fail)
  generalize (w.alloc (.cells #[.bool gxn, .slice Axn nxn cxn, .bool gxd, .slice Axd nxd cxd] 28)).alloc (.cells #[.bool gyn, .slice Ayn nyn cyn, .bool gyd, .slice Ayd nyd cyd] 28) = W0 at *
  have HS : Hid (∀ V, Below W0.heap.size W0 V → (V.cell? ⟨w.heap.size, 0, none⟩ = some (.bool gxn) ∧ V.cell? ⟨w.heap.size, 1, none⟩ = some (.slice Axn nxn cxn) ∧ V.cell? ⟨w.heap.size, 2, none⟩ = some (.bool gxd) ∧ V.cell? ⟨w.heap.size, 3, none⟩ = some (.slice Axd nxd cxd)) ∧ (V.cell? ⟨w.heap.size + 1, 0, none⟩ = some (.bool gyn) ∧ V.cell? ⟨w.heap.size + 1, 1, none⟩ = some (.slice Ayn nyn cyn) ∧ V.cell? ⟨w.heap.size + 1, 2, none⟩ = some (.bool gyd) ∧ V.cell? ⟨w.heap.size + 1, 3, none⟩ = some (.slice Ayd nyd cyd))) := fun V hV => ⟨(X0.after hV).cells, (Y0.after hV).cells⟩
  have Dp0 : Below W0.heap.size W0 W0.drew := (Below.refl _ _).drew
  refine wp_region_seq (.pre [(0, true), (1, true), (2, true), (3, true), (5, true), (6, true), (7, true), (8, true), (4, false), (9, false), (10, false), (11, true)] .done) (fun W => (W.cell? ⟨w.heap.size, 0, none⟩ = some (.bool gxn) ∧ W.cell? ⟨w.heap.size, 1, none⟩ = some (.slice Axn nxn cxn) ∧ W.cell? ⟨w.heap.size, 2, none⟩ = some (.bool gxd) ∧ W.cell? ⟨w.heap.size, 3, none⟩ = some (.slice Axd nxd cxd)) ∧ (W.cell? ⟨w.heap.size + 1, 0, none⟩ = some (.bool gyn) ∧ W.cell? ⟨w.heap.size + 1, 1, none⟩ = some (.slice Ayn nyn cyn) ∧ W.cell? ⟨w.heap.size + 1, 2, none⟩ = some (.bool gyd) ∧ W.cell? ⟨w.heap.size + 1, 3, none⟩ = some (.slice Ayd nyd cyd))) (by kernel_rfl) (by kernel_rfl) ?_ (by kernel_rfl) (HS.out _ Dp0) ?_
  · refine chk_pre _ _ _ (by as_aux_lemma => kernel_rfl) ?_
    exact (by as_aux_lemma => kernel_rfl)
  refine seq_take _ ?_ rfl (Or.inl ⟨by rfl, ?_⟩) ?_
  rotate_left
  · (intro w hSw; (try dsimp only at hSw); go_simp; (try with_reducible rfl))
  try simp only [Act.put, List.setIfInBounds_toArray, List.set_cons_zero, List.set_cons_succ]
  refine seq_take _ ?_ rfl (Or.inl ⟨by rfl, ?_⟩) ?_
  rotate_left
  · (intro w hSw; (try dsimp only at hSw); go_simp; (try with_reducible rfl))
  try simp only [Act.put, List.setIfInBounds_toArray, List.set_cons_zero, List.set_cons_succ]
  refine seq_take _ ?_ rfl (Or.inl ⟨by rfl, ?_⟩) ?_
  rotate_left
  · (intro w hSw; (try dsimp only at hSw); go_simp; (try with_reducible rfl))
  try simp only [Act.put, List.setIfInBounds_toArray, List.set_cons_zero, List.set_cons_succ]
  refine seq_take _ ?_ rfl (Or.inl ⟨by rfl, ?_⟩) ?_
  rotate_left
  · (intro w hSw; (try dsimp only at hSw); go_simp; (try with_reducible rfl))
  try simp only [Act.put, List.setIfInBounds_toArray, List.set_cons_zero, List.set_cons_succ]
  refine seq_take _ ?_ rfl (Or.inl ⟨by rfl, ?_⟩) ?_
  rotate_left
  · (intro w hSw; (try dsimp only at hSw); go_simp; (try with_reducible rfl))
  try simp only [Act.put, List.setIfInBounds_toArray, List.set_cons_zero, List.set_cons_succ]
  refine seq_take _ ?_ rfl (Or.inl ⟨by rfl, ?_⟩) ?_
  rotate_left
  · (intro w hSw; (try dsimp only at hSw); go_simp; (try with_reducible rfl))
  try simp only [Act.put, List.setIfInBounds_toArray, List.set_cons_zero, List.set_cons_succ]
  refine seq_take _ ?_ rfl (Or.inl ⟨by rfl, ?_⟩) ?_
  rotate_left
  · (intro w hSw; (try dsimp only at hSw); go_simp; (try with_reducible rfl))
  try simp only [Act.put, List.setIfInBounds_toArray, List.set_cons_zero, List.set_cons_succ]
  refine seq_take _ ?_ rfl (Or.inl ⟨by rfl, ?_⟩) ?_
  rotate_left
  · (intro w hSw; (try dsimp only at hSw); go_simp; (try with_reducible rfl))
  try simp only [Act.put, List.setIfInBounds_toArray, List.set_cons_zero, List.set_cons_succ]
  refine seq_one _ rfl fun K hK => ?_
  go_simp
  (with_reducible refine (mul_z' gxn gyd Axn Ayd nxn cxn nyd cyd _ (Ixn.below Dp0) (Iyd.below Dp0) sa.num sb.den).mono ?_)
  rintro e vp1 ⟨gp1, Ap1, np1, cp1, rfl, ip1, bp1⟩
  have Dp1 : Below W0.heap.size W0 vp1 := Below.trans Dp0 (bp1.mono (Below.size Dp0))
  go_wp2_with fail
  refine hK.out _ _ (HS.out _ Dp1) (fun hHeld => ?_)
  clear hK K hHeld
  try simp only [Act.put, List.setIfInBounds_toArray, List.set_cons_zero, List.set_cons_succ]
  refine seq_one _ rfl fun K hK => ?_
  go_simp
  (with_reducible refine (mul_z' gyn gxd Ayn Axd nyn cyn nxd cxd _ (Iyn.below Dp1) (Ixd.below Dp1) sb.num sa.den).mono ?_)
  rintro e vp2 ⟨gp2, Ap2, np2, cp2, rfl, ip2, bp2⟩
  have Dp2 : Below W0.heap.size W0 vp2 := Below.trans Dp1 (bp2.mono (Below.size Dp1))
  go_wp2_with fail
  refine hK.out _ _ (HS.out _ Dp2) (fun hHeld => ?_)
  clear hK K hHeld
  try simp only [Act.put, List.setIfInBounds_toArray, List.set_cons_zero, List.set_cons_succ]
  refine seq_one _ rfl fun K hK => ?_
  go_simp
  (with_reducible refine (cmp_z gp1 gp2 Ap1 Ap2 np1 cp1 np2 cp2 _ s (ip1.below bp2) ip2 HC.out).mono ?_)
  rintro e vp3 ⟨rfl, bp3⟩
  have Dp3 : Below W0.heap.size W0 vp3 := Below.trans Dp2 (bp3.mono (Below.size Dp2))
  go_wp2_with fail
  refine hK.out _ _ (HS.out _ Dp3) (fun hHeld => ?_)
  clear hK K hHeld
  try simp only [Act.put, List.setIfInBounds_toArray, List.set_cons_zero, List.set_cons_succ]
  refine seq_take _ ?_ rfl (Or.inl ⟨by rfl, ?_⟩) ?_
  rotate_left
  · (intro w hSw; (try dsimp only at hSw); go_simp; (try with_reducible rfl))
  try simp only [Act.put, List.setIfInBounds_toArray, List.set_cons_zero, List.set_cons_succ]
  refine NoPanic.normal ?_
  go_wp2_with fail
  go_ret
  exact ⟨rfl, B0.trans (Dp3.mono B0.size)⟩
set_option maxRecDepth 1000000 in
set_option maxHeartbeats 4000000 in
theorem qone_t (gx : Bool) (Ax : Option Addr) (nx cx : Nat) {z : Int} (w : World) (ha : IsInt w gx Ax nx cx z) (h1 : z = 1) :
    Calls Tryz.prog 70 #[.agg #[.bool gx, .slice Ax nx cx]] w fun e w' => e = .returned (.bool true) ∧ Below w.heap.size w w' := by
  have B0 := (Below.refl w.heap.size w).alloc (Nat.le_refl _) (.cells #[.bool gx, .slice Ax nx cx] 26)
  have X0 := Slot2.new w (.bool gx) (.slice Ax nx cx) 26
  have Ix := ha.below B0
  clear ha
  have HC : Hid (cmpN z 1 = 0) := by rw [h1]; exact cmpN_eq 1
  clear h1
  go_enter Tryz.func70, Tryz.ntmps70
  go_upto_region 1 with (fail)
  generalize w.alloc (.cells #[.bool gx, .slice Ax nx cx] 26) = W0 at *
  have HS : Hid (∀ V, Below W0.heap.size W0 V → V.cell? ⟨w.heap.size, 0, none⟩ = some (.bool gx) ∧ V.cell? ⟨w.heap.size, 1, none⟩ = some (.slice Ax nx cx)) := fun V hV => ⟨(X0.after hV).1, (X0.after hV).2.1⟩
  have Dp0 : Below W0.heap.size W0 W0.drew := (Below.refl _ _).drew
  refine wp_region_seq (.pre [(0, true), (1, false), (2, false), (3, true), (4, true)] .done) (fun W => W.cell? ⟨w.heap.size, 0, none⟩ = some (.bool gx) ∧ W.cell? ⟨w.heap.size, 1, none⟩ = some (.slice Ax nx cx)) (by kernel_rfl) (by kernel_rfl) ?_ (by kernel_rfl) (HS.out _ Dp0) ?_
  · refine chk_pre _ _ _ (by as_aux_lemma => kernel_rfl) ?_
    exact (by as_aux_lemma => kernel_rfl)
  refine seq_take _ ?_ rfl (Or.inl ⟨by rfl, ?_⟩) ?_
  rotate_left
  · (intro w hSw; (try dsimp only at hSw); go_simp; (try with_reducible rfl))
  try simp only [Act.put, List.setIfInBounds_toArray, List.set_cons_zero, List.set_cons_succ]
  refine seq_one _ rfl fun K hK => ?_
  go_simp
  (with_reducible refine (of_any 1 _ (by decide) (by decide)).mono ?_)
  rintro e vp1 ⟨gp1, Ap1, np1, cp1, rfl, ip1, bp1⟩
  have Dp1 : Below W0.heap.size W0 vp1 := Below.trans Dp0 (bp1.mono (Below.size Dp0))
  go_wp2_with fail
  refine hK.out _ _ (HS.out _ Dp1) (fun hHeld => ?_)
  clear hK K hHeld
  try simp only [Act.put, List.setIfInBounds_toArray, List.set_cons_zero, List.set_cons_succ]
  refine seq_one _ rfl fun K hK => ?_
  go_simp
  (with_reducible refine (cmp_z gx gp1 Ax Ap1 nx cx np1 cp1 _ 0 (Ix.below Dp1) ip1 HC.out).mono ?_)
  rintro e vp2 ⟨rfl, bp2⟩
  have Dp2 : Below W0.heap.size W0 vp2 := Below.trans Dp1 (bp2.mono (Below.size Dp1))
  go_wp2_with fail
  refine hK.out _ _ (HS.out _ Dp2) (fun hHeld => ?_)
  clear hK K hHeld
  try simp only [Act.put, List.setIfInBounds_toArray, List.set_cons_zero, List.set_cons_succ]
  refine seq_take _ ?_ rfl (Or.inl ⟨by rfl, ?_⟩) ?_
  rotate_left
  · (intro w hSw; (try dsimp only at hSw); go_simp; (try with_reducible rfl))
  try simp only [Act.put, List.setIfInBounds_toArray, List.set_cons_zero, List.set_cons_succ]
  refine seq_take _ ?_ rfl (Or.inl ⟨by rfl, ?_⟩) ?_
  rotate_left
  · (intro w hSw; (try dsimp only at hSw); go_simp; (try with_reducible rfl))
  try simp only [Act.put, List.setIfInBounds_toArray, List.set_cons_zero, List.set_cons_succ]
  refine NoPanic.normal ?_
  go_wp2_with fail
  go_ret
  exact ⟨rfl, B0.trans (Dp2.mono B0.size)⟩
set_option maxRecDepth 1000000 in
set_option maxHeartbeats 4000000 in
theorem qone_f (gx : Bool) (Ax : Option Addr) (nx cx : Nat) {z : Int} (w : World) (ha : IsInt w gx Ax nx cx z) (h1 : z ≠ 1) :
    Calls Tryz.prog 70 #[.agg #[.bool gx, .slice Ax nx cx]] w fun e w' => e = .returned (.bool false) ∧ Below w.heap.size w w' := by
  have B0 := (Below.refl w.heap.size w).alloc (Nat.le_refl _) (.cells #[.bool gx, .slice Ax nx cx] 26)
  have X0 := Slot2.new w (.bool gx) (.slice Ax nx cx) 26
  have Ix := ha.below B0
  clear ha
  obtain ⟨s, hs⟩ : ∃ s, cmpN z 1 = s := ⟨_, rfl⟩
  have hs0 : (s == 0) = false := by
    rw [← hs]
    rcases Int.lt_trichotomy z 1 with h | h | h
    · rw [cmpN_lt h]; rfl
    · exact absurd h h1
    · rw [cmpN_gt h]; rfl
  have HC := Lib.hid hs
  clear h1 hs
  go_enter Tryz.func70, Tryz.ntmps70
  go_upto_region 1 with (fail)
  generalize w.alloc (.cells #[.bool gx, .slice Ax nx cx] 26) = W0 at *
  have HS : Hid (∀ V, Below W0.heap.size W0 V → V.cell? ⟨w.heap.size, 0, none⟩ = some (.bool gx) ∧ V.cell? ⟨w.heap.size, 1, none⟩ = some (.slice Ax nx cx)) := fun V hV => ⟨(X0.after hV).1, (X0.after hV).2.1⟩
  have Dp0 : Below W0.heap.size W0 W0.drew := (Below.refl _ _).drew
  refine wp_region_seq (.pre [(0, true), (1, false), (2, false), (3, true), (4, true)] .done) (fun W => W.cell? ⟨w.heap.size, 0, none⟩ = some (.bool gx) ∧ W.cell? ⟨w.heap.size, 1, none⟩ = some (.slice Ax nx cx)) (by kernel_rfl) (by kernel_rfl) ?_ (by kernel_rfl) (HS.out _ Dp0) ?_
  · refine chk_pre _ _ _ (by as_aux_lemma => kernel_rfl) ?_
    exact (by as_aux_lemma => kernel_rfl)
  refine seq_take _ ?_ rfl (Or.inl ⟨by rfl, ?_⟩) ?_
  rotate_left
  · (intro w hSw; (try dsimp only at hSw); go_simp; (try with_reducible rfl))
  try simp only [Act.put, List.setIfInBounds_toArray, List.set_cons_zero, List.set_cons_succ]
  refine seq_one _ rfl fun K hK => ?_
  go_simp
  (with_reducible refine (of_any 1 _ (by decide) (by decide)).mono ?_)
  rintro e vp1 ⟨gp1, Ap1, np1, cp1, rfl, ip1, bp1⟩
  have Dp1 : Below W0.heap.size W0 vp1 := Below.trans Dp0 (bp1.mono (Below.size Dp0))
  go_wp2_with fail
  refine hK.out _ _ (HS.out _ Dp1) (fun hHeld => ?_)
  clear hK K hHeld
  try simp only [Act.put, List.setIfInBounds_toArray, List.set_cons_zero, List.set_cons_succ]
  refine seq_one _ rfl fun K hK => ?_
  go_simp
  (with_reducible refine (cmp_z gx gp1 Ax Ap1 nx cx np1 cp1 _ s (Ix.below Dp1) ip1 HC.out).mono ?_)
  rintro e vp2 ⟨rfl, bp2⟩
  have Dp2 : Below W0.heap.size W0 vp2 := Below.trans Dp1 (bp2.mono (Below.size Dp1))
  go_wp2_with fail
  refine hK.out _ _ (HS.out _ Dp2) (fun hHeld => ?_)
  clear hK K hHeld
  try simp only [Act.put, List.setIfInBounds_toArray, List.set_cons_zero, List.set_cons_succ]
  refine seq_take _ ?_ rfl (Or.inl ⟨by rfl, ?_⟩) ?_
  rotate_left
  · (intro w hSw; (try dsimp only at hSw); go_simp; (try with_reducible rfl))
  try simp only [Act.put, List.setIfInBounds_toArray, List.set_cons_zero, List.set_cons_succ]
  refine seq_take _ ?_ rfl (Or.inl ⟨by rfl, ?_⟩) ?_
  rotate_left
  · (intro w hSw; (try dsimp only at hSw); go_simp; (try with_reducible rfl))
  try simp only [Act.put, List.setIfInBounds_toArray, List.set_cons_zero, List.set_cons_succ]
  refine NoPanic.normal ?_
  go_wp2_with fail
  go_ret
  exact ⟨rfl, B0.trans (Dp2.mono B0.size)⟩
set_option maxRecDepth 1000000 in
set_option maxHeartbeats 4000000 in
theorem qint_t (gxn : Bool) (Axn : Option Addr) (nxn cxn : Nat) (gxd : Bool) (Axd : Option Addr) (nxd cxd : Nat) {a : Rat} (w : World) (ha : IsRat w gxn Axn nxn cxn gxd Axd nxd cxd a) (h1 : a.den = 1) :
    Calls Tryz.prog 34 #[.agg #[.bool gxn, .slice Axn nxn cxn, .bool gxd, .slice Axd nxd cxd]] w fun e w' => e = .returned (.bool true) ∧ Below w.heap.size w w' := by
  have B0 := (Below.refl w.heap.size w).alloc (Nat.le_refl _) (.cells #[.bool gxn, .slice Axn nxn cxn, .bool gxd, .slice Axd nxd cxd] 28)
  have X0 := Slot4.new w (.bool gxn) (.slice Axn nxn cxn) (.bool gxd) (.slice Axd nxd cxd) 28
  have Id := ha.den.below B0
  have ⟨x0, x1, x2, x3, _⟩ := X0
  have HD : Hid ((a.den : Int) = 1) := by rw [h1]; rfl
  clear h1
  go_enter Tryz.func34, Tryz.ntmps34
  go_wp2_with fail
  (with_reducible refine (qone_t gxd Axd nxd cxd _ Id HD.out).mono ?_)
  rintro e w1 ⟨rfl, hb1⟩
  go_wp2
  go_ret
  exact ⟨rfl, B0.trans (hb1.mono B0.size)⟩
set_option maxRecDepth 1000000 in
set_option maxHeartbeats 4000000 in
theorem qint_f (gxn : Bool) (Axn : Option Addr) (nxn cxn : Nat) (gxd : Bool) (Axd : Option Addr) (nxd cxd : Nat) {a : Rat} (w : World) (ha : IsRat w gxn Axn nxn cxn gxd Axd nxd cxd a) (h1 : a.den ≠ 1) :
    Calls Tryz.prog 34 #[.agg #[.bool gxn, .slice Axn nxn cxn, .bool gxd, .slice Axd nxd cxd]] w fun e w' => e = .returned (.bool false) ∧ Below w.heap.size w w' := by
  have B0 := (Below.refl w.heap.size w).alloc (Nat.le_refl _) (.cells #[.bool gxn, .slice Axn nxn cxn, .bool gxd, .slice Axd nxd cxd] 28)
  have X0 := Slot4.new w (.bool gxn) (.slice Axn nxn cxn) (.bool gxd) (.slice Axd nxd cxd) 28
  have Id := ha.den.below B0
  have ⟨x0, x1, x2, x3, _⟩ := X0
  have HD : Hid ((a.den : Int) ≠ 1) := by intro h; exact h1 (by omega)
  clear h1
  go_enter Tryz.func34, Tryz.ntmps34
  go_wp2_with fail
  (with_reducible refine (qone_f gxd Axd nxd cxd _ Id HD.out).mono ?_)
  rintro e w1 ⟨rfl, hb1⟩
  go_wp2
  go_ret
  exact ⟨rfl, B0.trans (hb1.mono B0.size)⟩
theorem qint_v (gxn : Bool) (Axn : Option Addr) (nxn cxn : Nat) (gxd : Bool) (Axd : Option Addr) (nxd cxd : Nat) {a : Rat} (w : World) (v : Bool) (ha : IsRat w gxn Axn nxn cxn gxd Axd nxd cxd a) (h1 : v = decide (a.den = 1)) :
    Calls Tryz.prog 34 #[.agg #[.bool gxn, .slice Axn nxn cxn, .bool gxd, .slice Axd nxd cxd]] w fun e w' => e = .returned (.bool v) ∧ Below w.heap.size w w' := by
  subst h1
  by_cases h : a.den = 1
  · rw [decide_eq_true h]; exact qint_t gxn Axn nxn cxn gxd Axd nxd cxd w ha h
  · rw [decide_eq_false h]; exact qint_f gxn Axn nxn cxn gxd Axd nxd cxd w ha h
set_option maxRecDepth 1000000 in
set_option maxHeartbeats 4000000 in
theorem qneg_z (gxn : Bool) (Axn : Option Addr) (nxn cxn : Nat) (gxd : Bool) (Axd : Option Addr) (nxd cxd : Nat) {k : Nat} {a : Rat} (w : World) (ha : IsRat w gxn Axn nxn cxn gxd Axd nxd cxd a) (sa : RSz k a) :
    Calls Tryz.prog 25 #[.agg #[.bool gxn, .slice Axn nxn cxn, .bool gxd, .slice Axd nxd cxd]] w (RetRat w (-a)) := by
  obtain ⟨B0, X0, R0⟩ := frameQ2 w (.bool gxn) (.slice Axn nxn cxn) (.bool gxd) (.slice Axd nxd cxd) 28 28
  have Ixn := ha.num.below B0
  have Ixd := ha.den.below B0
  clear ha
  go_enter Tryz.func25, Tryz.ntmps25
  go_upto_region 1 with (fail)
  generalize (w.alloc (.cells #[.bool gxn, .slice Axn nxn cxn, .bool gxd, .slice Axd nxd cxd] 28)).alloc (.cells #[.bool false, .slice none 0 0, .bool false, .slice none 0 0] 28) = W0 at *
  have HS : Hid (∀ V, Below W0.heap.size W0 V → (V.cell? ⟨w.heap.size, 0, none⟩ = some (.bool gxn) ∧ V.cell? ⟨w.heap.size, 1, none⟩ = some (.slice Axn nxn cxn) ∧ V.cell? ⟨w.heap.size, 2, none⟩ = some (.bool gxd) ∧ V.cell? ⟨w.heap.size, 3, none⟩ = some (.slice Axd nxd cxd))) := fun V hV => (X0.after hV).cells
  have Dp0 : Below W0.heap.size W0 W0.drew := (Below.refl _ _).drew
  refine wp_region_seq (.pre [(0, true), (1, true), (3, true), (4, true), (2, false), (5, false), (6, true), (7, false)] .done) (fun W => (W.cell? ⟨w.heap.size, 0, none⟩ = some (.bool gxn) ∧ W.cell? ⟨w.heap.size, 1, none⟩ = some (.slice Axn nxn cxn) ∧ W.cell? ⟨w.heap.size, 2, none⟩ = some (.bool gxd) ∧ W.cell? ⟨w.heap.size, 3, none⟩ = some (.slice Axd nxd cxd))) (by kernel_rfl) (by kernel_rfl) ?_ (by kernel_rfl) (HS.out _ Dp0) ?_
  · refine chk_pre _ _ _ (by as_aux_lemma => kernel_rfl) ?_
    exact (by as_aux_lemma => kernel_rfl)
  refine seq_take _ ?_ rfl (Or.inl ⟨by rfl, ?_⟩) ?_
  rotate_left
  · (intro w hSw; (try dsimp only at hSw); go_simp; (try with_reducible rfl))
  try simp only [Act.put, List.setIfInBounds_toArray, List.set_cons_zero, List.set_cons_succ]
  refine seq_take _ ?_ rfl (Or.inl ⟨by rfl, ?_⟩) ?_
  rotate_left
  · (intro w hSw; (try dsimp only at hSw); go_simp; (try with_reducible rfl))
  try simp only [Act.put, List.setIfInBounds_toArray, List.set_cons_zero, List.set_cons_succ]
  refine seq_take _ ?_ rfl (Or.inl ⟨by rfl, ?_⟩) ?_
  rotate_left
  · (intro w hSw; (try dsimp only at hSw); go_simp; (try with_reducible rfl))
  try simp only [Act.put, List.setIfInBounds_toArray, List.set_cons_zero, List.set_cons_succ]
  refine seq_take _ ?_ rfl (Or.inl ⟨by rfl, ?_⟩) ?_
  rotate_left
  · (intro w hSw; (try dsimp only at hSw); go_simp; (try with_reducible rfl))
  try simp only [Act.put, List.setIfInBounds_toArray, List.set_cons_zero, List.set_cons_succ]
  refine seq_one _ rfl fun K hK => ?_
  go_simp
  (with_reducible refine (neg_z gxn Axn nxn cxn _ (Ixn.below Dp0) sa.num).mono ?_)
  rintro e vp1 ⟨gp1, Ap1, np1, cp1, rfl, ip1, bp1⟩
  have Dp1 : Below W0.heap.size W0 vp1 := Below.trans Dp0 (bp1.mono (Below.size Dp0))
  go_wp2_with fail
  refine hK.out _ _ (HS.out _ Dp1) (fun hHeld => ?_)
  clear hK K hHeld
  try simp only [Act.put, List.setIfInBounds_toArray, List.set_cons_zero, List.set_cons_succ]
  refine seq_one _ rfl fun K hK => ?_
  go_simp
  (with_reducible refine (abs_z gxd Axd nxd cxd _ (Ixd.below Dp1) sa.den).mono ?_)
  rintro e vp2 ⟨gp2, Ap2, np2, cp2, rfl, ip2, bp2⟩
  have Dp2 : Below W0.heap.size W0 vp2 := Below.trans Dp1 (bp2.mono (Below.size Dp1))
  go_wp2_with fail
  refine hK.out _ _ (HS.out _ Dp2) (fun hHeld => ?_)
  clear hK K hHeld
  try simp only [Act.put, List.setIfInBounds_toArray, List.set_cons_zero, List.set_cons_succ]
  refine seq_take _ ?_ rfl (Or.inl ⟨by rfl, ?_⟩) ?_
  rotate_left
  · (intro w hSw; (try dsimp only at hSw); go_simp; (try with_reducible rfl))
  try simp only [Act.put, List.setIfInBounds_toArray, List.set_cons_zero, List.set_cons_succ]
  refine seq_one _ rfl fun K hK => ?_
  have R1 := R0.after Dp2
  have ⟨r0, r1, r2, r3, k0, k1, k2, k3, _⟩ := R1
  go_simp
  refine hK.out _ _ (((X0.after Dp2).far4 (by omega) _ _ _ _).cells) (fun hHeld => ?_)
  clear hK K hHeld
  try simp only [Act.put, List.setIfInBounds_toArray, List.set_cons_zero, List.set_cons_succ]
  refine NoPanic.normal ?_
  go_wp2
  have hs := R0.after Dp2
  have hd : (((a.den : Int).natAbs : Nat) : Int) = ((-a).den : Int) := by rw [Rat.neg_den]; rfl
  rw [hd] at ip2
  rw [← Rat.neg_num] at ip1
  refine bodyPost_ret (v := .agg #[.bool gp1, .slice Ap1 np1 cp1, .bool gp2, .slice Ap2 np2 cp2]) (by obtain ⟨v0, v1, v2, v3⟩ := hs.set4e (.bool gp1) (.slice Ap1 np1 cp1) (.bool gp2) (.slice Ap2 np2 cp2); simp [results, Tryz.results25, go_sem, v0, v1, v2, v3]) rfl ⟨_, _, _, _, _, _, _, _, rfl, ⟨(ip1.below bp2).stored4 hs rfl rfl rfl rfl _ _ _ _, ip2.stored4 hs rfl rfl rfl rfl _ _ _ _⟩, ?_⟩
  exact Below.set4 (B0.trans (Dp2.mono B0.size)) (by omega) _ _ _ _
set_option maxRecDepth 1000000 in
set_option maxHeartbeats 4000000 in
theorem qwhole_z (gx : Bool) (Ax : Option Addr) (nx cx : Nat) {k : Nat} {z : Int} (w : World) (ha : IsInt w gx Ax nx cx z) (sa : Sz k z) (hk : k + 1 + 1 ≤ 10000) :
    Calls Tryz.prog 27 #[.agg #[.bool gx, .slice Ax nx cx]] w (RetRat w (z : Rat)) := by
  have b0 := (Below.refl w.heap.size w).alloc (Nat.le_refl _) (.cells #[.bool gx, .slice Ax nx cx] 26)
  have B0 := b0.alloc b0.size (.cells #[.bool false, .slice none 0 0, .bool false, .slice none 0 0] 28)
  have X0 := (Slot2.new w (.bool gx) (.slice Ax nx cx) 26).alloc (.cells #[.bool false, .slice none 0 0, .bool false, .slice none 0 0] 28)
  have R0 := Slot4.new (w.alloc (.cells #[.bool gx, .slice Ax nx cx] 26)) (.bool false) (.slice none 0 0) (.bool false) (.slice none 0 0) 28
  simp only [World.size_alloc] at R0
  have Ix := ha.below B0
  clear ha b0
  have T2 : Hid (∀ W g A n c, IsInt W g A n c 1 → IsInt W gx Ax nx cx z → Calls Tryz.prog 12 #[.agg #[.bool gx, .slice Ax nx cx], .agg #[.bool g, .slice A n c]] W (RetRatE W (z : Rat) 0)) := fun W g A n c h1 h2 => by
    have := qof_z gx Ax nx cx g A n c W h2 h1 (Sz.mono sa (Nat.le_succ k) (by omega)) ((Sz.of (by decide) (by decide) : Sz 1 1).mono (by omega) (by omega)) hk (by decide)
    rwa [q_whole] at this
  go_enter Tryz.func27, Tryz.ntmps27
  go_upto_region 1 with (fail)
  generalize (w.alloc (.cells #[.bool gx, .slice Ax nx cx] 26)).alloc (.cells #[.bool false, .slice none 0 0, .bool false, .slice none 0 0] 28) = W0 at *
  have HX : Hid (∀ V, Below W0.heap.size W0 V → Slot2 V w.heap.size (.bool gx) (.slice Ax nx cx) ∧ IsInt V gx Ax nx cx z) := fun V hV => ⟨X0.after hV, Ix.below hV⟩
  have R1 : Hid (∀ V, Below W0.heap.size W0 V → Slot4 V (w.heap.size + 1) (.bool false) (.slice none 0 0) (.bool false) (.slice none 0 0)) := fun V hV => R0.after hV
  clear X0 R0 Ix
  refine wp_region_ev (fun d a0 a' w' => ∃ u6 u7 u8 u5 u9 u10 u3 u4 : Value, a' = ((((((((a0.put (some 6) u6).put (some 7) u7).put (some 8) u8).put (some 5) u5).put (some 9) u9).put (some 10) u10).put (some 3) u3).put (some 4) u4) ∧ Below W0.heap.size W0 w' ∧ (d 0 = true → u6 = .agg #[.bool gx, .slice Ax nx cx]) ∧ (d 1 = true → IntV w' u7 (1)) ∧ (d 2 = true → TupQ w' u8 ((z : Rat)) (0)) ∧ (d 3 = true → TupQ w' u5 ((z : Rat)) (0)) ∧ (d 4 = true → RatV w' u9 ((z : Rat))) ∧ (d 5 = true → u10 = .int .i64 0) ∧ (d 8 = true → u4 = .int .i64 0) ∧ (d 6 = true → OwnQ W0.heap.size w' u3 (d 7) ((z : Rat))) ∧ (d 7 = true → d 6 = true)) (by kernel_rfl) (by kernel_rfl) ?_ ?_ ?_ ?_
  · intro d d' h a' w' hh
    obtain rfl : d = d' := funext h
    exact hh
  · exact ⟨_, _, _, _, _, _, _, _, (by simp only [Act.put, List.setIfInBounds_toArray, List.set_cons_zero, List.set_cons_succ]; rfl), (Below.refl _ _).drew, (fun h => by cases h), (fun h => by cases h), (fun h => by cases h), (fun h => by cases h), (fun h => by cases h), (fun h => by cases h), (fun h => by cases h), (fun h => by cases h), (fun h => by cases h)⟩
  · refine ⟨?_, ?_, ?_, ?_, ?_, ?_, ?_, ?_, ?_, trivial⟩
    · intro d a2 w2 hd hm ⟨u6, u7, u8, u5, u9, u10, u3, u4, e, HB, f0, f1, f2, f3, f4, f5, f8, f6, t0⟩ K hK
      subst e
      simp only [Act.put, List.setIfInBounds_toArray, List.set_cons_zero, List.set_cons_succ]
      obtain ⟨⟨q0, q1, _, _, _⟩, _⟩ := HX.out w2 HB
      go_simp
      exact hK.out _ _ ⟨.agg #[.bool gx, .slice Ax nx cx], u7, u8, u5, u9, u10, u3, u4, (by simp only [Act.put, List.setIfInBounds_toArray, List.set_cons_zero, List.set_cons_succ]), HB, (fun _ => rfl), (fun h => (f1 (by simpa using h))), (fun h => (f2 (by simpa using h))), (fun h => (f3 (by simpa using h))), (fun h => (f4 (by simpa using h))), (fun h => f5 (by simpa using h)), (fun h => f8 (by simpa using h)), (fun h => by simpa using (f6 (by simpa using h))), (fun h => by simpa using t0 (by simpa using h))⟩
    · intro d a2 w2 hd hm ⟨u6, u7, u8, u5, u9, u10, u3, u4, e, HB, f0, f1, f2, f3, f4, f5, f8, f6, t0⟩ K hK
      subst e
      simp only [Act.put, List.setIfInBounds_toArray, List.set_cons_zero, List.set_cons_succ]
      go_simp
      (with_reducible refine (of_any 1 _ (by decide) (by decide)).mono ?_)
      rintro e w3 ⟨gg, AA, nn, cc, rfl, hi, hb⟩
      have HB3 := HB.trans (hb.mono HB.size)
      go_wp2_with fail
      exact hK.out _ _ ⟨u6, .agg #[.bool gg, .slice AA nn cc], u8, u5, u9, u10, u3, u4, (by simp only [Act.put, List.setIfInBounds_toArray, List.set_cons_zero, List.set_cons_succ]), HB3, (fun h => f0 (by simpa using h)), (fun _ => ⟨_, _, _, _, rfl, hi⟩), (fun h => (f2 (by simpa using h)).below hb), (fun h => (f3 (by simpa using h)).below hb), (fun h => (f4 (by simpa using h)).below hb), (fun h => f5 (by simpa using h)), (fun h => f8 (by simpa using h)), (fun h => by simpa using (f6 (by simpa using h)).below hb), (fun h => by simpa using t0 (by simpa using h))⟩
    · intro d a2 w2 hd hm ⟨u6, u7, u8, u5, u9, u10, u3, u4, e, HB, f0, f1, f2, f3, f4, f5, f8, f6, t0⟩ K hK
      subst e
      simp only [Act.put, List.setIfInBounds_toArray, List.set_cons_zero, List.set_cons_succ]
      obtain rfl := f0 (hm ⟨0, .data⟩ (by simp) rfl)
      clear f0
      obtain ⟨G1, A1, N1, C1, rfl, I1⟩ := f1 (hm ⟨1, .data⟩ (by simp) rfl)
      go_simp
      (with_reducible refine (T2.out _ _ _ _ _ I1 (HX.out _ HB).2).mono ?_)
      rintro e w3 ⟨g1, A1', n1', c1', g2, A2', n2', c2', rfl, hi, hb⟩
      have HB3 := HB.trans (hb.mono HB.size)
      go_wp2_with fail
      exact hK.out _ _ ⟨.agg #[.bool gx, .slice Ax nx cx], .agg #[.bool G1, .slice A1 N1 C1], .tuple #[.agg #[.bool g1, .slice A1' n1' c1', .bool g2, .slice A2' n2' c2'], .int .i64 (0)], u5, u9, u10, u3, u4, (by simp only [Act.put, List.setIfInBounds_toArray, List.set_cons_zero, List.set_cons_succ]), HB3, (fun _ => rfl), (fun h => (f1 (by simpa using h)).below hb), (fun _ => ⟨_, rfl, ⟨_, _, _, _, _, _, _, _, rfl, hi⟩⟩), (fun h => (f3 (by simpa using h)).below hb), (fun h => (f4 (by simpa using h)).below hb), (fun h => f5 (by simpa using h)), (fun h => f8 (by simpa using h)), (fun h => by simpa using (f6 (by simpa using h)).below hb), (fun h => by simpa using t0 (by simpa using h))⟩
    · intro d a2 w2 hd hm ⟨u6, u7, u8, u5, u9, u10, u3, u4, e, HB, f0, f1, f2, f3, f4, f5, f8, f6, t0⟩ K hK
      subst e
      simp only [Act.put, List.setIfInBounds_toArray, List.set_cons_zero, List.set_cons_succ]
      obtain ⟨V2, rfl, I2⟩ := f2 (hm ⟨2, .data⟩ (by simp) rfl)
      go_simp
      exact hK.out _ _ ⟨u6, u7, .tuple #[V2, .int .i64 (0)], .tuple #[V2, .int .i64 (0)], u9, u10, u3, u4, (by simp only [Act.put, List.setIfInBounds_toArray, List.set_cons_zero, List.set_cons_succ]), HB, (fun h => f0 (by simpa using h)), (fun h => (f1 (by simpa using h))), (fun h => (f2 (by simpa using h))), (fun _ => ⟨V2, rfl, I2⟩), (fun h => (f4 (by simpa using h))), (fun h => f5 (by simpa using h)), (fun h => f8 (by simpa using h)), (fun h => by simpa using (f6 (by simpa using h))), (fun h => by simpa using t0 (by simpa using h))⟩
    · intro d a2 w2 hd hm ⟨u6, u7, u8, u5, u9, u10, u3, u4, e, HB, f0, f1, f2, f3, f4, f5, f8, f6, t0⟩ K hK
      subst e
      simp only [Act.put, List.setIfInBounds_toArray, List.set_cons_zero, List.set_cons_succ]
      obtain ⟨V3, rfl, I3⟩ := f3 (hm ⟨3, .data⟩ (by simp) rfl)
      go_simp
      exact hK.out _ _ ⟨u6, u7, u8, .tuple #[V3, .int .i64 (0)], V3, u10, u3, u4, (by simp only [Act.put, List.setIfInBounds_toArray, List.set_cons_zero, List.set_cons_succ]), HB, (fun h => f0 (by simpa using h)), (fun h => (f1 (by simpa using h))), (fun h => (f2 (by simpa using h))), (fun h => (f3 (by simpa using h))), (fun _ => I3), (fun h => f5 (by simpa using h)), (fun h => f8 (by simpa using h)), (fun h => by simpa using (f6 (by simpa using h))), (fun h => by simpa using t0 (by simpa using h))⟩
    · intro d a2 w2 hd hm ⟨u6, u7, u8, u5, u9, u10, u3, u4, e, HB, f0, f1, f2, f3, f4, f5, f8, f6, t0⟩ K hK
      subst e
      simp only [Act.put, List.setIfInBounds_toArray, List.set_cons_zero, List.set_cons_succ]
      obtain ⟨V3, rfl, I3⟩ := f3 (hm ⟨3, .data⟩ (by simp) rfl)
      go_simp
      exact hK.out _ _ ⟨u6, u7, u8, .tuple #[V3, .int .i64 (0)], u9, .int .i64 0, u3, u4, (by simp only [Act.put, List.setIfInBounds_toArray, List.set_cons_zero, List.set_cons_succ]), HB, (fun h => f0 (by simpa using h)), (fun h => (f1 (by simpa using h))), (fun h => (f2 (by simpa using h))), (fun h => (f3 (by simpa using h))), (fun h => (f4 (by simpa using h))), (fun _ => rfl), (fun h => f8 (by simpa using h)), (fun h => by simpa using (f6 (by simpa using h))), (fun h => by simpa using t0 (by simpa using h))⟩
    · intro d a2 w2 hd hm ⟨u6, u7, u8, u5, u9, u10, u3, u4, e, HB, f0, f1, f2, f3, f4, f5, f8, f6, t0⟩ K hK
      subst e
      simp only [Act.put, List.setIfInBounds_toArray, List.set_cons_zero, List.set_cons_succ]
      have hb : Below w2.heap.size w2 (w2.alloc (.cells #[.bool false, .slice none 0 0, .bool false, .slice none 0 0] 28)) := (Below.refl _ _).alloc (Nat.le_refl _) _
      have HB3 := HB.trans (hb.mono HB.size)
      go_simp
      exact hK.out _ _ ⟨u6, u7, u8, u5, u9, u10, .pointer (some ⟨w2.heap.size, 0, none⟩), u4, (by simp only [Act.put, List.setIfInBounds_toArray, List.set_cons_zero, List.set_cons_succ]), HB3, (fun h => f0 (by simpa using h)), (fun h => (f1 (by simpa using h)).below hb), (fun h => (f2 (by simpa using h)).below hb), (fun h => (f3 (by simpa using h)).below hb), (fun h => (f4 (by simpa using h)).below hb), (fun h => f5 (by simpa using h)), (fun h => f8 (by simpa using h)), (fun _ => by have hs : d 7 = false := (by cases hq : d 7 with | false => rfl | true => (have hz := t0 hq; rw [hd] at hz; cases hz)); simpa [hs] using OwnQ.new HB.size ((z : Rat))), (fun _ => by simp)⟩
    · intro d a2 w2 hd hm ⟨u6, u7, u8, u5, u9, u10, u3, u4, e, HB, f0, f1, f2, f3, f4, f5, f8, f6, t0⟩ K hK
      subst e
      simp only [Act.put, List.setIfInBounds_toArray, List.set_cons_zero, List.set_cons_succ]
      obtain ⟨gg, AA, nn, cc, gg', AA', nn', cc', rfl, hi⟩ := f4 (hm ⟨4, .data⟩ (by simp) rfl)
      obtain ⟨g, rfl, hg, b0, b1, b2, b3, hs, n0, n1, n2, n3, _⟩ := f6 (hm ⟨6, .data⟩ (by simp) rfl)
      obtain ⟨k0, k1, k2, k3, k4, k5, k6, k7, k8⟩ := id hs
      go_simp
      exact hK.out _ _ ⟨u6, u7, u8, u5, .agg #[.bool gg, .slice AA nn cc, .bool gg', .slice AA' nn' cc'], u10, .pointer (some ⟨g, 0, none⟩), u4, (by simp only [Act.put, List.setIfInBounds_toArray, List.set_cons_zero, List.set_cons_succ]), Below.set4 HB hg _ _ _ _, (fun h => f0 (by simpa using h)), (fun h => (f1 (by simpa using h)).set4 hs n0 n1 n2 n3 _ _ _ _), (fun h => (f2 (by simpa using h)).set4 hs n0 n1 n2 n3 _ _ _ _), (fun h => (f3 (by simpa using h)).set4 hs n0 n1 n2 n3 _ _ _ _), (fun h => (f4 (by simpa using h)).set4 hs n0 n1 n2 n3 _ _ _ _), (fun h => f5 (by simpa using h)), (fun h => f8 (by simpa using h)), (fun _ => by simpa using OwnQ.near hi hg hs n0 n1 n2 n3), (fun _ => by simpa using hm ⟨6, .data⟩ (by simp) rfl)⟩
    · intro d a2 w2 hd hm ⟨u6, u7, u8, u5, u9, u10, u3, u4, e, HB, f0, f1, f2, f3, f4, f5, f8, f6, t0⟩ K hK
      subst e
      simp only [Act.put, List.setIfInBounds_toArray, List.set_cons_zero, List.set_cons_succ]
      obtain rfl := f5 (hm ⟨5, .data⟩ (by simp) rfl)
      clear f5
      go_simp
      exact hK.out _ _ ⟨u6, u7, u8, u5, u9, .int .i64 0, u3, .int .i64 0, (by simp only [Act.put, List.setIfInBounds_toArray, List.set_cons_zero, List.set_cons_succ]), HB, (fun h => f0 (by simpa using h)), (fun h => (f1 (by simpa using h))), (fun h => (f2 (by simpa using h))), (fun h => (f3 (by simpa using h))), (fun h => (f4 (by simpa using h))), (fun _ => rfl), (fun _ => rfl), (fun h => by simpa using (f6 (by simpa using h))), (fun h => by simpa using t0 (by simpa using h))⟩
  · intro d a2 w2 hall ⟨u6, u7, u8, u5, u9, u10, u3, u4, e, HB, f0, f1, f2, f3, f4, f5, f8, f6, t0⟩
    subst e
    simp only [Act.put, List.setIfInBounds_toArray, List.set_cons_zero, List.set_cons_succ]
    obtain rfl := f0 (hall _ (by decide))
    obtain rfl := f5 (hall _ (by decide))
    obtain rfl := f8 (hall _ (by decide))
    obtain ⟨g0, rfl, h0, b0⟩ := OwnQ.ratAtB (by have := f6 (hall _ (by decide)); rwa [hall 7 (by decide)] at this)
    obtain ⟨gnp1, Anp1, nnp1, cnp1, gdp1, Adp1, ndp1, cdp1, S0, I0⟩ := h0
    have R2 := R1.out _ HB
    have ⟨s0, s1, s2, s3, _⟩ := S0
    have ⟨r0, r1, r2, r3, k0, k1, k2, k3, _⟩ := R2
    go_wp2
    refine bodyPost_ret (v := .agg #[.bool gnp1, .slice Anp1 nnp1 cnp1, .bool gdp1, .slice Adp1 ndp1 cdp1]) (by obtain ⟨v0, v1, v2, v3⟩ := R2.set4e (.bool gnp1) (.slice Anp1 nnp1 cnp1) (.bool gdp1) (.slice Adp1 ndp1 cdp1); simp [results, Tryz.results27, go_sem, v0, v1, v2, v3]) rfl ⟨_, _, _, _, _, _, _, _, rfl, I0.stored4 R2 rfl rfl rfl rfl _ _ _ _, ?_⟩
    exact Below.set4 (B0.trans (HB.mono B0.size)) (by omega) _ _ _ _
set_option maxRecDepth 1000000 in
set_option maxHeartbeats 4000000 in
theorem qround_z (gxn : Bool) (Axn : Option Addr) (nxn cxn : Nat) (gxd : Bool) (Axd : Option Addr) (nxd cxd : Nat) {k : Nat} {a : Rat} (w : World) (ha : IsRat w gxn Axn nxn cxn gxd Axd nxd cxd a) (sa : RSz k a) (hk : k + 1 + 1 + 1 ≤ 10000) :
    Calls Tryz.prog 32 #[.agg #[.bool gxn, .slice Axn nxn cxn, .bool gxd, .slice Axd nxd cxd]] w (RetInt w (a + Rat.divInt 1 2).floor) := by
  have b0 := (Below.refl w.heap.size w).alloc (Nat.le_refl _) (.cells #[.bool gxn, .slice Axn nxn cxn, .bool gxd, .slice Axd nxd cxd] 28)
  have B0 := b0.alloc b0.size (.cells #[.bool false, .slice none 0 0] 26)
  have X0 := (Slot4.new w (.bool gxn) (.slice Axn nxn cxn) (.bool gxd) (.slice Axd nxd cxd) 28).alloc (.cells #[.bool false, .slice none 0 0] 26)
  have R0 := Slot2.new (w.alloc (.cells #[.bool gxn, .slice Axn nxn cxn, .bool gxd, .slice Axd nxd cxd] 28)) (.bool false) (.slice none 0 0) 26
  simp only [World.size_alloc] at R0
  have Ix := ha.below B0
  have hd0 : (a.den : Int) * 2 ≠ 0 := by have := den_ne a; omega
  have zn : Sz (k + 1 + 1) (a.num * 2 + 1 * a.den) := (sa.num.mul (Sz.of (by decide) (by decide) : Sz 1 2) (by omega)).add ((by rw [Nat.add_comm]; exact (Sz.of (by decide) (by decide) : Sz 1 1).mul sa.den (by omega))) (by omega)
  have zd : Sz (k + 1) ((a.den : Int) * 2) := sa.den.mul (Sz.of (by decide) (by decide) : Sz 1 2) (by omega)
  have HD := Lib.hid hd0
  have HR := Lib.hid (q_round a)
  clear ha b0 hd0
  have ⟨x0, x1, x2, x3, _⟩ := X0
  go_enter Tryz.func32, Tryz.ntmps32
  generalize hW : (w.alloc (.cells #[.bool gxn, .slice Axn nxn cxn, .bool gxd, .slice Axd nxd cxd] 28)).alloc (.cells #[.bool false, .slice none 0 0] 26) = W0 at *
  go_wp2_with fail
  try rw [hW]
  clear hW
  (with_reducible refine (of_any 1 _ (by decide) (by decide)).mono ?_)
  rintro e w1 ⟨g1, A1, n1, c1, rfl, i1, b1⟩
  have X1 := X0.after b1
  have R1 := R0.after b1
  have Ix1 := Ix.below b1
  have B1 := B0.trans (b1.mono B0.size)
  clear x0 x1 x2 x3 X0 R0 Ix B0 b1
  go_wp2_with fail
  (with_reducible refine (of_any 2 _ (by decide) (by decide)).mono ?_)
  rintro e w2 ⟨g2, A2, n2, c2, rfl, i2, b2⟩
  have b3 := (Below.refl w2.heap.size w2).alloc (Nat.le_refl _) (.cells #[.bool g1, .slice A1 n1 c1, .bool g2, .slice A2 n2 c2] 75)
  have hb3 := b2.trans (b3.mono b2.size)
  have T3 := Slot4.new w2 (.bool g1) (.slice A1 n1 c1) (.bool g2) (.slice A2 n2 c2) 75
  have X3 := X1.after hb3
  have R3 := R1.after hb3
  have Ix3 := Ix1.below hb3
  have j1 := i1.below hb3
  have j2 := i2.below b3
  have B3 := B1.trans (hb3.mono B1.size)
  clear X1 R1 Ix1 i1 i2 B1 b2 b3 hb3
  have ⟨x0, x1, x2, x3, _⟩ := X3
  have ⟨t0, t1, t2, t3, _⟩ := T3
  generalize hW : w2.alloc (.cells #[.bool g1, .slice A1 n1 c1, .bool g2, .slice A2 n2 c2] 75) = W3 at *
  go_wp2_with fail
  try rw [hW]
  clear hW
  (with_reducible refine (qplus_z gxn Axn nxn cxn gxd Axd nxd cxd g1 A1 n1 c1 g2 A2 n2 c2 _ Ix3.num Ix3.den j1 j2 sa.num sa.den (Sz.of (by decide) (by decide) : Sz 1 1) (Sz.of (by decide) (by decide) : Sz 1 2) (by omega)).mono ?_)
  rintro e w4 ⟨gnp4, Anp4, nnp4, cnp4, gdp4, Adp4, ndp4, cdp4, rfl, ip4, jp4, bp4⟩
  have R4 := R3.after bp4
  have B4 := B3.trans (bp4.mono B3.size)
  clear x0 x1 x2 x3 t0 t1 t2 t3 X3 T3 R3 Ix3 j1 j2 B3 bp4
  go_wp2_with fail
  (with_reducible refine (qfl_z gnp4 Anp4 nnp4 cnp4 gdp4 Adp4 ndp4 cdp4 _ ip4 jp4 zn zd HD.out).mono ?_)
  rintro e w5 ⟨g5, A5, n5, c5, rfl, i5, b5⟩
  rw [HR.out] at i5
  have R5 := R4.after b5
  have B5 := B4.trans (b5.mono B4.size)
  have ⟨q0, q1, _, _, _⟩ := R5
  clear R4 B4 b5 ip4 jp4
  go_wp2
  exact bodyPost_ret (v := .agg #[.bool g5, .slice A5 n5 c5]) (by simp [results, Tryz.results32, go_sem, q0, q1]) rfl ⟨_, _, _, _, rfl, i5.stored q0 q1 rfl rfl _ _, (B5.setCell (by simp) _).setCell (by simp) _⟩
end Go.Proofs.YtlpoboikompjfaaGreatDoor
namespace Go.Proofs.YtlpoboikompjfaaGreatDoor
open Go.RowKit
theorem rtxt_one {a : Rat} (h : a.den = 1) : rtxt a = txt a.num := by unfold rtxt rt; rw [if_pos h]; rfl
theorem rtxt_more {a : Rat} (h : a.den ≠ 1) : rtxt a = txt a.num ++ ⟨#[47]⟩ ++ txt (a.den : Int) := by
  apply toL_eq
  rw [show (txt a.num ++ ⟨#[47]⟩ ++ txt (a.den : Int)).toList = (txt a.num).toList ++ [47] ++ (txt (a.den : Int)).toList by
    simp only [ByteArray.toList_eq]
    simp [ByteArray.data_append]]
  rw [tl_txt, tl_txt, ByteArray.toList_eq]
  unfold rtxt rt
  rw [if_neg h]
  simp

set_option maxRecDepth 1000000 in
set_option maxHeartbeats 4000000 in
theorem qtext_z (gxn : Bool) (Axn : Option Addr) (nxn cxn : Nat) (gxd : Bool) (Axd : Option Addr) (nxd cxd : Nat) {k : Nat} {a : Rat} (w : World) (t : ByteArray) (ha : IsRat w gxn Axn nxn cxn gxd Axd nxd cxd a) (sa : RSz k a) (hk : k ≤ 12) (ht : rtxt a = t) :
    Calls Tryz.prog 40 #[.agg #[.bool gxn, .slice Axn nxn cxn, .bool gxd, .slice Axd nxd cxd]] w fun e w' => e = .returned (.string t) ∧ Below w.heap.size w w' := by
  have B0 := (Below.refl w.heap.size w).alloc (Nat.le_refl _) (.cells #[.bool gxn, .slice Axn nxn cxn, .bool gxd, .slice Axd nxd cxd] 28)
  have X0 := Slot4.new w (.bool gxn) (.slice Axn nxn cxn) (.bool gxd) (.slice Axd nxd cxd) 28
  have Ix := ha.below B0
  clear ha
  have ⟨x0, x1, x2, x3, _⟩ := X0
  by_cases hd : a.den = 1
  · rw [rtxt_one hd] at ht
    subst ht
    go_enter Tryz.func40, Tryz.ntmps40
    go_wp2_with fail
    (with_reducible refine (qint_t gxn Axn nxn cxn gxd Axd nxd cxd _ Ix hd).mono ?_)
    rintro e w1 ⟨rfl, b1⟩
    have X1 := X0.after b1
    have B1 := B0.trans (b1.mono B0.size)
    have J := Ix.below b1
    clear x0 x1 x2 x3 X0 B0 Ix b1
    have ⟨y0, y1, y2, y3, _⟩ := X1
    go_wp2_with fail
    (with_reducible refine (text_any gxn Axn nxn cxn _ _ J.num (J.num.sz sa.num)).mono ?_)
    rintro e w2 ⟨rfl, b2⟩
    go_wp2
    go_ret
    exact ⟨rfl, B1.trans (b2.mono B1.size)⟩
  · rw [rtxt_more hd] at ht
    have HT := Lib.hid ht
    go_enter Tryz.func40, Tryz.ntmps40
    go_wp2_with fail
    (with_reducible refine (qint_f gxn Axn nxn cxn gxd Axd nxd cxd _ Ix hd).mono ?_)
    rintro e w1 ⟨rfl, b1⟩
    have X1 := X0.after b1
    have B1 := B0.trans (b1.mono B0.size)
    have J := Ix.below b1
    clear x0 x1 x2 x3 X0 B0 Ix b1 ht hd
    have hz1 := txt_size sa.num hk
    have hz2 := txt_size sa.den hk
    have a1 : ∀ W : World, (Op.stringOp .add (txt a.num) ⟨#[47]⟩).run Tryz.prog W = .ok (.string (txt a.num ++ ⟨#[47]⟩)) W := fun W => run_string_add_sum W _ _ (by have : (ByteArray.mk #[47]).size = 1 := rfl; omega)
    have a2 : ∀ W : World, (Op.stringOp .add (txt a.num ++ ⟨#[47]⟩) (txt (a.den : Int))).run Tryz.prog W = .ok (.string (txt a.num ++ ⟨#[47]⟩ ++ txt (a.den : Int))) W := fun W => run_string_add_sum W _ _ (by rw [ByteArray.size_append]; have : (ByteArray.mk #[47]).size = 1 := rfl; omega)
    clear hz1 hz2
    go_upto_region 3 with (fail)
    have HS : Hid (∀ V, Below w1.heap.size w1 V → (V.cell? ⟨w.heap.size, 0, none⟩ = some (.bool gxn) ∧ V.cell? ⟨w.heap.size, 1, none⟩ = some (.slice Axn nxn cxn) ∧ V.cell? ⟨w.heap.size, 2, none⟩ = some (.bool gxd) ∧ V.cell? ⟨w.heap.size, 3, none⟩ = some (.slice Axd nxd cxd))) := fun V hV => (X1.after hV).cells
    have Dp0 : Below w1.heap.size w1 w1.drew := (Below.refl _ _).drew
    refine wp_region_seq (.pre [(0, true), (1, true), (4, true), (5, true), (2, false), (3, true), (6, false), (7, true), (8, true)] .done) (fun W => (W.cell? ⟨w.heap.size, 0, none⟩ = some (.bool gxn) ∧ W.cell? ⟨w.heap.size, 1, none⟩ = some (.slice Axn nxn cxn) ∧ W.cell? ⟨w.heap.size, 2, none⟩ = some (.bool gxd) ∧ W.cell? ⟨w.heap.size, 3, none⟩ = some (.slice Axd nxd cxd))) (by kernel_rfl) (by kernel_rfl) ?_ (by kernel_rfl) (HS.out _ Dp0) ?_
    · refine chk_pre _ _ _ (by as_aux_lemma => kernel_rfl) ?_
      exact (by as_aux_lemma => kernel_rfl)
    refine seq_take _ ?_ rfl (Or.inl ⟨by rfl, ?_⟩) ?_
    rotate_left
    · (intro w hSw; (try dsimp only at hSw); go_simp; (try with_reducible rfl))
    try simp only [Act.put, List.setIfInBounds_toArray, List.set_cons_zero, List.set_cons_succ]
    refine seq_take _ ?_ rfl (Or.inl ⟨by rfl, ?_⟩) ?_
    rotate_left
    · (intro w hSw; (try dsimp only at hSw); go_simp; (try with_reducible rfl))
    try simp only [Act.put, List.setIfInBounds_toArray, List.set_cons_zero, List.set_cons_succ]
    refine seq_take _ ?_ rfl (Or.inl ⟨by rfl, ?_⟩) ?_
    rotate_left
    · (intro w hSw; (try dsimp only at hSw); go_simp; (try with_reducible rfl))
    try simp only [Act.put, List.setIfInBounds_toArray, List.set_cons_zero, List.set_cons_succ]
    refine seq_take _ ?_ rfl (Or.inl ⟨by rfl, ?_⟩) ?_
    rotate_left
    · (intro w hSw; (try dsimp only at hSw); go_simp; (try with_reducible rfl))
    try simp only [Act.put, List.setIfInBounds_toArray, List.set_cons_zero, List.set_cons_succ]
    refine seq_one _ rfl fun K hK => ?_
    go_simp
    (with_reducible refine (text_any gxn Axn nxn cxn _ _ (J.num.below Dp0) (J.num.sz sa.num)).mono ?_)
    rintro e vp1 ⟨rfl, bp1⟩
    have Dp1 : Below w1.heap.size w1 vp1 := Below.trans Dp0 (bp1.mono (Below.size Dp0))
    go_wp2_with fail
    refine hK.out _ _ (HS.out _ Dp1) (fun hHeld => ?_)
    clear hK K hHeld
    try simp only [Act.put, List.setIfInBounds_toArray, List.set_cons_zero, List.set_cons_succ]
    refine seq_take _ ?_ rfl (Or.inl ⟨by rfl, ?_⟩) ?_
    rotate_left
    · (intro w hSw; (try dsimp only at hSw); go_simp; (try with_reducible rfl))
    try simp only [Act.put, List.setIfInBounds_toArray, List.set_cons_zero, List.set_cons_succ]
    refine seq_one _ rfl fun K hK => ?_
    go_simp
    (with_reducible refine (text_any gxd Axd nxd cxd _ _ (J.den.below Dp1) (J.den.sz sa.den)).mono ?_)
    rintro e vp2 ⟨rfl, bp2⟩
    have Dp2 : Below w1.heap.size w1 vp2 := Below.trans Dp1 (bp2.mono (Below.size Dp1))
    go_wp2_with fail
    refine hK.out _ _ (HS.out _ Dp2) (fun hHeld => ?_)
    clear hK K hHeld
    try simp only [Act.put, List.setIfInBounds_toArray, List.set_cons_zero, List.set_cons_succ]
    refine seq_take _ ?_ rfl (Or.inl ⟨by rfl, ?_⟩) ?_
    rotate_left
    · (intro w hSw; (try dsimp only at hSw); go_simp; (try with_reducible rfl))
    try simp only [Act.put, List.setIfInBounds_toArray, List.set_cons_zero, List.set_cons_succ]
    refine seq_take _ ?_ rfl (Or.inl ⟨by rfl, ?_⟩) ?_
    rotate_left
    · (intro w hSw; (try dsimp only at hSw); go_simp; (try with_reducible rfl))
    try simp only [Act.put, List.setIfInBounds_toArray, List.set_cons_zero, List.set_cons_succ]
    refine NoPanic.normal ?_
    go_wp2_with fail
    go_ret
    exact ⟨by rw [← HT.out]; first | rfl | simp, B1.trans (Dp2.mono B1.size)⟩
set_option maxRecDepth 1000000 in
set_option maxHeartbeats 4000000 in
theorem qvalid_zero (w : World) : Calls Tryz.prog 17 #[.agg #[.bool false, .slice none 0 0, .bool false, .slice none 0 0]] w fun e w' => e = .returned (.bool false) ∧ Below w.heap.size w w' := by
  have B0 := (Below.refl w.heap.size w).alloc (Nat.le_refl _) (.cells #[.bool false, .slice none 0 0, .bool false, .slice none 0 0] 28)
  have X0 := Slot4.new w (.bool false) (.slice none 0 0) (.bool false) (.slice none 0 0) 28
  have ⟨x0, x1, x2, x3, _⟩ := X0
  have HV : Hid (∀ W, Calls Tryz.prog 69 #[.agg #[.bool false, .slice none 0 0]] W fun e w' => e = .returned (.bool true) ∧ Below W.heap.size W w') := fun W => valid_any false none 0 0 W.heap.size [] W (Lim.none_ (by omega)) (Nat.le_refl _)
  have HS : Hid (∀ W, Calls Tryz.prog 60 #[.agg #[.bool false, .slice none 0 0]] W fun e w' => e = .returned (.int .i64 0) ∧ Below W.heap.size W w') := fun W => sign_z false none 0 0 W 0 (isInt_zero' W) rfl
  go_enter Tryz.func17, Tryz.ntmps17
  go_wp2_with fail
  (with_reducible refine (HV.out _).mono ?_)
  rintro e w1 ⟨rfl, b1⟩
  have X1 := X0.after b1
  have B1 := B0.trans (b1.mono B0.size)
  clear x0 x1 x2 x3 X0 B0 b1
  have ⟨x0, x1, x2, x3, _⟩ := X1
  go_wp2_with fail
  (with_reducible refine (HV.out _).mono ?_)
  rintro e w2 ⟨rfl, b2⟩
  have X2 := X1.after b2
  have B2 := B1.trans (b2.mono B1.size)
  clear x0 x1 x2 x3 X1 B1 b2
  have ⟨x0, x1, x2, x3, _⟩ := X2
  go_wp2_with fail
  (with_reducible refine (HS.out _).mono ?_)
  rintro e w3 ⟨rfl, b3⟩
  go_wp2
  go_ret
  exact ⟨rfl, B2.trans (b3.mono B2.size)⟩
end Go.Proofs.YtlpoboikompjfaaGreatDoor
namespace Go.Proofs.YtlpoboikompjfaaGreatDoor
open Go.RowKit
theorem smz (n d : Int) (hn : n.natAbs < 4294967296) (hd : d.natAbs < 4294967296) (h0 : d ≠ 0) : RSz 1 (Rat.divInt n d) := RSz.divInt (Sz.of (by simpa using hn) (by decide)) (Sz.of (by simpa using hd) (by decide)) h0
theorem smw (n : Int) (hn : n.natAbs < 4294967296) : RSz 1 ((n : Int) : Rat) := RSz.whole (Sz.of (by simpa using hn) (by decide)) (by decide)
theorem txt_32 : rtxt (Rat.divInt (-3) 2) = ⟨#[45, 51, 47, 50]⟩ := by
  have h1 : (Rat.divInt (-3) 2).num = -3 := by decide +kernel
  have h2 : (Rat.divInt (-3) 2).den = 2 := by decide +kernel
  unfold rtxt rt tl
  rw [h1, h2, if_neg (by decide), if_pos (by decide), if_neg (by decide)]
  rw [show (-3 : Int).natAbs = 3 from rfl, show ((2 : Nat) : Int).natAbs = 2 from rfl, tx, if_pos (by decide), tx, if_pos (by decide)]
  rfl
theorem txt_5 : rtxt (((5 : Int)) : Rat) = ⟨#[53]⟩ := by
  have h1 : (((5 : Int)) : Rat).num = 5 := rfl
  have h2 : (((5 : Int)) : Rat).den = 1 := rfl
  unfold rtxt rt tl
  rw [h1, h2, if_pos rfl, if_neg (by decide)]
  rw [show (5 : Int).natAbs = 5 from rfl, tx, if_pos (by decide)]
  rfl

def SanQ : Prop := ∀ w : World, Calls Tryz.prog 10 #[] w fun e w' => e = .returned (.bool true) ∧ Below w.heap.size w w'
set_option maxRecDepth 1000000 in
set_option maxHeartbeats 16000000 in
theorem sanq_any : SanQ := by
  intro w
  have B := Below.refl w.heap.size w
  go_enter Tryz.func10, Tryz.ntmps10
  go_wp2_with fail
  (with_reducible refine (rof_any (6) _ (by decide) (by decide)).mono ?_)
  rintro e w1 ⟨ga1, Aa1, na1, ca1, rfl, ia1, ba1⟩
  replace B := B.trans (ba1.mono B.size)
  clear ba1
  go_wp2_with fail
  (with_reducible refine (rof_any (-4) _ (by decide) (by decide)).mono ?_)
  rintro e w2 ⟨ga2, Aa2, na2, ca2, rfl, ia2, ba2⟩
  replace ia1 := ia1.below ba2
  replace B := B.trans (ba2.mono B.size)
  clear ba2
  go_wp2_with fail
  (with_reducible refine (qof_z ga1 Aa1 na1 ca1 ga2 Aa2 na2 ca2 _ ia1 ia2 (Sz.of (by decide) (by decide) : Sz 1 6) (Sz.of (by decide) (by decide) : Sz 1 (-4)) (by decide) (by decide)).mono ?_)
  rintro e w3 ⟨gna, Ana, nna, cna, gda, Ada, nda, cda, rfl, ia, ba⟩
  replace ia1 := ia1.below ba
  replace ia2 := ia2.below ba
  replace B := B.trans (ba.mono B.size)
  clear ba
  clear ia1 ia2
  have hal := (Below.refl w3.heap.size w3).alloc (Nat.le_refl _) (.cells #[.bool gna, .slice Ana nna cna, .bool gda, .slice Ada nda cda] 28)
  have Sa := Slot4.new w3 (.bool gna) (.slice Ana nna cna) (.bool gda) (.slice Ada nda cda) 28
  replace ia := ia.below hal
  replace B := B.trans (hal.mono B.size)
  clear hal
  generalize hW : w3.alloc (.cells #[.bool gna, .slice Ana nna cna, .bool gda, .slice Ada nda cda] 28) = W3 at *
  go_wp2_with fail
  try rw [hW]
  clear hW
  (with_reducible refine (rof_any (0) _ (by decide) (by decide)).mono ?_)
  rintro e w4 ⟨gb1, Ab1, nb1, cb1, rfl, ib1, bb1⟩
  replace ia := ia.below bb1
  replace Sa := Sa.after bb1
  replace B := B.trans (bb1.mono B.size)
  clear bb1
  go_wp2_with fail
  (with_reducible refine (rof_any (5) _ (by decide) (by decide)).mono ?_)
  rintro e w5 ⟨gb2, Ab2, nb2, cb2, rfl, ib2, bb2⟩
  replace ia := ia.below bb2
  replace Sa := Sa.after bb2
  replace ib1 := ib1.below bb2
  replace B := B.trans (bb2.mono B.size)
  clear bb2
  go_wp2_with fail
  (with_reducible refine (qof_z gb1 Ab1 nb1 cb1 gb2 Ab2 nb2 cb2 _ ib1 ib2 (Sz.of (by decide) (by decide) : Sz 1 0) (Sz.of (by decide) (by decide) : Sz 1 5) (by decide) (by decide)).mono ?_)
  rintro e w6 ⟨gnb, Anb, nnb, cnb, gdb, Adb, ndb, cdb, rfl, ib, bb⟩
  replace ia := ia.below bb
  replace Sa := Sa.after bb
  replace ib1 := ib1.below bb
  replace ib2 := ib2.below bb
  replace B := B.trans (bb.mono B.size)
  clear bb
  clear ib1 ib2
  have hal := (Below.refl w6.heap.size w6).alloc (Nat.le_refl _) (.cells #[.bool gnb, .slice Anb nnb cnb, .bool gdb, .slice Adb ndb cdb] 28)
  have Sb := Slot4.new w6 (.bool gnb) (.slice Anb nnb cnb) (.bool gdb) (.slice Adb ndb cdb) 28
  replace ia := ia.below hal
  replace Sa := Sa.after hal
  replace ib := ib.below hal
  replace B := B.trans (hal.mono B.size)
  clear hal
  generalize hW : w6.alloc (.cells #[.bool gnb, .slice Anb nnb cnb, .bool gdb, .slice Adb ndb cdb] 28) = W6 at *
  go_wp2_with fail
  try rw [hW]
  clear hW
  (with_reducible refine (rof_any (3) _ (by decide) (by decide)).mono ?_)
  rintro e w7 ⟨gc1, Ac1, nc1, cc1, rfl, ic1, bc1⟩
  replace ia := ia.below bc1
  replace Sa := Sa.after bc1
  replace ib := ib.below bc1
  replace Sb := Sb.after bc1
  replace B := B.trans (bc1.mono B.size)
  clear bc1
  go_wp2_with fail
  (with_reducible refine (rof_any (0) _ (by decide) (by decide)).mono ?_)
  rintro e w8 ⟨gc2, Ac2, nc2, cc2, rfl, ic2, bc2⟩
  replace ia := ia.below bc2
  replace Sa := Sa.after bc2
  replace ib := ib.below bc2
  replace Sb := Sb.after bc2
  replace ic1 := ic1.below bc2
  replace B := B.trans (bc2.mono B.size)
  clear bc2
  go_wp2_with fail
  (with_reducible refine (qof_bad gc1 Ac1 nc1 cc1 gc2 Ac2 nc2 cc2 _ ic2).mono ?_)
  rintro e w9 ⟨rfl, bc⟩
  replace ia := ia.below bc
  replace Sa := Sa.after bc
  replace ib := ib.below bc
  replace Sb := Sb.after bc
  replace ic1 := ic1.below bc
  replace ic2 := ic2.below bc
  replace B := B.trans (bc.mono B.size)
  clear bc
  clear ic1 ic2
  have hal := (Below.refl w9.heap.size w9).alloc (Nat.le_refl _) (.cells #[.bool false, .slice none 0 0, .bool false, .slice none 0 0] 28)
  replace ia := ia.below hal
  replace Sa := Sa.after hal
  replace ib := ib.below hal
  replace Sb := Sb.after hal
  replace B := B.trans (hal.mono B.size)
  clear hal
  go_wp2_with fail
  (with_reducible refine (rqmade_z (1) (2) _ (by decide) (by decide) (by decide) (by decide) (by decide)).mono ?_)
  rintro e w10 ⟨gnd1, And1, nnd1, cnd1, gdd1, Add1, ndd1, cdd1, rfl, id1, bd1⟩
  replace ia := ia.below bd1
  replace Sa := Sa.after bd1
  replace ib := ib.below bd1
  replace Sb := Sb.after bd1
  replace B := B.trans (bd1.mono B.size)
  clear bd1
  go_wp2_with fail
  (with_reducible refine (rqmade_z (3) (4) _ (by decide) (by decide) (by decide) (by decide) (by decide)).mono ?_)
  rintro e w11 ⟨gnd2, And2, nnd2, cnd2, gdd2, Add2, ndd2, cdd2, rfl, id2, bd2⟩
  replace ia := ia.below bd2
  replace Sa := Sa.after bd2
  replace ib := ib.below bd2
  replace Sb := Sb.after bd2
  replace id1 := id1.below bd2
  replace B := B.trans (bd2.mono B.size)
  clear bd2
  go_wp2_with fail
  (with_reducible refine (qdiv_z gnd1 And1 nnd1 cnd1 gdd1 Add1 ndd1 cdd1 gnd2 And2 nnd2 cnd2 gdd2 Add2 ndd2 cdd2 _ id1 id2 (smz (1) (2) (by decide) (by decide) (by decide)) (smz (3) (4) (by decide) (by decide) (by decide)) (by decide) (by decide +kernel)).mono ?_)
  rintro e w12 ⟨gnd, And, nnd, cnd, gdd, Add, ndd, cdd, rfl, id, bd⟩
  replace ia := ia.below bd
  replace Sa := Sa.after bd
  replace ib := ib.below bd
  replace Sb := Sb.after bd
  replace id1 := id1.below bd
  replace id2 := id2.below bd
  replace B := B.trans (bd.mono B.size)
  clear bd
  clear id1 id2
  have hal := (Below.refl w12.heap.size w12).alloc (Nat.le_refl _) (.cells #[.bool gnd, .slice And nnd cnd, .bool gdd, .slice Add ndd cdd] 28)
  have Sd := Slot4.new w12 (.bool gnd) (.slice And nnd cnd) (.bool gdd) (.slice Add ndd cdd) 28
  replace ia := ia.below hal
  replace Sa := Sa.after hal
  replace ib := ib.below hal
  replace Sb := Sb.after hal
  replace id := id.below hal
  replace B := B.trans (hal.mono B.size)
  clear hal
  generalize hW : w12.alloc (.cells #[.bool gnd, .slice And nnd cnd, .bool gdd, .slice Add ndd cdd] 28) = W12 at *
  go_wp2_with fail
  try rw [hW]
  clear hW
  (with_reducible refine (rqmade_z (1) (2) _ (by decide) (by decide) (by decide) (by decide) (by decide)).mono ?_)
  rintro e w13 ⟨gne1, Ane1, nne1, cne1, gde1, Ade1, nde1, cde1, rfl, ie1, be1⟩
  replace ia := ia.below be1
  replace Sa := Sa.after be1
  replace ib := ib.below be1
  replace Sb := Sb.after be1
  replace id := id.below be1
  replace Sd := Sd.after be1
  replace B := B.trans (be1.mono B.size)
  clear be1
  go_wp2_with fail
  (with_reducible refine (rqnumber_z (0) _ (by decide) (by decide)).mono ?_)
  rintro e w14 ⟨gne2, Ane2, nne2, cne2, gde2, Ade2, nde2, cde2, rfl, ie2, be2⟩
  replace ia := ia.below be2
  replace Sa := Sa.after be2
  replace ib := ib.below be2
  replace Sb := Sb.after be2
  replace id := id.below be2
  replace Sd := Sd.after be2
  replace ie1 := ie1.below be2
  replace B := B.trans (be2.mono B.size)
  clear be2
  go_wp2_with fail
  (with_reducible refine (qdiv_bad gne1 Ane1 nne1 cne1 gde1 Ade1 nde1 cde1 gne2 Ane2 nne2 cne2 gde2 Ade2 nde2 cde2 _ ie1 ie2 (smz (1) (2) (by decide) (by decide) (by decide)) (smw 0 (by decide)) (by decide) rfl).mono ?_)
  rintro e w15 ⟨rfl, be⟩
  replace ia := ia.below be
  replace Sa := Sa.after be
  replace ib := ib.below be
  replace Sb := Sb.after be
  replace id := id.below be
  replace Sd := Sd.after be
  replace ie1 := ie1.below be
  replace ie2 := ie2.below be
  replace B := B.trans (be.mono B.size)
  clear be
  clear ie1 ie2
  have hal := (Below.refl w15.heap.size w15).alloc (Nat.le_refl _) (.cells #[.bool false, .slice none 0 0, .bool false, .slice none 0 0] 28)
  replace ia := ia.below hal
  replace Sa := Sa.after hal
  replace ib := ib.below hal
  replace Sb := Sb.after hal
  replace id := id.below hal
  replace Sd := Sd.after hal
  replace B := B.trans (hal.mono B.size)
  clear hal
  go_upto_region 7 with (fail)
  generalize (w15.alloc (.cells #[.bool false, .slice none 0 0, .bool false, .slice none 0 0] 28)) = W0 at *
  have HS : Hid (∀ V, Below W0.heap.size W0 V → (V.cell? ⟨w3.heap.size, 0, none⟩ = some (.bool gna) ∧ V.cell? ⟨w3.heap.size, 1, none⟩ = some (.slice Ana nna cna) ∧ V.cell? ⟨w3.heap.size, 2, none⟩ = some (.bool gda) ∧ V.cell? ⟨w3.heap.size, 3, none⟩ = some (.slice Ada nda cda)) ∧ (V.cell? ⟨w6.heap.size, 0, none⟩ = some (.bool gnb) ∧ V.cell? ⟨w6.heap.size, 1, none⟩ = some (.slice Anb nnb cnb) ∧ V.cell? ⟨w6.heap.size, 2, none⟩ = some (.bool gdb) ∧ V.cell? ⟨w6.heap.size, 3, none⟩ = some (.slice Adb ndb cdb)) ∧ (V.cell? ⟨w12.heap.size, 0, none⟩ = some (.bool gnd) ∧ V.cell? ⟨w12.heap.size, 1, none⟩ = some (.slice And nnd cnd) ∧ V.cell? ⟨w12.heap.size, 2, none⟩ = some (.bool gdd) ∧ V.cell? ⟨w12.heap.size, 3, none⟩ = some (.slice Add ndd cdd))) := fun V hV => ⟨(Sa.after hV).cells, (Sb.after hV).cells, (Sd.after hV).cells⟩
  have Dp0 : Below W0.heap.size W0 W0.drew := (Below.refl _ _).drew
  refine wp_region_seq (.pre [(0, true), (1, false), (2, false), (3, true), (4, true), (5, false), (6, false), (7, true), (8, true), (9, true), (10, false), (11, false), (12, true), (13, true)] .done) (fun W => (W.cell? ⟨w3.heap.size, 0, none⟩ = some (.bool gna) ∧ W.cell? ⟨w3.heap.size, 1, none⟩ = some (.slice Ana nna cna) ∧ W.cell? ⟨w3.heap.size, 2, none⟩ = some (.bool gda) ∧ W.cell? ⟨w3.heap.size, 3, none⟩ = some (.slice Ada nda cda)) ∧ (W.cell? ⟨w6.heap.size, 0, none⟩ = some (.bool gnb) ∧ W.cell? ⟨w6.heap.size, 1, none⟩ = some (.slice Anb nnb cnb) ∧ W.cell? ⟨w6.heap.size, 2, none⟩ = some (.bool gdb) ∧ W.cell? ⟨w6.heap.size, 3, none⟩ = some (.slice Adb ndb cdb)) ∧ (W.cell? ⟨w12.heap.size, 0, none⟩ = some (.bool gnd) ∧ W.cell? ⟨w12.heap.size, 1, none⟩ = some (.slice And nnd cnd) ∧ W.cell? ⟨w12.heap.size, 2, none⟩ = some (.bool gdd) ∧ W.cell? ⟨w12.heap.size, 3, none⟩ = some (.slice Add ndd cdd))) (by kernel_rfl) (by kernel_rfl) ?_ (by kernel_rfl) (HS.out _ Dp0) ?_
  · refine chk_pre _ _ _ (by as_aux_lemma => kernel_rfl) ?_
    exact (by as_aux_lemma => kernel_rfl)
  refine seq_take _ ?_ rfl (Or.inl ⟨by rfl, ?_⟩) ?_
  rotate_left
  · (intro w hSw; (try dsimp only at hSw); go_simp; (try with_reducible rfl))
  try simp only [Act.put, List.setIfInBounds_toArray, List.set_cons_zero, List.set_cons_succ]
  refine seq_one _ rfl fun K hK => ?_
  go_simp
  (with_reducible refine (rqmade_z (-3) (2) _ (by decide) (by decide) (by decide) (by decide) (by decide)).mono ?_)
  rintro e vp1 ⟨gnp1, Anp1, nnp1, cnp1, gdp1, Adp1, ndp1, cdp1, rfl, ip1, bp1⟩
  have Dp1 : Below W0.heap.size W0 vp1 := Below.trans Dp0 (bp1.mono (Below.size Dp0))
  go_wp2_with fail
  refine hK.out _ _ (HS.out _ Dp1) (fun hHeld => ?_)
  clear hK K hHeld
  try simp only [Act.put, List.setIfInBounds_toArray, List.set_cons_zero, List.set_cons_succ]
  refine seq_one _ rfl fun K hK => ?_
  go_simp
  (with_reducible refine (rqsame_z gna Ana nna cna gda Ada nda cda gnp1 Anp1 nnp1 cnp1 gdp1 Adp1 ndp1 cdp1 _ (ia.below Dp1) ip1 (by decide +kernel)).mono ?_)
  rintro e vp2 ⟨rfl, bp2⟩
  have Dp2 : Below W0.heap.size W0 vp2 := Below.trans Dp1 (bp2.mono (Below.size Dp1))
  go_wp2_with fail
  refine hK.out _ _ (HS.out _ Dp2) (fun hHeld => ?_)
  clear hK K hHeld
  try simp only [Act.put, List.setIfInBounds_toArray, List.set_cons_zero, List.set_cons_succ]
  refine seq_take _ ?_ rfl (Or.inl ⟨by rfl, ?_⟩) ?_
  rotate_left
  · (intro w hSw; (try dsimp only at hSw); go_simp; (try with_reducible rfl))
  try simp only [Act.put, List.setIfInBounds_toArray, List.set_cons_zero, List.set_cons_succ]
  refine seq_take _ ?_ rfl (Or.inl ⟨by rfl, ?_⟩) ?_
  rotate_left
  · (intro w hSw; (try dsimp only at hSw); go_simp; (try with_reducible rfl))
  try simp only [Act.put, List.setIfInBounds_toArray, List.set_cons_zero, List.set_cons_succ]
  refine seq_one _ rfl fun K hK => ?_
  go_simp
  (with_reducible refine (rqnumber_z (0) _ (by decide) (by decide)).mono ?_)
  rintro e vp3 ⟨gnp3, Anp3, nnp3, cnp3, gdp3, Adp3, ndp3, cdp3, rfl, ip3, bp3⟩
  have Dp3 : Below W0.heap.size W0 vp3 := Below.trans Dp2 (bp3.mono (Below.size Dp2))
  go_wp2_with fail
  refine hK.out _ _ (HS.out _ Dp3) (fun hHeld => ?_)
  clear hK K hHeld
  try simp only [Act.put, List.setIfInBounds_toArray, List.set_cons_zero, List.set_cons_succ]
  refine seq_one _ rfl fun K hK => ?_
  go_simp
  (with_reducible refine (rqsame_z gnb Anb nnb cnb gdb Adb ndb cdb gnp3 Anp3 nnp3 cnp3 gdp3 Adp3 ndp3 cdp3 _ (ib.below Dp3) ip3 (by decide +kernel)).mono ?_)
  rintro e vp4 ⟨rfl, bp4⟩
  have Dp4 : Below W0.heap.size W0 vp4 := Below.trans Dp3 (bp4.mono (Below.size Dp3))
  go_wp2_with fail
  refine hK.out _ _ (HS.out _ Dp4) (fun hHeld => ?_)
  clear hK K hHeld
  try simp only [Act.put, List.setIfInBounds_toArray, List.set_cons_zero, List.set_cons_succ]
  refine seq_take _ ?_ rfl (Or.inl ⟨by rfl, ?_⟩) ?_
  rotate_left
  · (intro w hSw; (try dsimp only at hSw); go_simp; (try with_reducible rfl))
  try simp only [Act.put, List.setIfInBounds_toArray, List.set_cons_zero, List.set_cons_succ]
  refine seq_take _ ?_ rfl (Or.inl ⟨by rfl, ?_⟩) ?_
  rotate_left
  · (intro w hSw; (try dsimp only at hSw); go_simp; (try with_reducible rfl))
  try simp only [Act.put, List.setIfInBounds_toArray, List.set_cons_zero, List.set_cons_succ]
  refine seq_take _ ?_ rfl (Or.inl ⟨by rfl, ?_⟩) ?_
  rotate_left
  · (intro w hSw; (try dsimp only at hSw); go_simp; (try with_reducible rfl))
  try simp only [Act.put, List.setIfInBounds_toArray, List.set_cons_zero, List.set_cons_succ]
  refine seq_one _ rfl fun K hK => ?_
  go_simp
  (with_reducible refine (rqmade_z (2) (3) _ (by decide) (by decide) (by decide) (by decide) (by decide)).mono ?_)
  rintro e vp5 ⟨gnp5, Anp5, nnp5, cnp5, gdp5, Adp5, ndp5, cdp5, rfl, ip5, bp5⟩
  have Dp5 : Below W0.heap.size W0 vp5 := Below.trans Dp4 (bp5.mono (Below.size Dp4))
  go_wp2_with fail
  refine hK.out _ _ (HS.out _ Dp5) (fun hHeld => ?_)
  clear hK K hHeld
  try simp only [Act.put, List.setIfInBounds_toArray, List.set_cons_zero, List.set_cons_succ]
  refine seq_one _ rfl fun K hK => ?_
  go_simp
  (with_reducible refine (rqsame_z gnd And nnd cnd gdd Add ndd cdd gnp5 Anp5 nnp5 cnp5 gdp5 Adp5 ndp5 cdp5 _ (id.below Dp5) ip5 (by decide +kernel)).mono ?_)
  rintro e vp6 ⟨rfl, bp6⟩
  have Dp6 : Below W0.heap.size W0 vp6 := Below.trans Dp5 (bp6.mono (Below.size Dp5))
  go_wp2_with fail
  refine hK.out _ _ (HS.out _ Dp6) (fun hHeld => ?_)
  clear hK K hHeld
  try simp only [Act.put, List.setIfInBounds_toArray, List.set_cons_zero, List.set_cons_succ]
  refine seq_take _ ?_ rfl (Or.inl ⟨by rfl, ?_⟩) ?_
  rotate_left
  · (intro w hSw; (try dsimp only at hSw); go_simp; (try with_reducible rfl))
  try simp only [Act.put, List.setIfInBounds_toArray, List.set_cons_zero, List.set_cons_succ]
  refine seq_take _ ?_ rfl (Or.inl ⟨by rfl, ?_⟩) ?_
  rotate_left
  · (intro w hSw; (try dsimp only at hSw); go_simp; (try with_reducible rfl))
  try simp only [Act.put, List.setIfInBounds_toArray, List.set_cons_zero, List.set_cons_succ]
  refine NoPanic.normal ?_
  replace B := B.trans (Dp6.mono B.size)
  clear HS ia ib id Sa Sb Sd
  go_wp2_with fail
  (with_reducible refine (rqmade_z (1) (6) _ (by decide) (by decide) (by decide) (by decide) (by decide)).mono ?_)
  rintro e w16 ⟨gnf1, Anf1, nnf1, cnf1, gdf1, Adf1, ndf1, cdf1, rfl, if1, bf1⟩
  replace B := B.trans (bf1.mono B.size)
  clear bf1
  go_wp2_with fail
  (with_reducible refine (rqmade_z (1) (3) _ (by decide) (by decide) (by decide) (by decide) (by decide)).mono ?_)
  rintro e w17 ⟨gnf2, Anf2, nnf2, cnf2, gdf2, Adf2, ndf2, cdf2, rfl, if2, bf2⟩
  replace if1 := if1.below bf2
  replace B := B.trans (bf2.mono B.size)
  clear bf2
  go_wp2_with fail
  (with_reducible refine (qadd_z gnf1 Anf1 nnf1 cnf1 gdf1 Adf1 ndf1 cdf1 gnf2 Anf2 nnf2 cnf2 gdf2 Adf2 ndf2 cdf2 _ if1 if2 (smz (1) (6) (by decide) (by decide) (by decide)) (smz (1) (3) (by decide) (by decide) (by decide)) (by decide)).mono ?_)
  rintro e w18 ⟨gnf3, Anf3, nnf3, cnf3, gdf3, Adf3, ndf3, cdf3, rfl, if3, bf3⟩
  replace if1 := if1.below bf3
  replace if2 := if2.below bf3
  replace B := B.trans (bf3.mono B.size)
  clear bf3
  go_wp2_with fail
  (with_reducible refine (rqmade_z (1) (2) _ (by decide) (by decide) (by decide) (by decide) (by decide)).mono ?_)
  rintro e w19 ⟨gnf4, Anf4, nnf4, cnf4, gdf4, Adf4, ndf4, cdf4, rfl, if4, bf4⟩
  replace if1 := if1.below bf4
  replace if2 := if2.below bf4
  replace if3 := if3.below bf4
  replace B := B.trans (bf4.mono B.size)
  clear bf4
  go_wp2_with fail
  (with_reducible refine (rqsame_z gnf3 Anf3 nnf3 cnf3 gdf3 Adf3 ndf3 cdf3 gnf4 Anf4 nnf4 cnf4 gdf4 Adf4 ndf4 cdf4 _ if3 if4 (by decide +kernel)).mono ?_)
  rintro e w20 ⟨rfl, bsf3⟩
  replace if1 := if1.below bsf3
  replace if2 := if2.below bsf3
  replace if3 := if3.below bsf3
  replace if4 := if4.below bsf3
  replace B := B.trans (bsf3.mono B.size)
  clear bsf3
  clear if1 if2 if3 if4
  go_wp2_with fail
  (with_reducible refine (rqmade_z (1) (6) _ (by decide) (by decide) (by decide) (by decide) (by decide)).mono ?_)
  rintro e w21 ⟨gnf1, Anf1, nnf1, cnf1, gdf1, Adf1, ndf1, cdf1, rfl, if1, bf1⟩
  replace B := B.trans (bf1.mono B.size)
  clear bf1
  go_wp2_with fail
  (with_reducible refine (rqmade_z (1) (6) _ (by decide) (by decide) (by decide) (by decide) (by decide)).mono ?_)
  rintro e w22 ⟨gnf2, Anf2, nnf2, cnf2, gdf2, Adf2, ndf2, cdf2, rfl, if2, bf2⟩
  replace if1 := if1.below bf2
  replace B := B.trans (bf2.mono B.size)
  clear bf2
  go_wp2_with fail
  (with_reducible refine (qsub_z gnf1 Anf1 nnf1 cnf1 gdf1 Adf1 ndf1 cdf1 gnf2 Anf2 nnf2 cnf2 gdf2 Adf2 ndf2 cdf2 _ if1 if2 (smz (1) (6) (by decide) (by decide) (by decide)) (smz (1) (6) (by decide) (by decide) (by decide)) (by decide)).mono ?_)
  rintro e w23 ⟨gnf3, Anf3, nnf3, cnf3, gdf3, Adf3, ndf3, cdf3, rfl, if3, bf3⟩
  replace if1 := if1.below bf3
  replace if2 := if2.below bf3
  replace B := B.trans (bf3.mono B.size)
  clear bf3
  go_wp2_with fail
  (with_reducible refine (rqnumber_z (0) _ (by decide) (by decide)).mono ?_)
  rintro e w24 ⟨gnf4, Anf4, nnf4, cnf4, gdf4, Adf4, ndf4, cdf4, rfl, if4, bf4⟩
  replace if1 := if1.below bf4
  replace if2 := if2.below bf4
  replace if3 := if3.below bf4
  replace B := B.trans (bf4.mono B.size)
  clear bf4
  go_wp2_with fail
  (with_reducible refine (rqsame_z gnf3 Anf3 nnf3 cnf3 gdf3 Adf3 ndf3 cdf3 gnf4 Anf4 nnf4 cnf4 gdf4 Adf4 ndf4 cdf4 _ if3 if4 (by decide +kernel)).mono ?_)
  rintro e w25 ⟨rfl, bsf3⟩
  replace if1 := if1.below bsf3
  replace if2 := if2.below bsf3
  replace if3 := if3.below bsf3
  replace if4 := if4.below bsf3
  replace B := B.trans (bsf3.mono B.size)
  clear bsf3
  clear if1 if2 if3 if4
  go_wp2_with fail
  (with_reducible refine (rqmade_z (4) (3) _ (by decide) (by decide) (by decide) (by decide) (by decide)).mono ?_)
  rintro e w26 ⟨gnf1, Anf1, nnf1, cnf1, gdf1, Adf1, ndf1, cdf1, rfl, if1, bf1⟩
  replace B := B.trans (bf1.mono B.size)
  clear bf1
  go_wp2_with fail
  (with_reducible refine (rqmade_z (3) (8) _ (by decide) (by decide) (by decide) (by decide) (by decide)).mono ?_)
  rintro e w27 ⟨gnf2, Anf2, nnf2, cnf2, gdf2, Adf2, ndf2, cdf2, rfl, if2, bf2⟩
  replace if1 := if1.below bf2
  replace B := B.trans (bf2.mono B.size)
  clear bf2
  go_wp2_with fail
  (with_reducible refine (qmul_z gnf1 Anf1 nnf1 cnf1 gdf1 Adf1 ndf1 cdf1 gnf2 Anf2 nnf2 cnf2 gdf2 Adf2 ndf2 cdf2 _ if1 if2 (smz (4) (3) (by decide) (by decide) (by decide)) (smz (3) (8) (by decide) (by decide) (by decide)) (by decide)).mono ?_)
  rintro e w28 ⟨gnf3, Anf3, nnf3, cnf3, gdf3, Adf3, ndf3, cdf3, rfl, if3, bf3⟩
  replace if1 := if1.below bf3
  replace if2 := if2.below bf3
  replace B := B.trans (bf3.mono B.size)
  clear bf3
  go_wp2_with fail
  (with_reducible refine (rqmade_z (1) (2) _ (by decide) (by decide) (by decide) (by decide) (by decide)).mono ?_)
  rintro e w29 ⟨gnf4, Anf4, nnf4, cnf4, gdf4, Adf4, ndf4, cdf4, rfl, if4, bf4⟩
  replace if1 := if1.below bf4
  replace if2 := if2.below bf4
  replace if3 := if3.below bf4
  replace B := B.trans (bf4.mono B.size)
  clear bf4
  go_wp2_with fail
  (with_reducible refine (rqsame_z gnf3 Anf3 nnf3 cnf3 gdf3 Adf3 ndf3 cdf3 gnf4 Anf4 nnf4 cnf4 gdf4 Adf4 ndf4 cdf4 _ if3 if4 (by decide +kernel)).mono ?_)
  rintro e w30 ⟨rfl, bsf3⟩
  replace if1 := if1.below bsf3
  replace if2 := if2.below bsf3
  replace if3 := if3.below bsf3
  replace if4 := if4.below bsf3
  replace B := B.trans (bsf3.mono B.size)
  clear bsf3
  clear if1 if2 if3 if4
  go_wp2_with fail
  (with_reducible refine (rqmade_z (-2) (3) _ (by decide) (by decide) (by decide) (by decide) (by decide)).mono ?_)
  rintro e w31 ⟨gnf1, Anf1, nnf1, cnf1, gdf1, Adf1, ndf1, cdf1, rfl, if1, bf1⟩
  replace B := B.trans (bf1.mono B.size)
  clear bf1
  go_wp2_with fail
  (with_reducible refine (rqmade_z (-3) (5) _ (by decide) (by decide) (by decide) (by decide) (by decide)).mono ?_)
  rintro e w32 ⟨gnf2, Anf2, nnf2, cnf2, gdf2, Adf2, ndf2, cdf2, rfl, if2, bf2⟩
  replace if1 := if1.below bf2
  replace B := B.trans (bf2.mono B.size)
  clear bf2
  go_wp2_with fail
  (with_reducible refine (qcmp_z gnf1 Anf1 nnf1 cnf1 gdf1 Adf1 ndf1 cdf1 gnf2 Anf2 nnf2 cnf2 gdf2 Adf2 ndf2 cdf2 _ (-1) if1 if2 (smz (-2) (3) (by decide) (by decide) (by decide)) (smz (-3) (5) (by decide) (by decide) (by decide)) (by decide) (by decide +kernel)).mono ?_)
  rintro e w33 ⟨rfl, bf3⟩
  replace if1 := if1.below bf3
  replace if2 := if2.below bf3
  replace B := B.trans (bf3.mono B.size)
  clear bf3
  clear if1 if2
  go_wp2_with fail
  (with_reducible refine (rqmade_z (-1) (7) _ (by decide) (by decide) (by decide) (by decide) (by decide)).mono ?_)
  rintro e w34 ⟨gnf1, Anf1, nnf1, cnf1, gdf1, Adf1, ndf1, cdf1, rfl, if1, bf1⟩
  replace B := B.trans (bf1.mono B.size)
  clear bf1
  go_wp2_with fail
  (with_reducible refine (qsign_z gnf1 Anf1 nnf1 cnf1 gdf1 Adf1 ndf1 cdf1 (-1) _ if1.num (by decide +kernel)).mono ?_)
  rintro e w35 ⟨rfl, bf3⟩
  replace if1 := if1.below bf3
  replace B := B.trans (bf3.mono B.size)
  clear bf3
  clear if1
  go_wp2_with fail
  (with_reducible refine (rqnumber_z (2) _ (by decide) (by decide)).mono ?_)
  rintro e w36 ⟨gnf1, Anf1, nnf1, cnf1, gdf1, Adf1, ndf1, cdf1, rfl, if1, bf1⟩
  replace B := B.trans (bf1.mono B.size)
  clear bf1
  go_wp2_with fail
  (with_reducible refine (qint_t gnf1 Anf1 nnf1 cnf1 gdf1 Adf1 ndf1 cdf1 _ if1 rfl).mono ?_)
  rintro e w37 ⟨rfl, bf3⟩
  replace if1 := if1.below bf3
  replace B := B.trans (bf3.mono B.size)
  clear bf3
  clear if1
  go_wp2_with fail
  (with_reducible refine (rqmade_z (1) (2) _ (by decide) (by decide) (by decide) (by decide) (by decide)).mono ?_)
  rintro e w38 ⟨gnf1, Anf1, nnf1, cnf1, gdf1, Adf1, ndf1, cdf1, rfl, if1, bf1⟩
  replace B := B.trans (bf1.mono B.size)
  clear bf1
  go_wp2_with fail
  (with_reducible refine (qint_f gnf1 Anf1 nnf1 cnf1 gdf1 Adf1 ndf1 cdf1 _ if1 (by decide +kernel)).mono ?_)
  rintro e w39 ⟨rfl, bf3⟩
  replace if1 := if1.below bf3
  replace B := B.trans (bf3.mono B.size)
  clear bf3
  clear if1
  go_wp2_with fail
  (with_reducible refine (rqmade_z (-7) (3) _ (by decide) (by decide) (by decide) (by decide) (by decide)).mono ?_)
  rintro e w40 ⟨gnf1, Anf1, nnf1, cnf1, gdf1, Adf1, ndf1, cdf1, rfl, if1, bf1⟩
  replace B := B.trans (bf1.mono B.size)
  clear bf1
  go_wp2_with fail
  (with_reducible refine (qfloor_z gnf1 Anf1 nnf1 cnf1 gdf1 Adf1 ndf1 cdf1 _ if1 (smz (-7) (3) (by decide) (by decide) (by decide)).num (smz (-7) (3) (by decide) (by decide) (by decide)).den).mono ?_)
  rintro e w41 ⟨gf3, Af3, nf3, cf3, rfl, if3, bf3⟩
  replace if1 := if1.below bf3
  replace B := B.trans (bf3.mono B.size)
  clear bf3
  go_wp2_with fail
  (with_reducible refine (rof_any (-3) _ (by decide) (by decide)).mono ?_)
  rintro e w42 ⟨gf4, Af4, nf4, cf4, rfl, if4, bf4⟩
  replace if1 := if1.below bf4
  replace if3 := if3.below bf4
  replace B := B.trans (bf4.mono B.size)
  clear bf4
  go_wp2_with fail
  (with_reducible refine (same_z gf3 gf4 Af3 Af4 nf3 cf3 nf4 cf4 _ if3 if4 (by decide +kernel)).mono ?_)
  rintro e w43 ⟨rfl, bf5⟩
  replace if1 := if1.below bf5
  replace if3 := if3.below bf5
  replace if4 := if4.below bf5
  replace B := B.trans (bf5.mono B.size)
  clear bf5
  clear if1 if3 if4
  go_wp2_with fail
  (with_reducible refine (rqmade_z (5) (2) _ (by decide) (by decide) (by decide) (by decide) (by decide)).mono ?_)
  rintro e w44 ⟨gnf1, Anf1, nnf1, cnf1, gdf1, Adf1, ndf1, cdf1, rfl, if1, bf1⟩
  replace B := B.trans (bf1.mono B.size)
  clear bf1
  go_wp2_with fail
  (with_reducible refine (qround_z gnf1 Anf1 nnf1 cnf1 gdf1 Adf1 ndf1 cdf1 _ if1 (smz (5) (2) (by decide) (by decide) (by decide)) (by decide)).mono ?_)
  rintro e w45 ⟨gf3, Af3, nf3, cf3, rfl, if3, bf3⟩
  replace if1 := if1.below bf3
  replace B := B.trans (bf3.mono B.size)
  clear bf3
  go_wp2_with fail
  (with_reducible refine (rof_any (3) _ (by decide) (by decide)).mono ?_)
  rintro e w46 ⟨gf4, Af4, nf4, cf4, rfl, if4, bf4⟩
  replace if1 := if1.below bf4
  replace if3 := if3.below bf4
  replace B := B.trans (bf4.mono B.size)
  clear bf4
  go_wp2_with fail
  (with_reducible refine (same_z gf3 gf4 Af3 Af4 nf3 cf3 nf4 cf4 _ if3 if4 (by decide +kernel)).mono ?_)
  rintro e w47 ⟨rfl, bf5⟩
  replace if1 := if1.below bf5
  replace if3 := if3.below bf5
  replace if4 := if4.below bf5
  replace B := B.trans (bf5.mono B.size)
  clear bf5
  clear if1 if3 if4
  go_wp2_with fail
  (with_reducible refine (rqmade_z (-5) (2) _ (by decide) (by decide) (by decide) (by decide) (by decide)).mono ?_)
  rintro e w48 ⟨gnf1, Anf1, nnf1, cnf1, gdf1, Adf1, ndf1, cdf1, rfl, if1, bf1⟩
  replace B := B.trans (bf1.mono B.size)
  clear bf1
  go_wp2_with fail
  (with_reducible refine (qround_z gnf1 Anf1 nnf1 cnf1 gdf1 Adf1 ndf1 cdf1 _ if1 (smz (-5) (2) (by decide) (by decide) (by decide)) (by decide)).mono ?_)
  rintro e w49 ⟨gf3, Af3, nf3, cf3, rfl, if3, bf3⟩
  replace if1 := if1.below bf3
  replace B := B.trans (bf3.mono B.size)
  clear bf3
  go_wp2_with fail
  (with_reducible refine (rof_any (-2) _ (by decide) (by decide)).mono ?_)
  rintro e w50 ⟨gf4, Af4, nf4, cf4, rfl, if4, bf4⟩
  replace if1 := if1.below bf4
  replace if3 := if3.below bf4
  replace B := B.trans (bf4.mono B.size)
  clear bf4
  go_wp2_with fail
  (with_reducible refine (same_z gf3 gf4 Af3 Af4 nf3 cf3 nf4 cf4 _ if3 if4 (by decide +kernel)).mono ?_)
  rintro e w51 ⟨rfl, bf5⟩
  replace if1 := if1.below bf5
  replace if3 := if3.below bf5
  replace if4 := if4.below bf5
  replace B := B.trans (bf5.mono B.size)
  clear bf5
  clear if1 if3 if4
  go_wp2_with fail
  (with_reducible refine (rqmade_z (-3) (2) _ (by decide) (by decide) (by decide) (by decide) (by decide)).mono ?_)
  rintro e w52 ⟨gnf1, Anf1, nnf1, cnf1, gdf1, Adf1, ndf1, cdf1, rfl, if1, bf1⟩
  replace B := B.trans (bf1.mono B.size)
  clear bf1
  go_wp2_with fail
  (with_reducible refine (qtext_z gnf1 Anf1 nnf1 cnf1 gdf1 Adf1 ndf1 cdf1 _ _ if1 (smz (-3) (2) (by decide) (by decide) (by decide)) (by decide) txt_32).mono ?_)
  rintro e w53 ⟨rfl, bf3⟩
  replace if1 := if1.below bf3
  replace B := B.trans (bf3.mono B.size)
  clear bf3
  clear if1
  go_wp2_with fail
  (with_reducible refine (rqnumber_z (5) _ (by decide) (by decide)).mono ?_)
  rintro e w54 ⟨gnf1, Anf1, nnf1, cnf1, gdf1, Adf1, ndf1, cdf1, rfl, if1, bf1⟩
  replace B := B.trans (bf1.mono B.size)
  clear bf1
  go_wp2_with fail
  (with_reducible refine (qtext_z gnf1 Anf1 nnf1 cnf1 gdf1 Adf1 ndf1 cdf1 _ _ if1 (smw 5 (by decide)) (by decide) txt_5).mono ?_)
  rintro e w55 ⟨rfl, bf3⟩
  replace if1 := if1.below bf3
  replace B := B.trans (bf3.mono B.size)
  clear bf3
  clear if1
  go_wp2_with fail
  (with_reducible refine (qvalid_zero _).mono ?_)
  rintro e w56 ⟨rfl, bf3⟩
  replace B := B.trans (bf3.mono B.size)
  clear bf3
  go_wp2
  go_ret
  exact ⟨rfl, B⟩
end Go.Proofs.YtlpoboikompjfaaGreatDoor
