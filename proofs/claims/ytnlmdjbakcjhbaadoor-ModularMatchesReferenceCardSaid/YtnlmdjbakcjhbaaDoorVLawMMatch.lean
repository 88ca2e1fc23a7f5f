/- The walk of the law ModularMatchesReference, given what its fixed examples return. -/
import Derived.Test.YtnlmdjbakcjhbaaDoorVLawMK
import Derived.Test.YtnlmdjbakcjhbaaDoorVG3Made
import Derived.Test.YtnlmdjbakcjhbaaDoorVSanP
import Derived.BigRegion
import Derived.RegionTactic
import Derived.ChangeAlike
import Derived.Deep.DeepCutAuto
import Derived.Deep.RegionHeld3
namespace Go.Proofs.YtnlmdjbakcjhbaaDoor
open Go.RowKit
/-- The inverse and the error of an element. -/
def invD (p a : Nat) : Nat := if a = 0 then 0 else a ^ (p - 2) % p
def invE (a : Nat) : Int := if a = 0 then 30 else 0
def RetInv (w : World) (p a : Nat) (x : Ending) (w' : World) : Prop := ∃ (d : Nat) (c : Int), x = .returned (.tuple #[.int .u64 (d : Int), .int .i64 c]) ∧ Hid (d = invD p a) ∧ Hid (c = invE a) ∧ Below w.heap.size w w'
theorem minv_f (p a : Nat) (w : World) (hp : IsPrime p) (hpl : p < 2147483648) (ha : a < p) : Calls Tryd.prog 30 #[.int .u64 (p : Int), .int .u64 (a : Int)] w (RetInv w p a) := by
  by_cases h : a = 0
  · refine (minv_z p a w hp.1 h).mono ?_
    rintro e w' ⟨rfl, hB⟩
    exact ⟨0, 30, rfl, by rw [Hid, invD, if_pos h], by rw [Hid, invE, if_pos h], hB⟩
  · refine (minv_r p a w hp hpl ha (by omega)).mono ?_
    rintro e w' ⟨d, rfl, hd, _, _, hB⟩
    exact ⟨d, 0, rfl, by rw [Hid, invD, if_neg h]; exact hd.out.unique (InvOk.fermat hp (by omega) ha), by rw [Hid, invE, if_neg h], hB⟩
theorem qinv_f (p a : Nat) (w : World) (hp : IsPrime p) (hpl : p < 2147483648) (ha : a < p) : Calls Tryd.prog 31 #[.int .u64 (p : Int), .int .u64 (a : Int)] w (RetInv w p a) := by
  by_cases h : a = 0
  · refine (qinv_z p a w hp.1 h).mono ?_
    rintro e w' ⟨rfl, hB⟩
    exact ⟨0, 30, rfl, by rw [Hid, invD, if_pos h], by rw [Hid, invE, if_pos h], hB⟩
  · refine (qinv_r p a w hp hpl ha (by omega)).mono ?_
    rintro e w' ⟨d, rfl, hd, _, _, hB⟩
    exact ⟨d, 0, rfl, by rw [Hid, invD, if_neg h]; exact hd.out.unique (InvOk.fermat hp (by omega) ha), by rw [Hid, invE, if_neg h], hB⟩
set_option maxRecDepth 1000000 in
set_option maxHeartbeats 4000000 in
theorem mmatch_r7 {u0 u1 u2 u4 u13 u14 u15 u16 u17 u18 u19 u20 u21 u22 u23 u24 u25 u26 u27 u28 u29 u30 u31 u32 u33 u34 u35 u36 u37 u38 u39 u40 u41 u42 u43 u44 u45 u46 u47 u48 u49 u50 u51 u52 u53 u54 u55 u56 u57 u58 u59 u60 u61 u62 u63 u64 u65 u66 u67 u68 u69 u70 u71 u72 u73 u74 u75 u76 u77 u78 u79 u80 u81 u82 u83 u84 u85 u86 u87 u88 u89 u90 u91 u92 u93 u94 u95 u96 u97 u98 u99 u100 u101 : Value} {W : World} {K : Act → World → Prop} {Q : Exit → Act → World → Prop} {gx p a b d x2 : Nat} {q : Int} {vx0 vx1 : Value} (HX : Arr3 W gx vx0 vx1 (.int .u64 (x2 : Int))) (hp0 : 0 < p) (hp : p < 2147483648) (hal : a < p) (hbl : b < p) (hx2 : x2 < 18446744073709551616)
    (hK : ∀ (v36 v37 v38 v39 v40 v41 v42 v43 v44 v45 v46 v47 v48 v49 v50 v51 v52 v53 v54 v55 v56 v57 v58 v59 v60 v61 v62 v63 v64 v65 v66 v67 v68 v69 v70 v71 v72 v73 v74 v75 v76 v77 v78 v79 v80 v81 v82 v83 v84 v85 v86 v87 v88 v89 v90 v91 v92 v93 v94 v95 v96 v97 v98 v99 v100 v101 : Value) (w' : World), Below W.heap.size W w' → K ⟨#[u0, u1, u2, .pointer (some ⟨gx, 0, none⟩), .bool true, .bool true, .int .u64 (p : Int), .int .u64 (a : Int), .int .u64 (b : Int), .int .u64 (d : Int), .int .i64 q, .int .u64 (d : Int), .int .i64 q, u13, u14, u15, u16, u17, u18, u19, u20, u21, u22, u23, u24, u25, u26, u27, u28, u29, u30, u31, u32, u33, u34, u35, v36, v37, v38, v39, v40, v41, v42, v43, v44, v45, v46, v47, v48, v49, v50, v51, v52, v53, v54, v55, v56, v57, v58, v59, v60, v61, v62, v63, v64, v65, v66, v67, v68, v69, v70, v71, v72, v73, v74, v75, v76, v77, v78, v79, v80, v81, v82, v83, v84, v85, v86, v87, v88, v89, v90, v91, v92, v93, v94, v95, v96, v97, v98, v99, v100, v101], []⟩ w') :
    Code.wp Tryd.prog (regionOf 7 Tryd.f6) (Exit.then K Q) ⟨#[u0, u1, u2, .pointer (some ⟨gx, 0, none⟩), u4, .bool true, .int .u64 (p : Int), .int .u64 (a : Int), .int .u64 (b : Int), .int .u64 (d : Int), .int .i64 q, .int .u64 (d : Int), .int .i64 q, u13, u14, u15, u16, u17, u18, u19, u20, u21, u22, u23, u24, u25, u26, u27, u28, u29, u30, u31, u32, u33, u34, u35, u36, u37, u38, u39, u40, u41, u42, u43, u44, u45, u46, u47, u48, u49, u50, u51, u52, u53, u54, u55, u56, u57, u58, u59, u60, u61, u62, u63, u64, u65, u66, u67, u68, u69, u70, u71, u72, u73, u74, u75, u76, u77, u78, u79, u80, u81, u82, u83, u84, u85, u86, u87, u88, u89, u90, u91, u92, u93, u94, u95, u96, u97, u98, u99, u100, u101], []⟩ W := by
  conv => arg 2; whnf
  simp only [List.append_eq, List.cons_append, List.nil_append]
  have HS : Hid (∀ V, Below W.heap.size W V → V.cell? ⟨gx, 2, none⟩ = some (.int .u64 (x2 : Int))) := fun V hW => (HX.after hW).2.2.1
  have DM0 : Below W.heap.size W W.drew := (Below.refl _ _).drew
  refine wp_region_seq (.pre [(0, true), (1, true), (2, true), (3, true), (4, true), (6, true), (7, true), (8, true), (5, false), (9, false), (10, true), (11, true), (12, true), (13, true), (14, true), (15, true), (17, true), (18, true), (19, true), (16, false), (20, false), (21, true), (22, true), (23, true), (24, true)] (.pre [(25, true), (26, true), (28, true), (29, true), (30, true), (27, false), (31, false), (32, true), (33, true), (34, true), (35, true), (36, true), (37, true), (38, true), (40, true), (41, true), (42, true), (43, true), (39, false), (44, false), (45, true), (46, true), (47, true), (48, true), (49, true)] (.pre [(50, true), (51, true), (52, true), (53, true), (54, true), (55, true), (56, true), (57, true), (58, true), (59, true), (61, true), (62, true), (60, false), (63, false), (64, false), (65, true), (66, true)] .done))) (fun W => W.cell? ⟨gx, 2, none⟩ = some (.int .u64 (x2 : Int))) (by kernel_rfl) (by kernel_rfl) ?_ (by kernel_rfl) (HS.out _ DM0) ?_
  · refine chk_pre _ _ _ (by as_aux_lemma => kernel_rfl) ?_
    refine chk_pre _ _ _ (by as_aux_lemma => kernel_rfl) ?_
    refine chk_pre _ _ _ (by as_aux_lemma => kernel_rfl) ?_
    exact (by as_aux_lemma => kernel_rfl)
  refine seq_take _ ?_ rfl (Or.inl ⟨by rfl, ?_⟩) ?_
  rotate_left
  · (intro w hSw; (try dsimp only at hSw); go_simp; (try with_reducible rfl))
  try simp only [Act.put, List.setIfInBounds_toArray, List.set_cons_zero, List.set_cons_succ]
  refine seq_take _ ?_ rfl (Or.inl ⟨by rfl, ?_⟩) ?_
  rotate_left
  · (intro w hSw; (try dsimp only at hSw); go_simp; (try with_reducible rfl))
  try simp only [Act.put, List.setIfInBounds_toArray, List.set_cons_zero, List.set_cons_succ]
  refine seq_take _ ?_ rfl (Or.inl ⟨by rfl, ?_⟩) ?_
  rotate_left
  · (intro w hSw; (try dsimp only at hSw); go_simp; (try with_reducible rfl))
  try simp only [Act.put, List.setIfInBounds_toArray, List.set_cons_zero, List.set_cons_succ]
  refine seq_take _ ?_ rfl (Or.inl ⟨by rfl, ?_⟩) ?_
  rotate_left
  · (intro w hSw; (try dsimp only at hSw); go_simp; (try with_reducible rfl))
  try simp only [Act.put, List.setIfInBounds_toArray, List.set_cons_zero, List.set_cons_succ]
  refine seq_take _ ?_ rfl (Or.inl ⟨by rfl, ?_⟩) ?_
  rotate_left
  · (intro w hSw; (try dsimp only at hSw); go_simp; (try with_reducible rfl))
  try simp only [Act.put, List.setIfInBounds_toArray, List.set_cons_zero, List.set_cons_succ]
  refine seq_take _ ?_ rfl (Or.inl ⟨by rfl, ?_⟩) ?_
  rotate_left
  · (intro w hSw; (try dsimp only at hSw); go_simp; (try with_reducible rfl))
  try simp only [Act.put, List.setIfInBounds_toArray, List.set_cons_zero, List.set_cons_succ]
  refine seq_take _ ?_ rfl (Or.inl ⟨by rfl, ?_⟩) ?_
  rotate_left
  · (intro w hSw; (try dsimp only at hSw); go_simp; (try with_reducible rfl))
  try simp only [Act.put, List.setIfInBounds_toArray, List.set_cons_zero, List.set_cons_succ]
  refine seq_take _ ?_ rfl (Or.inl ⟨by rfl, ?_⟩) ?_
  rotate_left
  · (intro w hSw; (try dsimp only at hSw); go_simp; (try with_reducible rfl))
  try simp only [Act.put, List.setIfInBounds_toArray, List.set_cons_zero, List.set_cons_succ]
  refine seq_one _ rfl fun K hK => ?_
  go_simp
  (with_reducible refine (madd_r p a b _ hp0 hp hal hbl).mono ?_)
  rintro e vM1 ⟨r1, rfl, Hr1, lr1, bM1⟩
  have DM1 : Below W.heap.size W vM1 := Below.trans DM0 (bM1.mono (Below.size DM0))
  go_wp2_with fail
  refine hK.out _ _ (HS.out _ DM1) (fun hHeld => ?_)
  clear hK K hHeld
  try simp only [Act.put, List.setIfInBounds_toArray, List.set_cons_zero, List.set_cons_succ]
  refine seq_one _ rfl fun K hK => ?_
  go_simp
  (with_reducible refine (qadd_v p a b r1 _ hp0 hp hal hbl Hr1).mono ?_)
  rintro e vM2 ⟨rfl, bM2⟩
  have DM2 : Below W.heap.size W vM2 := Below.trans DM1 (bM2.mono (Below.size DM1))
  go_wp2_with fail
  refine hK.out _ _ (HS.out _ DM2) (fun hHeld => ?_)
  clear hK K hHeld
  try simp only [Act.put, List.setIfInBounds_toArray, List.set_cons_zero, List.set_cons_succ]
  refine seq_take _ ?_ rfl (Or.inl ⟨by rfl, ?_⟩) ?_
  rotate_left
  · (intro w hSw; (try dsimp only at hSw); go_simp; (try with_reducible rfl))
  try simp only [Act.put, List.setIfInBounds_toArray, List.set_cons_zero, List.set_cons_succ]
  refine seq_take _ ?_ rfl (Or.inl ⟨by rfl, ?_⟩) ?_
  rotate_left
  · (intro w hSw; (try dsimp only at hSw); go_simp; (try with_reducible rfl))
  try simp only [Act.put, List.setIfInBounds_toArray, List.set_cons_zero, List.set_cons_succ]
  refine seq_take _ ?_ rfl (Or.inl ⟨by rfl, ?_⟩) ?_
  rotate_left
  · (intro w hSw; (try dsimp only at hSw); go_simp; (try with_reducible rfl))
  try simp only [Act.put, List.setIfInBounds_toArray, List.set_cons_zero, List.set_cons_succ]
  refine seq_take _ ?_ rfl (Or.inl ⟨by rfl, ?_⟩) ?_
  rotate_left
  · (intro w hSw; (try dsimp only at hSw); go_simp; (try with_reducible rfl))
  try simp only [Act.put, List.setIfInBounds_toArray, List.set_cons_zero, List.set_cons_succ]
  refine seq_take _ ?_ rfl (Or.inl ⟨by rfl, ?_⟩) ?_
  rotate_left
  · (intro w hSw; (try dsimp only at hSw); go_simp; (try with_reducible rfl))
  try simp only [Act.put, List.setIfInBounds_toArray, List.set_cons_zero, List.set_cons_succ]
  refine seq_take _ ?_ rfl (Or.inl ⟨by rfl, ?_⟩) ?_
  rotate_left
  · (intro w hSw; (try dsimp only at hSw); go_simp; (try with_reducible rfl))
  try simp only [Act.put, List.setIfInBounds_toArray, List.set_cons_zero, List.set_cons_succ]
  as_aux_lemma =>
    refine seq_take _ ?_ rfl (Or.inl ⟨by rfl, ?_⟩) ?_
    rotate_left
    · (intro w hSw; (try dsimp only at hSw); go_simp; (try with_reducible rfl))
    try simp only [Act.put, List.setIfInBounds_toArray, List.set_cons_zero, List.set_cons_succ]
    refine seq_take _ ?_ rfl (Or.inl ⟨by rfl, ?_⟩) ?_
    rotate_left
    · (intro w hSw; (try dsimp only at hSw); go_simp; (try with_reducible rfl))
    try simp only [Act.put, List.setIfInBounds_toArray, List.set_cons_zero, List.set_cons_succ]
    refine seq_take _ ?_ rfl (Or.inl ⟨by rfl, ?_⟩) ?_
    rotate_left
    · (intro w hSw; (try dsimp only at hSw); go_simp; (try with_reducible rfl))
    try simp only [Act.put, List.setIfInBounds_toArray, List.set_cons_zero, List.set_cons_succ]
    refine seq_one _ rfl fun K hK => ?_
    go_simp
    (with_reducible refine (msub_r p a b _ hp0 hp hal hbl).mono ?_)
    rintro e vM3 ⟨s1, rfl, Hs1, ls1, bM3⟩
    have DM3 : Below W.heap.size W vM3 := Below.trans DM2 (bM3.mono (Below.size DM2))
    go_wp2_with fail
    refine hK.out _ _ (HS.out _ DM3) (fun hHeld => ?_)
    clear hK K hHeld
    try simp only [Act.put, List.setIfInBounds_toArray, List.set_cons_zero, List.set_cons_succ]
    refine seq_one _ rfl fun K hK => ?_
    go_simp
    (with_reducible refine (qsub_v p a b s1 _ hp0 hp hal hbl Hs1).mono ?_)
    rintro e vM4 ⟨rfl, bM4⟩
    have DM4 : Below W.heap.size W vM4 := Below.trans DM3 (bM4.mono (Below.size DM3))
    go_wp2_with fail
    refine hK.out _ _ (HS.out _ DM4) (fun hHeld => ?_)
    clear hK K hHeld
    try simp only [Act.put, List.setIfInBounds_toArray, List.set_cons_zero, List.set_cons_succ]
    refine seq_take _ ?_ rfl (Or.inl ⟨by rfl, ?_⟩) ?_
    rotate_left
    · (intro w hSw; (try dsimp only at hSw); go_simp; (try with_reducible rfl))
    try simp only [Act.put, List.setIfInBounds_toArray, List.set_cons_zero, List.set_cons_succ]
    refine seq_take _ ?_ rfl (Or.inl ⟨by rfl, ?_⟩) ?_
    rotate_left
    · (intro w hSw; (try dsimp only at hSw); go_simp; (try with_reducible rfl))
    try simp only [Act.put, List.setIfInBounds_toArray, List.set_cons_zero, List.set_cons_succ]
    refine seq_take _ ?_ rfl (Or.inl ⟨by rfl, ?_⟩) ?_
    rotate_left
    · (intro w hSw; (try dsimp only at hSw); go_simp; (try with_reducible rfl))
    try simp only [Act.put, List.setIfInBounds_toArray, List.set_cons_zero, List.set_cons_succ]
    refine seq_take _ ?_ rfl (Or.inl ⟨by rfl, ?_⟩) ?_
    rotate_left
    · (intro w hSw; (try dsimp only at hSw); go_simp; (try with_reducible rfl))
    try simp only [Act.put, List.setIfInBounds_toArray, List.set_cons_zero, List.set_cons_succ]
    refine seq_take _ ?_ rfl (Or.inl ⟨by rfl, ?_⟩) ?_
    rotate_left
    · (intro w hSw; (try dsimp only at hSw); go_simp; (try with_reducible rfl))
    try simp only [Act.put, List.setIfInBounds_toArray, List.set_cons_zero, List.set_cons_succ]
    refine seq_take _ ?_ rfl (Or.inl ⟨by rfl, ?_⟩) ?_
    rotate_left
    · (intro w hSw; (try dsimp only at hSw); go_simp; (try with_reducible rfl))
    try simp only [Act.put, List.setIfInBounds_toArray, List.set_cons_zero, List.set_cons_succ]
    refine seq_take _ ?_ rfl (Or.inl ⟨by rfl, ?_⟩) ?_
    rotate_left
    · (intro w hSw; (try dsimp only at hSw); go_simp; (try with_reducible rfl))
    try simp only [Act.put, List.setIfInBounds_toArray, List.set_cons_zero, List.set_cons_succ]
    refine seq_take _ ?_ rfl (Or.inl ⟨by rfl, ?_⟩) ?_
    rotate_left
    · (intro w hSw; (try dsimp only at hSw); go_simp; (try with_reducible rfl))
    try simp only [Act.put, List.setIfInBounds_toArray, List.set_cons_zero, List.set_cons_succ]
    refine seq_take _ ?_ rfl (Or.inl ⟨by rfl, ?_⟩) ?_
    rotate_left
    · (intro w hSw; (try dsimp only at hSw); go_simp; (try with_reducible rfl))
    try simp only [Act.put, List.setIfInBounds_toArray, List.set_cons_zero, List.set_cons_succ]
    refine seq_one _ rfl fun K hK => ?_
    go_simp
    (with_reducible refine (mmul_r p a b _ hp0 hp hal hbl).mono ?_)
    rintro e vM5 ⟨m1, rfl, Hm1, lm1, bM5⟩
    have DM5 : Below W.heap.size W vM5 := Below.trans DM4 (bM5.mono (Below.size DM4))
    go_wp2_with fail
    refine hK.out _ _ (HS.out _ DM5) (fun hHeld => ?_)
    clear hK K hHeld
    try simp only [Act.put, List.setIfInBounds_toArray, List.set_cons_zero, List.set_cons_succ]
    refine seq_one _ rfl fun K hK => ?_
    go_simp
    (with_reducible refine (qmul_v p a b m1 _ hp0 hp hal hbl Hm1).mono ?_)
    rintro e vM6 ⟨rfl, bM6⟩
    have DM6 : Below W.heap.size W vM6 := Below.trans DM5 (bM6.mono (Below.size DM5))
    go_wp2_with fail
    refine hK.out _ _ (HS.out _ DM6) (fun hHeld => ?_)
    clear hK K hHeld
    try simp only [Act.put, List.setIfInBounds_toArray, List.set_cons_zero, List.set_cons_succ]
    refine seq_take _ ?_ rfl (Or.inl ⟨by rfl, ?_⟩) ?_
    rotate_left
    · (intro w hSw; (try dsimp only at hSw); go_simp; (try with_reducible rfl))
    try simp only [Act.put, List.setIfInBounds_toArray, List.set_cons_zero, List.set_cons_succ]
    as_aux_lemma =>
      refine seq_take _ ?_ rfl (Or.inl ⟨by rfl, ?_⟩) ?_
      rotate_left
      · (intro w hSw; (try dsimp only at hSw); go_simp; (try with_reducible rfl))
      try simp only [Act.put, List.setIfInBounds_toArray, List.set_cons_zero, List.set_cons_succ]
      refine seq_take _ ?_ rfl (Or.inl ⟨by rfl, ?_⟩) ?_
      rotate_left
      · (intro w hSw; (try dsimp only at hSw); go_simp; (try with_reducible rfl))
      try simp only [Act.put, List.setIfInBounds_toArray, List.set_cons_zero, List.set_cons_succ]
      refine seq_take _ ?_ rfl (Or.inl ⟨by rfl, ?_⟩) ?_
      rotate_left
      · (intro w hSw; (try dsimp only at hSw); go_simp; (try with_reducible rfl))
      try simp only [Act.put, List.setIfInBounds_toArray, List.set_cons_zero, List.set_cons_succ]
      refine seq_take _ ?_ rfl (Or.inl ⟨by rfl, ?_⟩) ?_
      rotate_left
      · (intro w hSw; (try dsimp only at hSw); go_simp; (try with_reducible rfl))
      try simp only [Act.put, List.setIfInBounds_toArray, List.set_cons_zero, List.set_cons_succ]
      refine seq_take _ ?_ rfl (Or.inl ⟨by rfl, ?_⟩) ?_
      rotate_left
      · (intro w hSw; (try dsimp only at hSw); go_simp; (try with_reducible rfl))
      try simp only [Act.put, List.setIfInBounds_toArray, List.set_cons_zero, List.set_cons_succ]
      refine seq_take _ ?_ rfl (Or.inl ⟨by rfl, ?_⟩) ?_
      rotate_left
      · (intro w hSw; (try dsimp only at hSw); go_simp; (try with_reducible rfl))
      try simp only [Act.put, List.setIfInBounds_toArray, List.set_cons_zero, List.set_cons_succ]
      refine seq_take _ ?_ rfl (Or.inl ⟨by rfl, ?_⟩) ?_
      rotate_left
      · (intro w hSw; (try dsimp only at hSw); go_simp; (try with_reducible rfl))
      try simp only [Act.put, List.setIfInBounds_toArray, List.set_cons_zero, List.set_cons_succ]
      refine seq_take _ ?_ rfl (Or.inl ⟨by rfl, ?_⟩) ?_
      rotate_left
      · (intro w hSw; (try dsimp only at hSw); go_simp; (try with_reducible rfl))
      try simp only [Act.put, List.setIfInBounds_toArray, List.set_cons_zero, List.set_cons_succ]
      refine seq_take _ ?_ rfl (Or.inl ⟨by rfl, ?_⟩) ?_
      rotate_left
      · (intro w hSw; (try dsimp only at hSw); go_simp; (try with_reducible rfl))
      try simp only [Act.put, List.setIfInBounds_toArray, List.set_cons_zero, List.set_cons_succ]
      refine seq_take _ ?_ rfl (Or.inl ⟨by rfl, ?_⟩) ?_
      rotate_left
      · (intro w hSw; (try dsimp only at hSw); go_simp; (try with_reducible rfl))
      try simp only [Act.put, List.setIfInBounds_toArray, List.set_cons_zero, List.set_cons_succ]
      refine seq_one _ rfl fun K hK => ?_
      go_simp
      (with_reducible refine (mpow_r p a x2 _ hp0 hp hal hx2).mono ?_)
      rintro e vM7 ⟨o1, rfl, Ho1, lo1, bM7⟩
      have DM7 : Below W.heap.size W vM7 := Below.trans DM6 (bM7.mono (Below.size DM6))
      go_wp2_with fail
      refine hK.out _ _ (HS.out _ DM7) (fun hHeld => ?_)
      clear hK K hHeld
      try simp only [Act.put, List.setIfInBounds_toArray, List.set_cons_zero, List.set_cons_succ]
      refine seq_one _ rfl fun K hK => ?_
      go_simp
      (with_reducible refine (qpow_v p a x2 o1 _ hp0 hp hal hx2 Ho1).mono ?_)
      rintro e vM8 ⟨rfl, bM8⟩
      have DM8 : Below W.heap.size W vM8 := Below.trans DM7 (bM8.mono (Below.size DM7))
      go_wp2_with fail
      refine hK.out _ _ (HS.out _ DM8) (fun hHeld => ?_)
      clear hK K hHeld
      try simp only [Act.put, List.setIfInBounds_toArray, List.set_cons_zero, List.set_cons_succ]
      refine seq_take _ ?_ rfl (Or.inl ⟨by rfl, ?_⟩) ?_
      rotate_left
      · (intro w hSw; (try dsimp only at hSw); go_simp; (try with_reducible rfl))
      try simp only [Act.put, List.setIfInBounds_toArray, List.set_cons_zero, List.set_cons_succ]
      refine seq_take _ ?_ rfl (Or.inl ⟨by rfl, ?_⟩) ?_
      rotate_left
      · (intro w hSw; (try dsimp only at hSw); go_simp; (try with_reducible rfl))
      try simp only [Act.put, List.setIfInBounds_toArray, List.set_cons_zero, List.set_cons_succ]
      refine seq_take _ ?_ rfl (Or.inl ⟨by rfl, ?_⟩) ?_
      rotate_left
      · (intro w hSw; (try dsimp only at hSw); go_simp; (try with_reducible rfl))
      try simp only [Act.put, List.setIfInBounds_toArray, List.set_cons_zero, List.set_cons_succ]
      refine seq_take _ ?_ rfl (Or.inl ⟨by rfl, ?_⟩) ?_
      rotate_left
      · (intro w hSw; (try dsimp only at hSw); go_simp; (try with_reducible rfl))
      try simp only [Act.put, List.setIfInBounds_toArray, List.set_cons_zero, List.set_cons_succ]
      refine seq_take _ ?_ rfl (Or.inl ⟨by rfl, ?_⟩) ?_
      rotate_left
      · (intro w hSw; (try dsimp only at hSw); go_simp; (try with_reducible rfl))
      try simp only [Act.put, List.setIfInBounds_toArray, List.set_cons_zero, List.set_cons_succ]
      as_aux_lemma =>
        refine seq_take _ ?_ rfl (Or.inl ⟨by rfl, ?_⟩) ?_
        rotate_left
        · (intro w hSw; (try dsimp only at hSw); go_simp; (try with_reducible rfl))
        try simp only [Act.put, List.setIfInBounds_toArray, List.set_cons_zero, List.set_cons_succ]
        refine seq_take _ ?_ rfl (Or.inl ⟨by rfl, ?_⟩) ?_
        rotate_left
        · (intro w hSw; (try dsimp only at hSw); go_simp; (try with_reducible rfl))
        try simp only [Act.put, List.setIfInBounds_toArray, List.set_cons_zero, List.set_cons_succ]
        refine seq_take _ ?_ rfl (Or.inl ⟨by rfl, ?_⟩) ?_
        rotate_left
        · (intro w hSw; (try dsimp only at hSw); go_simp; (try with_reducible rfl))
        try simp only [Act.put, List.setIfInBounds_toArray, List.set_cons_zero, List.set_cons_succ]
        refine seq_take _ ?_ rfl (Or.inl ⟨by rfl, ?_⟩) ?_
        rotate_left
        · (intro w hSw; (try dsimp only at hSw); go_simp; (try with_reducible rfl))
        try simp only [Act.put, List.setIfInBounds_toArray, List.set_cons_zero, List.set_cons_succ]
        refine seq_take _ ?_ rfl (Or.inl ⟨by rfl, ?_⟩) ?_
        rotate_left
        · (intro w hSw; (try dsimp only at hSw); go_simp; (try with_reducible rfl))
        try simp only [Act.put, List.setIfInBounds_toArray, List.set_cons_zero, List.set_cons_succ]
        refine seq_take _ ?_ rfl (Or.inl ⟨by rfl, ?_⟩) ?_
        rotate_left
        · (intro w hSw; (try dsimp only at hSw); go_simp; (try with_reducible rfl))
        try simp only [Act.put, List.setIfInBounds_toArray, List.set_cons_zero, List.set_cons_succ]
        refine seq_take _ ?_ rfl (Or.inl ⟨by rfl, ?_⟩) ?_
        rotate_left
        · (intro w hSw; (try dsimp only at hSw); go_simp; (try with_reducible rfl))
        try simp only [Act.put, List.setIfInBounds_toArray, List.set_cons_zero, List.set_cons_succ]
        refine seq_take _ ?_ rfl (Or.inl ⟨by rfl, ?_⟩) ?_
        rotate_left
        · (intro w hSw; (try dsimp only at hSw); go_simp; (try with_reducible rfl))
        try simp only [Act.put, List.setIfInBounds_toArray, List.set_cons_zero, List.set_cons_succ]
        refine seq_take _ ?_ rfl (Or.inl ⟨by rfl, ?_⟩) ?_
        rotate_left
        · (intro w hSw; (try dsimp only at hSw); go_simp; (try with_reducible rfl))
        try simp only [Act.put, List.setIfInBounds_toArray, List.set_cons_zero, List.set_cons_succ]
        refine seq_take _ ?_ rfl (Or.inl ⟨by rfl, ?_⟩) ?_
        rotate_left
        · (intro w hSw; (try dsimp only at hSw); go_simp; (try with_reducible rfl))
        try simp only [Act.put, List.setIfInBounds_toArray, List.set_cons_zero, List.set_cons_succ]
        refine seq_take _ ?_ rfl (Or.inl ⟨by rfl, ?_⟩) ?_
        rotate_left
        · (intro w hSw; (try dsimp only at hSw); go_simp; (try with_reducible rfl))
        try simp only [Act.put, List.setIfInBounds_toArray, List.set_cons_zero, List.set_cons_succ]
        refine seq_take _ ?_ rfl (Or.inl ⟨by rfl, ?_⟩) ?_
        rotate_left
        · (intro w hSw; (try dsimp only at hSw); go_simp; (try with_reducible rfl))
        try simp only [Act.put, List.setIfInBounds_toArray, List.set_cons_zero, List.set_cons_succ]
        refine seq_one _ rfl fun K hK => ?_
        go_simp
        (with_reducible refine (msym_any p a _ hp hal).mono ?_)
        rintro e vM9 ⟨gM9, AM9, nM9, cM9, rfl, iM9, bM9⟩
        have DM9 : Below W.heap.size W vM9 := Below.trans DM8 (bM9.mono (Below.size DM8))
        go_wp2_with fail
        refine hK.out _ _ (HS.out _ DM9) (fun hHeld => ?_)
        clear hK K hHeld
        try simp only [Act.put, List.setIfInBounds_toArray, List.set_cons_zero, List.set_cons_succ]
        refine seq_one _ rfl fun K hK => ?_
        go_simp
        (with_reducible refine (qsym_any p a _ hp hal).mono ?_)
        rintro e vM10 ⟨gM10, AM10, nM10, cM10, rfl, iM10, bM10⟩
        have DM10 : Below W.heap.size W vM10 := Below.trans DM9 (bM10.mono (Below.size DM9))
        go_wp2_with fail
        refine hK.out _ _ (HS.out _ DM10) (fun hHeld => ?_)
        clear hK K hHeld
        try simp only [Act.put, List.setIfInBounds_toArray, List.set_cons_zero, List.set_cons_succ]
        refine seq_one _ rfl fun K hK => ?_
        go_simp
        (with_reducible refine (same_z _ _ _ _ _ _ _ _ _ (iM9.below bM10) iM10 rfl).mono ?_)
        rintro e vM11 ⟨rfl, bM11⟩
        have DM11 : Below W.heap.size W vM11 := Below.trans DM10 (bM11.mono (Below.size DM10))
        go_wp2_with fail
        refine hK.out _ _ (HS.out _ DM11) (fun hHeld => ?_)
        clear hK K hHeld
        try simp only [Act.put, List.setIfInBounds_toArray, List.set_cons_zero, List.set_cons_succ]
        refine seq_take _ ?_ rfl (Or.inl ⟨by rfl, ?_⟩) ?_
        rotate_left
        · (intro w hSw; (try dsimp only at hSw); go_simp; (try with_reducible rfl))
        try simp only [Act.put, List.setIfInBounds_toArray, List.set_cons_zero, List.set_cons_succ]
        refine seq_take _ ?_ rfl (Or.inl ⟨by rfl, ?_⟩) ?_
        rotate_left
        · (intro w hSw; (try dsimp only at hSw); go_simp; (try with_reducible rfl))
        try simp only [Act.put, List.setIfInBounds_toArray, List.set_cons_zero, List.set_cons_succ]
        refine NoPanic.normal ?_
        exact hK _ _ _ _ _ _ _ _ _ _ _ _ _ _ _ _ _ _ _ _ _ _ _ _ _ _ _ _ _ _ _ _ _ _ _ _ _ _ _ _ _ _ _ _ _ _ _ _ _ _ _ _ _ _ _ _ _ _ _ _ _ _ _ _ _ _ _ DM11
set_option maxRecDepth 100000 in
set_option maxHeartbeats 8000000 in
theorem law_mmatch (HS : SanM) (k x0 x1 x2 : Nat) (hk : k < 256) (_hx0 : x0 < 18446744073709551616) (_hx1 : x1 < 18446744073709551616) (hx2 : x2 < 18446744073709551616) (w : World) (hT : TabW w) (h5 : TabN w.heap.size) :
    Calls Tryd.prog 6 #[.int .u8 (k : Int), .agg #[.int .u64 (x0 : Int), .int .u64 (x1 : Int), .int .u64 (x2 : Int)]] w fun e w' => e = .returned (.bool true) ∧ Below w.heap.size w w' := by
  have HS' := Lib.hid HS
  clear HS
  have TT := Lib.hid hT
  clear hT
  go_enter Tryd.func6, Tryd.ntmps6
  have B0 : Below w.heap.size w (w.alloc (.cells #[.int .u64 (x0 : Int), .int .u64 (x1 : Int), .int .u64 (x2 : Int)] 49)) := (Below.refl _ _).alloc (Nat.le_refl _) _
  have X0 := Arr3.new w (.int .u64 (x0 : Int)) (.int .u64 (x1 : Int)) (.int .u64 (x2 : Int)) 49
  go_wp2_with fail
  refine (HS'.out _ (TT.out.below B0 h5) (h5.le B0.size)).mono ?_
  rintro e w1 ⟨rfl, hb1⟩
  have B1 := B0.trans (hb1.mono B0.size)
  have X1 := X0.after hb1
  go_wp2_with fail
  refine (pmade_r k _ hk).mono ?_
  rintro e w2 ⟨p, rfl, HP, hp, hp2, hb2⟩
  have B2 := B1.trans (hb2.mono B1.size)
  have X2 := X1.after hb2
  have ⟨c0, c1, _, _⟩ := X2
  have hp0 : 0 < p := by omega
  have hpb : ((p : Int) == 0) = false := by simp; omega
  obtain ⟨a, ha⟩ : ∃ a, a = x0 % p := ⟨_, rfl⟩
  have hal : a < p := by rw [ha]; exact Nat.mod_lt _ hp0
  have ea : (x0 : Int) % (p : Int) = (a : Int) := by rw [ha, Int.natCast_emod]
  obtain ⟨b, hb⟩ : ∃ b, b = x1 % p := ⟨_, rfl⟩
  have hbl : b < p := by rw [hb]; exact Nat.mod_lt _ hp0
  have eb : (x1 : Int) % (p : Int) = (b : Int) := by rw [hb, Int.natCast_emod]
  clear ha hb X0 X1 B0
  go_wp2_with fail
  refine (minv_f p a _ HP.out hp hal).mono ?_
  rintro e w3 ⟨d, q, rfl, Hd, Hq, hb3⟩
  have B3 := B2.trans (hb3.mono B2.size)
  have X3 := X2.after hb3
  go_wp2_with fail
  refine (qinv_f p a _ HP.out hp hal).mono ?_
  rintro e w4 ⟨d', q', rfl, Hd', Hq', hb4⟩
  have B4 := B3.trans (hb4.mono B3.size)
  have X4 := X3.after hb4
  obtain rfl : d = d' := by rw [Hd.out, Hd'.out]
  obtain rfl : q = q' := by rw [Hq.out, Hq'.out]
  go_wp2_with fail
  have ⟨_, _, _, xlt⟩ := X4
  have HX := X4
  go_cut [4] (fun p4 wx => p4 = .bool true ∧ Below w4.heap.size w4 wx)
  case first =>
    refine mmatch_r7 HX hp0 hp hal hbl hx2 ?_
    intros
    go_wp2_with fail
    go_meet
    exact ⟨rfl, by assumption⟩
  case rest =>
  obtain ⟨rfl, DZ⟩ := hcut
  go_wp2_with fail
  go_ret
  exact ⟨rfl, B4.trans (DZ.mono B4.size)⟩
end Go.Proofs.YtnlmdjbakcjhbaaDoor
