/- Two regions of the law IntegerDivides. -/
import Derived.Test.YtdknibhaacbkpaaDoorVLawKit
namespace Go.Proofs.YtdknibhaacbkpaaDoor
open Go.RowKit
set_option maxRecDepth 1000000 in
set_option maxHeartbeats 4000000 in
theorem div_r7 {u0 u1 u2 u3 u4 u5 u6 u10 u11 u12 u13 u14 u15 u16 u17 u18 u19 u20 u21 u22 u23 u24 u25 u26 u27 u28 u29 u30 u31 u32 u33 u34 u35 u36 u37 u38 u39 u40 u41 u42 u43 u44 u45 u46 u47 u48 u49 u50 u51 u52 u53 u54 u55 u56 u57 u58 u59 u60 u61 u62 u63 u64 u65 u66 u67 u68 u69 u70 u71 u72 u73 u74 u75 u76 u77 u78 u79 u80 u81 u82 u83 u84 u85 u86 u87 u88 u89 u90 u91 u92 u93 u94 u95 u96 u97 u98 u99 u100 u101 u102 u103 : Value} {W : World} {K : Act → World → Prop} {Q : Exit → Act → World → Prop} {bb bq br : Nat} {b q r : Int} (Hb : IntAt W bb (b)) (Hq : IntAt W bq (q)) (Hr : IntAt W br (r)) (Zb : Sz 12 (b)) (Zr : Sz 12 (r)) {s : Int} (e1 : Hid (sgn r = s)) (hs0 : 0 ≤ s) (e2 : Hid (cmpN r ((b.natAbs : Nat) : Int) = -1))
    (hK : ∀ (v54 v55 v56 v57 v58 v59 v60 v61 v62 v63 v64 v65 v66 v67 v68 v69 v70 v71 v72 : Value) (w' : World), Below W.heap.size W w' → K ⟨#[u0, u1, u2, u3, u4, u5, u6, .pointer (some ⟨bb, 0, none⟩), .pointer (some ⟨bq, 0, none⟩), .pointer (some ⟨br, 0, none⟩), u10, u11, u12, u13, .bool true, u15, u16, u17, u18, u19, u20, u21, u22, u23, u24, u25, u26, u27, u28, u29, u30, u31, u32, u33, u34, u35, u36, u37, u38, u39, u40, u41, u42, u43, u44, u45, u46, u47, u48, u49, u50, u51, u52, u53, v54, v55, v56, v57, v58, v59, v60, v61, v62, v63, v64, v65, v66, v67, v68, v69, v70, v71, v72, u73, u74, u75, u76, u77, u78, u79, u80, u81, u82, u83, u84, u85, u86, u87, u88, u89, u90, u91, u92, u93, u94, u95, u96, u97, u98, u99, u100, u101, u102, u103], []⟩ w') :
    Code.wp Tryd.prog (regionOf 7 Tryd.f6) (Exit.then K Q) ⟨#[u0, u1, u2, u3, u4, u5, u6, .pointer (some ⟨bb, 0, none⟩), .pointer (some ⟨bq, 0, none⟩), .pointer (some ⟨br, 0, none⟩), u10, u11, u12, u13, u14, u15, u16, u17, u18, u19, u20, u21, u22, u23, u24, u25, u26, u27, u28, u29, u30, u31, u32, u33, u34, u35, u36, u37, u38, u39, u40, u41, u42, u43, u44, u45, u46, u47, u48, u49, u50, u51, u52, u53, u54, u55, u56, u57, u58, u59, u60, u61, u62, u63, u64, u65, u66, u67, u68, u69, u70, u71, u72, u73, u74, u75, u76, u77, u78, u79, u80, u81, u82, u83, u84, u85, u86, u87, u88, u89, u90, u91, u92, u93, u94, u95, u96, u97, u98, u99, u100, u101, u102, u103], []⟩ W := by
  conv => arg 2; whnf
  obtain ⟨gb, Ab, nb, cb, Sb, Ib⟩ := Hb
  obtain ⟨gq, Aq, nq, cq, Sq, Iq⟩ := Hq
  obtain ⟨gr, Ar, nr, cr, Sr, Ir⟩ := Hr
  have Zs2 : Sz 12 (((b.natAbs : Nat) : Int)) := Sz.abs Zb
  have HS : Hid (∀ V, Below W.heap.size W V → V.cell? ⟨bb, 0, none⟩ = some (.bool gb) ∧ V.cell? ⟨bb, 1, none⟩ = some (.slice Ab nb cb) ∧ V.cell? ⟨bq, 0, none⟩ = some (.bool gq) ∧ V.cell? ⟨bq, 1, none⟩ = some (.slice Aq nq cq) ∧ V.cell? ⟨br, 0, none⟩ = some (.bool gr) ∧ V.cell? ⟨br, 1, none⟩ = some (.slice Ar nr cr)) := fun V hW => ⟨(Sb.after hW).1, (Sb.after hW).2.1, (Sq.after hW).1, (Sq.after hW).2.1, (Sr.after hW).1, (Sr.after hW).2.1⟩
  have Ds0 : Below W.heap.size W W.drew := (Below.refl _ _).drew
  refine wp_region_seq (.pre [(0, true), (1, false), (2, true), (3, true), (4, true), (5, true), (6, true), (7, false), (8, false), (9, true), (10, true), (11, true), (12, true), (13, false), (14, true), (15, true), (16, true), (17, false), (18, true), (19, true)] .done) (fun W => W.cell? ⟨bb, 0, none⟩ = some (.bool gb) ∧ W.cell? ⟨bb, 1, none⟩ = some (.slice Ab nb cb) ∧ W.cell? ⟨bq, 0, none⟩ = some (.bool gq) ∧ W.cell? ⟨bq, 1, none⟩ = some (.slice Aq nq cq) ∧ W.cell? ⟨br, 0, none⟩ = some (.bool gr) ∧ W.cell? ⟨br, 1, none⟩ = some (.slice Ar nr cr)) (by kernel_rfl) (by kernel_rfl) ?_ (by kernel_rfl) (HS.out _ Ds0) ?_
  · refine chk_pre _ _ _ (by as_aux_lemma => kernel_rfl) ?_
    exact (by as_aux_lemma => kernel_rfl)
  refine seq_take _ ?_ rfl (Or.inl ⟨by rfl, ?_⟩) ?_
  rotate_left
  · (intro w hSw; (try dsimp only at hSw); go_simp; (try with_reducible rfl))
  try simp only [Act.put, List.setIfInBounds_toArray, List.set_cons_zero, List.set_cons_succ]
  refine seq_one _ rfl fun K hK => ?_
  go_simp
  (with_reducible refine (rsign_z gr Ar nr cr _ (s) (Ir.below Ds0) e1.out).mono ?_)
  rintro e vs1 ⟨rfl, bs1⟩
  have Ds1 : Below W.heap.size W vs1 := Below.trans Ds0 (bs1.mono (Below.size Ds0))
  go_wp2_with fail
  refine hK.out _ _ (HS.out _ Ds1) (fun hHeld => ?_)
  clear hK K hHeld
  try simp only [Act.put, List.setIfInBounds_toArray, List.set_cons_zero, List.set_cons_succ]
  refine seq_take _ ?_ rfl (Or.inl ⟨by rfl, ?_⟩) ?_
  rotate_left
  · (intro w hSw; (try dsimp only at hSw); go_simp; (try with_reducible rfl))
  try simp only [Act.put, List.setIfInBounds_toArray, List.set_cons_zero, List.set_cons_succ]
  refine seq_take _ ?_ rfl (Or.inl ⟨by rfl, ?_⟩) ?_
  rotate_left
  · (intro w hSw; (try dsimp only at hSw); go_simp; (try with_reducible rfl))
  try simp only [Act.put, List.setIfInBounds_toArray, List.set_cons_zero, List.set_cons_succ]
  refine seq_take _ ?_ rfl (Or.inl ⟨by rfl, ?_⟩) ?_
  rotate_left
  · (intro w hSw; (try dsimp only at hSw); go_simp; (try with_reducible rfl))
  try simp only [Act.put, List.setIfInBounds_toArray, List.set_cons_zero, List.set_cons_succ]
  refine seq_take _ ?_ rfl (Or.inl ⟨by rfl, ?_⟩) ?_
  rotate_left
  · (intro w hSw; (try dsimp only at hSw); go_simp; (try with_reducible rfl))
  try simp only [Act.put, List.setIfInBounds_toArray, List.set_cons_zero, List.set_cons_succ]
  refine seq_take _ ?_ rfl (Or.inl ⟨by rfl, ?_⟩) ?_
  rotate_left
  · (intro w hSw; (try dsimp only at hSw); go_simp; (try with_reducible rfl))
  try simp only [Act.put, List.setIfInBounds_toArray, List.set_cons_zero, List.set_cons_succ]
  refine seq_one _ rfl fun K hK => ?_
  go_simp
  (with_reducible refine (rmadeAbs_z gb Ab nb cb _ (Ib.below Ds1) Zb).mono ?_)
  rintro e vs2 ⟨gs2, As2, ns2, cs2, rfl, is2, bs2⟩
  have Ds2 : Below W.heap.size W vs2 := Below.trans Ds1 (bs2.mono (Below.size Ds1))
  go_wp2_with fail
  refine hK.out _ _ (HS.out _ Ds2) (fun hHeld => ?_)
  clear hK K hHeld
  try simp only [Act.put, List.setIfInBounds_toArray, List.set_cons_zero, List.set_cons_succ]
  refine seq_one _ rfl fun K hK => ?_
  go_simp
  (with_reducible refine (rcmp_z gr gs2 Ar As2 nr cr ns2 cs2 _ (-1) (Ir.below Ds2) is2 Zr Zs2 e2.out).mono ?_)
  rintro e vs3 ⟨rfl, bs3⟩
  have Ds3 : Below W.heap.size W vs3 := Below.trans Ds2 (bs3.mono (Below.size Ds2))
  go_wp2_with fail
  refine hK.out _ _ (HS.out _ Ds3) (fun hHeld => ?_)
  clear hK K hHeld
  try simp only [Act.put, List.setIfInBounds_toArray, List.set_cons_zero, List.set_cons_succ]
  refine seq_take _ ?_ rfl (Or.inl ⟨by rfl, ?_⟩) ?_
  rotate_left
  · (intro w hSw; (try dsimp only at hSw); go_simp; (try with_reducible rfl))
  try simp only [Act.put, List.setIfInBounds_toArray, List.set_cons_zero, List.set_cons_succ]
  refine seq_take _ ?_ rfl (Or.inl ⟨by rfl, ?_⟩) ?_
  rotate_left
  · (intro w hSw; (try dsimp only at hSw); go_simp; (try with_reducible rfl))
  try simp only [Act.put, List.setIfInBounds_toArray, List.set_cons_zero, List.set_cons_succ]
  refine seq_take _ ?_ rfl (Or.inl ⟨by rfl, ?_⟩) ?_
  rotate_left
  · (intro w hSw; (try dsimp only at hSw); go_simp; (try with_reducible rfl))
  try simp only [Act.put, List.setIfInBounds_toArray, List.set_cons_zero, List.set_cons_succ]
  refine seq_take _ ?_ rfl (Or.inl ⟨by rfl, ?_⟩) ?_
  rotate_left
  · (intro w hSw; (try dsimp only at hSw); go_simp; (try with_reducible rfl))
  try simp only [Act.put, List.setIfInBounds_toArray, List.set_cons_zero, List.set_cons_succ]
  refine seq_one _ rfl fun K hK => ?_
  go_simp
  (with_reducible refine (rvalid_z gq Aq nq cq _ (Iq.below Ds3)).mono ?_)
  rintro e vs4 ⟨rfl, bs4⟩
  have Ds4 : Below W.heap.size W vs4 := Below.trans Ds3 (bs4.mono (Below.size Ds3))
  go_wp2_with fail
  refine hK.out _ _ (HS.out _ Ds4) (fun hHeld => ?_)
  clear hK K hHeld
  try simp only [Act.put, List.setIfInBounds_toArray, List.set_cons_zero, List.set_cons_succ]
  refine seq_take _ ?_ rfl (Or.inl ⟨by rfl, ?_⟩) ?_
  rotate_left
  · (intro w hSw; (try dsimp only at hSw); go_simp; (try with_reducible rfl))
  try simp only [Act.put, List.setIfInBounds_toArray, List.set_cons_zero, List.set_cons_succ]
  refine seq_take _ ?_ rfl (Or.inl ⟨by rfl, ?_⟩) ?_
  rotate_left
  · (intro w hSw; (try dsimp only at hSw); go_simp; (try with_reducible rfl))
  try simp only [Act.put, List.setIfInBounds_toArray, List.set_cons_zero, List.set_cons_succ]
  as_aux_lemma =>
    refine seq_take _ ?_ rfl (Or.inl ⟨by rfl, ?_⟩) ?_
    rotate_left
    · (intro w hSw; (try dsimp only at hSw); go_simp; (try with_reducible rfl))
    try simp only [Act.put, List.setIfInBounds_toArray, List.set_cons_zero, List.set_cons_succ]
    refine seq_one _ rfl fun K hK => ?_
    go_simp
    (with_reducible refine (rvalid_z gr Ar nr cr _ (Ir.below Ds4)).mono ?_)
    rintro e vs5 ⟨rfl, bs5⟩
    have Ds5 : Below W.heap.size W vs5 := Below.trans Ds4 (bs5.mono (Below.size Ds4))
    go_wp2_with fail
    refine hK.out _ _ (HS.out _ Ds5) (fun hHeld => ?_)
    clear hK K hHeld
    try simp only [Act.put, List.setIfInBounds_toArray, List.set_cons_zero, List.set_cons_succ]
    refine seq_take _ ?_ rfl (Or.inl ⟨by rfl, ?_⟩) ?_
    rotate_left
    · (intro w hSw; (try dsimp only at hSw); go_simp; (try with_reducible rfl))
    try simp only [Act.put, List.setIfInBounds_toArray, List.set_cons_zero, List.set_cons_succ]
    refine seq_take _ ?_ rfl (Or.inl ⟨by rfl, ?_⟩) ?_
    rotate_left
    · (intro w hSw; (try dsimp only at hSw); go_simp; (try with_reducible rfl))
    try simp only [Act.put, List.setIfInBounds_toArray, List.set_cons_zero, List.set_cons_succ]
    refine NoPanic.normal ?_
    exact hK _ _ _ _ _ _ _ _ _ _ _ _ _ _ _ _ _ _ _ _ Ds5
set_option maxRecDepth 1000000 in
set_option maxHeartbeats 4000000 in
theorem div_r8 {u0 u1 u2 u3 u4 u15 u16 u17 u18 u19 u20 u21 u22 u23 u24 u25 u26 u27 u28 u29 u30 u31 u32 u33 u34 u35 u36 u37 u38 u39 u40 u41 u42 u43 u44 u45 u46 u47 u48 u49 u50 u51 u52 u53 u54 u55 u56 u57 u58 u59 u60 u61 u62 u63 u64 u65 u66 u67 u68 u69 u70 u71 u72 u73 u74 u75 u76 u77 u78 u79 u80 u81 u82 u83 u84 u85 u86 u87 u88 u89 u90 u91 u92 u93 u94 u95 u96 u97 u98 u99 u100 u101 u102 u103 : Value} {W : World} {K : Act → World → Prop} {Q : Exit → Act → World → Prop} {ba bb bq br bp bt : Nat} {a b q r p t : Int} (Ha : IntAt W ba (a)) (Hb : IntAt W bb (b)) (Hq : IntAt W bq (q)) (Hr : IntAt W br (r)) (Hp : IntAt W bp (p)) (Ht : IntAt W bt (t)) (Zb : Sz 12 (b)) (Zq : Sz 13 (q)) (Zr : Sz 12 (r)) (e1 : Hid (q * b + r = a)) (e2 : Hid (p = a)) (e3 : Hid (sgn t = 0))
    (hK : ∀ (v73 v74 v75 v76 v77 v78 v79 v80 v81 v82 v83 v84 v85 v86 v87 v88 v89 v90 v91 v92 v93 v94 v95 v96 v97 v98 v99 v100 v101 v102 v103 : Value) (w' : World), Below W.heap.size W w' → K ⟨#[u0, u1, u2, u3, .bool true, .bool true, .pointer (some ⟨ba, 0, none⟩), .pointer (some ⟨bb, 0, none⟩), .pointer (some ⟨bq, 0, none⟩), .pointer (some ⟨br, 0, none⟩), .int .i64 0, .pointer (some ⟨bp, 0, none⟩), .pointer (some ⟨bt, 0, none⟩), .int .i64 0, .bool true, u15, u16, u17, u18, u19, u20, u21, u22, u23, u24, u25, u26, u27, u28, u29, u30, u31, u32, u33, u34, u35, u36, u37, u38, u39, u40, u41, u42, u43, u44, u45, u46, u47, u48, u49, u50, u51, u52, u53, u54, u55, u56, u57, u58, u59, u60, u61, u62, u63, u64, u65, u66, u67, u68, u69, u70, u71, u72, v73, v74, v75, v76, v77, v78, v79, v80, v81, v82, v83, v84, v85, v86, v87, v88, v89, v90, v91, v92, v93, v94, v95, v96, v97, v98, v99, v100, v101, v102, v103], []⟩ w') :
    Code.wp Tryd.prog (regionOf 8 Tryd.f6) (Exit.then K Q) ⟨#[u0, u1, u2, u3, u4, .bool true, .pointer (some ⟨ba, 0, none⟩), .pointer (some ⟨bb, 0, none⟩), .pointer (some ⟨bq, 0, none⟩), .pointer (some ⟨br, 0, none⟩), .int .i64 0, .pointer (some ⟨bp, 0, none⟩), .pointer (some ⟨bt, 0, none⟩), .int .i64 0, .bool true, u15, u16, u17, u18, u19, u20, u21, u22, u23, u24, u25, u26, u27, u28, u29, u30, u31, u32, u33, u34, u35, u36, u37, u38, u39, u40, u41, u42, u43, u44, u45, u46, u47, u48, u49, u50, u51, u52, u53, u54, u55, u56, u57, u58, u59, u60, u61, u62, u63, u64, u65, u66, u67, u68, u69, u70, u71, u72, u73, u74, u75, u76, u77, u78, u79, u80, u81, u82, u83, u84, u85, u86, u87, u88, u89, u90, u91, u92, u93, u94, u95, u96, u97, u98, u99, u100, u101, u102, u103], []⟩ W := by
  conv => arg 2; whnf
  obtain ⟨ga, Aa, na, ca, Sa, Ia⟩ := Ha
  obtain ⟨gb, Ab, nb, cb, Sb, Ib⟩ := Hb
  obtain ⟨gq, Aq, nq, cq, Sq, Iq⟩ := Hq
  obtain ⟨gr, Ar, nr, cr, Sr, Ir⟩ := Hr
  obtain ⟨gp, Ap, np, cp, Sp, Ip⟩ := Hp
  obtain ⟨gt, At, nt, ct, St, It⟩ := Ht
  have Zt1 : Sz 25 (q * b) := Sz.mul Zq Zb (by decide)
  have Zt2 : Sz 26 ((q * b) + r) := Sz.add Zt1 (Sz.mono Zr (by decide) (by decide)) (by decide)
  have HS : Hid (∀ V, Below W.heap.size W V → V.cell? ⟨ba, 0, none⟩ = some (.bool ga) ∧ V.cell? ⟨ba, 1, none⟩ = some (.slice Aa na ca) ∧ V.cell? ⟨bb, 0, none⟩ = some (.bool gb) ∧ V.cell? ⟨bb, 1, none⟩ = some (.slice Ab nb cb) ∧ V.cell? ⟨bq, 0, none⟩ = some (.bool gq) ∧ V.cell? ⟨bq, 1, none⟩ = some (.slice Aq nq cq) ∧ V.cell? ⟨br, 0, none⟩ = some (.bool gr) ∧ V.cell? ⟨br, 1, none⟩ = some (.slice Ar nr cr) ∧ V.cell? ⟨bp, 0, none⟩ = some (.bool gp) ∧ V.cell? ⟨bp, 1, none⟩ = some (.slice Ap np cp) ∧ V.cell? ⟨bt, 0, none⟩ = some (.bool gt) ∧ V.cell? ⟨bt, 1, none⟩ = some (.slice At nt ct)) := fun V hW => ⟨(Sa.after hW).1, (Sa.after hW).2.1, (Sb.after hW).1, (Sb.after hW).2.1, (Sq.after hW).1, (Sq.after hW).2.1, (Sr.after hW).1, (Sr.after hW).2.1, (Sp.after hW).1, (Sp.after hW).2.1, (St.after hW).1, (St.after hW).2.1⟩
  have Dt0 : Below W.heap.size W W.drew := (Below.refl _ _).drew
  refine wp_region_seq (.pre [(0, true), (1, true), (2, true), (3, true), (4, true), (5, true), (6, true), (7, true), (9, true), (11, true), (8, false), (10, false), (12, false), (13, true), (14, true), (15, true), (16, true), (17, true), (18, true), (19, true), (20, true), (21, false), (22, true), (23, true), (24, true)] (.pre [(25, false), (26, true), (27, true), (28, true), (29, true), (30, true), (31, true)] .done)) (fun W => W.cell? ⟨ba, 0, none⟩ = some (.bool ga) ∧ W.cell? ⟨ba, 1, none⟩ = some (.slice Aa na ca) ∧ W.cell? ⟨bb, 0, none⟩ = some (.bool gb) ∧ W.cell? ⟨bb, 1, none⟩ = some (.slice Ab nb cb) ∧ W.cell? ⟨bq, 0, none⟩ = some (.bool gq) ∧ W.cell? ⟨bq, 1, none⟩ = some (.slice Aq nq cq) ∧ W.cell? ⟨br, 0, none⟩ = some (.bool gr) ∧ W.cell? ⟨br, 1, none⟩ = some (.slice Ar nr cr) ∧ W.cell? ⟨bp, 0, none⟩ = some (.bool gp) ∧ W.cell? ⟨bp, 1, none⟩ = some (.slice Ap np cp) ∧ W.cell? ⟨bt, 0, none⟩ = some (.bool gt) ∧ W.cell? ⟨bt, 1, none⟩ = some (.slice At nt ct)) (by kernel_rfl) (by kernel_rfl) ?_ (by kernel_rfl) (HS.out _ Dt0) ?_
  · refine chk_pre _ _ _ (by as_aux_lemma => kernel_rfl) ?_
    refine chk_pre _ _ _ (by as_aux_lemma => kernel_rfl) ?_
    exact (by as_aux_lemma => kernel_rfl)
  refine seq_take _ ?_ rfl (Or.inl ⟨by rfl, ?_⟩) ?_
  rotate_left
  · (intro w hSw; (try dsimp only at hSw); go_simp; (try with_reducible rfl))
  try simp only [Act.put, List.setIfInBounds_toArray, List.set_cons_zero, List.set_cons_succ]
  refine seq_take _ ?_ rfl (Or.inl ⟨by rfl, ?_⟩) ?_
  rotate_left
  · (intro w hSw; (try dsimp only at hSw); go_simp; (try with_reducible rfl))
  try simp only [Act.put, List.setIfInBounds_toArray, List.set_cons_zero, List.set_cons_succ]
  refine seq_take _ ?_ rfl (Or.inl ⟨by rfl, ?_⟩) ?_
  rotate_left
  · (intro w hSw; (try dsimp only at hSw); go_simp; (try with_reducible rfl))
  try simp only [Act.put, List.setIfInBounds_toArray, List.set_cons_zero, List.set_cons_succ]
  refine seq_take _ ?_ rfl (Or.inl ⟨by rfl, ?_⟩) ?_
  rotate_left
  · (intro w hSw; (try dsimp only at hSw); go_simp; (try with_reducible rfl))
  try simp only [Act.put, List.setIfInBounds_toArray, List.set_cons_zero, List.set_cons_succ]
  refine seq_take _ ?_ rfl (Or.inl ⟨by rfl, ?_⟩) ?_
  rotate_left
  · (intro w hSw; (try dsimp only at hSw); go_simp; (try with_reducible rfl))
  try simp only [Act.put, List.setIfInBounds_toArray, List.set_cons_zero, List.set_cons_succ]
  refine seq_take _ ?_ rfl (Or.inl ⟨by rfl, ?_⟩) ?_
  rotate_left
  · (intro w hSw; (try dsimp only at hSw); go_simp; (try with_reducible rfl))
  try simp only [Act.put, List.setIfInBounds_toArray, List.set_cons_zero, List.set_cons_succ]
  refine seq_take _ ?_ rfl (Or.inl ⟨by rfl, ?_⟩) ?_
  rotate_left
  · (intro w hSw; (try dsimp only at hSw); go_simp; (try with_reducible rfl))
  try simp only [Act.put, List.setIfInBounds_toArray, List.set_cons_zero, List.set_cons_succ]
  refine seq_take _ ?_ rfl (Or.inl ⟨by rfl, ?_⟩) ?_
  rotate_left
  · (intro w hSw; (try dsimp only at hSw); go_simp; (try with_reducible rfl))
  try simp only [Act.put, List.setIfInBounds_toArray, List.set_cons_zero, List.set_cons_succ]
  refine seq_take _ ?_ rfl (Or.inl ⟨by rfl, ?_⟩) ?_
  rotate_left
  · (intro w hSw; (try dsimp only at hSw); go_simp; (try with_reducible rfl))
  try simp only [Act.put, List.setIfInBounds_toArray, List.set_cons_zero, List.set_cons_succ]
  refine seq_take _ ?_ rfl (Or.inl ⟨by rfl, ?_⟩) ?_
  rotate_left
  · (intro w hSw; (try dsimp only at hSw); go_simp; (try with_reducible rfl))
  try simp only [Act.put, List.setIfInBounds_toArray, List.set_cons_zero, List.set_cons_succ]
  refine seq_one _ rfl fun K hK => ?_
  go_simp
  (with_reducible refine (rmul_z gq gb Aq Ab nq cq nb cb _ (Iq.below Dt0) (Ib.below Dt0) Zq Zb).mono ?_)
  rintro e vt1 ⟨gt1, At1, nt1, ct1, rfl, it1, bt1⟩
  have Dt1 : Below W.heap.size W vt1 := Below.trans Dt0 (bt1.mono (Below.size Dt0))
  go_wp2_with fail
  refine hK.out _ _ (HS.out _ Dt1) (fun hHeld => ?_)
  clear hK K hHeld
  try simp only [Act.put, List.setIfInBounds_toArray, List.set_cons_zero, List.set_cons_succ]
  refine seq_one _ rfl fun K hK => ?_
  go_simp
  (with_reducible refine (radd_z gt1 gr At1 Ar nt1 ct1 nr cr _ it1 (Ir.below Dt1) Zt1 Zr).mono ?_)
  rintro e vt2 ⟨gt2, At2, nt2, ct2, rfl, it2, bt2⟩
  have Dt2 : Below W.heap.size W vt2 := Below.trans Dt1 (bt2.mono (Below.size Dt1))
  go_wp2_with fail
  refine hK.out _ _ (HS.out _ Dt2) (fun hHeld => ?_)
  clear hK K hHeld
  try simp only [Act.put, List.setIfInBounds_toArray, List.set_cons_zero, List.set_cons_succ]
  refine seq_one _ rfl fun K hK => ?_
  go_simp
  (with_reducible refine (same_z gt2 ga At2 Aa nt2 ct2 na ca _ it2 (Ia.below Dt2) e1.out).mono ?_)
  rintro e vt3 ⟨rfl, bt3⟩
  have Dt3 : Below W.heap.size W vt3 := Below.trans Dt2 (bt3.mono (Below.size Dt2))
  go_wp2_with fail
  refine hK.out _ _ (HS.out _ Dt3) (fun hHeld => ?_)
  clear hK K hHeld
  try simp only [Act.put, List.setIfInBounds_toArray, List.set_cons_zero, List.set_cons_succ]
  refine seq_take _ ?_ rfl (Or.inl ⟨by rfl, ?_⟩) ?_
  rotate_left
  · (intro w hSw; (try dsimp only at hSw); go_simp; (try with_reducible rfl))
  try simp only [Act.put, List.setIfInBounds_toArray, List.set_cons_zero, List.set_cons_succ]
  refine seq_take _ ?_ rfl (Or.inl ⟨by rfl, ?_⟩) ?_
  rotate_left
  · (intro w hSw; (try dsimp only at hSw); go_simp; (try with_reducible rfl))
  try simp only [Act.put, List.setIfInBounds_toArray, List.set_cons_zero, List.set_cons_succ]
  refine seq_take _ ?_ rfl (Or.inl ⟨by rfl, ?_⟩) ?_
  rotate_left
  · (intro w hSw; (try dsimp only at hSw); go_simp; (try with_reducible rfl))
  try simp only [Act.put, List.setIfInBounds_toArray, List.set_cons_zero, List.set_cons_succ]
  as_aux_lemma =>
    refine seq_take _ ?_ rfl (Or.inl ⟨by rfl, ?_⟩) ?_
    rotate_left
    · (intro w hSw; (try dsimp only at hSw); go_simp; (try with_reducible rfl))
    try simp only [Act.put, List.setIfInBounds_toArray, List.set_cons_zero, List.set_cons_succ]
    refine seq_take _ ?_ rfl (Or.inl ⟨by rfl, ?_⟩) ?_
    rotate_left
    · (intro w hSw; (try dsimp only at hSw); go_simp; (try with_reducible rfl))
    try simp only [Act.put, List.setIfInBounds_toArray, List.set_cons_zero, List.set_cons_succ]
    refine seq_take _ ?_ rfl (Or.inl ⟨by rfl, ?_⟩) ?_
    rotate_left
    · (intro w hSw; (try dsimp only at hSw); go_simp; (try with_reducible rfl))
    try simp only [Act.put, List.setIfInBounds_toArray, List.set_cons_zero, List.set_cons_succ]
    refine seq_take _ ?_ rfl (Or.inl ⟨by rfl, ?_⟩) ?_
    rotate_left
    · (intro w hSw; (try dsimp only at hSw); go_simp; (try with_reducible rfl))
    try simp only [Act.put, List.setIfInBounds_toArray, List.set_cons_zero, List.set_cons_succ]
    refine seq_take _ ?_ rfl (Or.inl ⟨by rfl, ?_⟩) ?_
    rotate_left
    · (intro w hSw; (try dsimp only at hSw); go_simp; (try with_reducible rfl))
    try simp only [Act.put, List.setIfInBounds_toArray, List.set_cons_zero, List.set_cons_succ]
    refine seq_one _ rfl fun K hK => ?_
    go_simp
    (with_reducible refine (same_z gp ga Ap Aa np cp na ca _ (Ip.below Dt3) (Ia.below Dt3) e2.out).mono ?_)
    rintro e vt4 ⟨rfl, bt4⟩
    have Dt4 : Below W.heap.size W vt4 := Below.trans Dt3 (bt4.mono (Below.size Dt3))
    go_wp2_with fail
    refine hK.out _ _ (HS.out _ Dt4) (fun hHeld => ?_)
    clear hK K hHeld
    try simp only [Act.put, List.setIfInBounds_toArray, List.set_cons_zero, List.set_cons_succ]
    refine seq_take _ ?_ rfl (Or.inl ⟨by rfl, ?_⟩) ?_
    rotate_left
    · (intro w hSw; (try dsimp only at hSw); go_simp; (try with_reducible rfl))
    try simp only [Act.put, List.setIfInBounds_toArray, List.set_cons_zero, List.set_cons_succ]
    refine seq_take _ ?_ rfl (Or.inl ⟨by rfl, ?_⟩) ?_
    rotate_left
    · (intro w hSw; (try dsimp only at hSw); go_simp; (try with_reducible rfl))
    try simp only [Act.put, List.setIfInBounds_toArray, List.set_cons_zero, List.set_cons_succ]
    refine seq_take _ ?_ rfl (Or.inl ⟨by rfl, ?_⟩) ?_
    rotate_left
    · (intro w hSw; (try dsimp only at hSw); go_simp; (try with_reducible rfl))
    try simp only [Act.put, List.setIfInBounds_toArray, List.set_cons_zero, List.set_cons_succ]
    refine seq_one _ rfl fun K hK => ?_
    go_simp
    (with_reducible refine (rsign_z gt At nt ct _ (0) (It.below Dt4) e3.out).mono ?_)
    rintro e vt5 ⟨rfl, bt5⟩
    have Dt5 : Below W.heap.size W vt5 := Below.trans Dt4 (bt5.mono (Below.size Dt4))
    go_wp2_with fail
    refine hK.out _ _ (HS.out _ Dt5) (fun hHeld => ?_)
    clear hK K hHeld
    try simp only [Act.put, List.setIfInBounds_toArray, List.set_cons_zero, List.set_cons_succ]
    refine seq_take _ ?_ rfl (Or.inl ⟨by rfl, ?_⟩) ?_
    rotate_left
    · (intro w hSw; (try dsimp only at hSw); go_simp; (try with_reducible rfl))
    try simp only [Act.put, List.setIfInBounds_toArray, List.set_cons_zero, List.set_cons_succ]
    refine seq_take _ ?_ rfl (Or.inl ⟨by rfl, ?_⟩) ?_
    rotate_left
    · (intro w hSw; (try dsimp only at hSw); go_simp; (try with_reducible rfl))
    try simp only [Act.put, List.setIfInBounds_toArray, List.set_cons_zero, List.set_cons_succ]
    refine seq_take _ ?_ rfl (Or.inl ⟨by rfl, ?_⟩) ?_
    rotate_left
    · (intro w hSw; (try dsimp only at hSw); go_simp; (try with_reducible rfl))
    try simp only [Act.put, List.setIfInBounds_toArray, List.set_cons_zero, List.set_cons_succ]
    refine seq_take _ ?_ rfl (Or.inl ⟨by rfl, ?_⟩) ?_
    rotate_left
    · (intro w hSw; (try dsimp only at hSw); go_simp; (try with_reducible rfl))
    try simp only [Act.put, List.setIfInBounds_toArray, List.set_cons_zero, List.set_cons_succ]
    refine seq_take _ ?_ rfl (Or.inl ⟨by rfl, ?_⟩) ?_
    rotate_left
    · (intro w hSw; (try dsimp only at hSw); go_simp; (try with_reducible rfl))
    try simp only [Act.put, List.setIfInBounds_toArray, List.set_cons_zero, List.set_cons_succ]
    refine seq_take _ ?_ rfl (Or.inl ⟨by rfl, ?_⟩) ?_
    rotate_left
    · (intro w hSw; (try dsimp only at hSw); go_simp; (try with_reducible rfl))
    try simp only [Act.put, List.setIfInBounds_toArray, List.set_cons_zero, List.set_cons_succ]
    refine NoPanic.normal ?_
    exact hK _ _ _ _ _ _ _ _ _ _ _ _ _ _ _ _ _ _ _ _ _ _ _ _ _ _ _ _ _ _ _ _ Dt5
end Go.Proofs.YtdknibhaacbkpaaDoor
