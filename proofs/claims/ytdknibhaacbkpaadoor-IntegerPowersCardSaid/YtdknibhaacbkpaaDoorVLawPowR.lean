/- A region of the law IntegerPowers. -/
import Derived.Test.YtdknibhaacbkpaaDoorVLawKit
namespace Go.Proofs.YtdknibhaacbkpaaDoor
open Go.RowKit
theorem Sz.pow {k m : Nat} {z : Int} (h : Sz k z) (hm : m * k + 1 ≤ 300) : Sz 300 (z ^ m) := by
  refine ⟨by decide, ?_⟩
  rw [Int.natAbs_pow]
  have h1 := digs_len_pow z.natAbs m
  have h2 : m * (digs z.natAbs).length ≤ m * k := Nat.mul_le_mul_left _ h.len
  omega
set_option maxRecDepth 1000000 in
set_option maxHeartbeats 4000000 in
theorem pow_r15 {u0 u1 u2 u3 u4 u5 u6 u8 u9 u10 u11 u12 u13 u15 u17 u19 u21 u23 u25 u27 u28 u29 u30 u31 u32 u33 u34 u35 u36 u37 u38 u39 u40 u41 u42 u43 u44 u45 u46 u47 u48 u49 u50 u51 u52 u53 u54 u55 u56 u57 u58 u59 u60 u61 u62 u63 u64 u65 u66 u67 u68 u69 u70 u71 u72 u73 u74 u75 u76 u77 u78 u79 u80 u81 u82 u83 u84 u85 u86 u87 u88 u89 u90 u91 u92 u93 u94 u95 u96 u97 u98 u99 u100 u101 u102 u103 u104 u105 u106 u107 u108 u109 u110 u111 u112 u113 u114 u115 u116 u117 u118 u119 u120 u121 u122 u123 u124 u125 u126 u127 u128 u129 u130 u131 u132 u133 u134 u135 u136 u137 u138 u139 u140 u141 u142 u143 u144 u145 u146 u147 u148 u149 u150 u151 u152 u153 u154 u155 u156 u157 u158 u159 u160 u161 u162 u163 u164 u165 u166 u167 u168 u169 u170 : Value} {W : World} {K : Act → World → Prop} {Q : Exit → Act → World → Prop} {bp bw bq br bs bt : Nat} {zp zw zq zr zs zt : Int} (Hp : IntAt W bp (zp)) (Hw : IntAt W bw (zw)) (Hq : IntAt W bq (zq)) (Hr : IntAt W br (zr)) (Hs : IntAt W bs (zs)) (Ht : IntAt W bt (zt)) (Zp : Sz 300 (zp)) (Zq : Sz 300 (zq)) (Zs : Sz 300 (zs)) (e1 : Hid (zp = zw)) (e2 : Hid (zp * zq = zr)) (e3 : Hid (zp * zs = zt))
    (hK : ∀ (v148 v149 v150 v151 v152 v153 v154 v155 v156 v157 v158 v159 v160 v161 v162 v163 v164 v165 v166 v167 v168 v169 v170 : Value) (w' : World), Below W.heap.size W w' → K ⟨#[u0, u1, u2, u3, u4, u5, .bool true, .bool true, u8, u9, u10, u11, u12, u13, .pointer (some ⟨bp, 0, none⟩), u15, .pointer (some ⟨bq, 0, none⟩), u17, .pointer (some ⟨br, 0, none⟩), u19, .pointer (some ⟨bs, 0, none⟩), u21, .pointer (some ⟨bt, 0, none⟩), u23, .pointer (some ⟨bw, 0, none⟩), u25, .bool true, u27, u28, u29, u30, u31, u32, u33, u34, u35, u36, u37, u38, u39, u40, u41, u42, u43, u44, u45, u46, u47, u48, u49, u50, u51, u52, u53, u54, u55, u56, u57, u58, u59, u60, u61, u62, u63, u64, u65, u66, u67, u68, u69, u70, u71, u72, u73, u74, u75, u76, u77, u78, u79, u80, u81, u82, u83, u84, u85, u86, u87, u88, u89, u90, u91, u92, u93, u94, u95, u96, u97, u98, u99, u100, u101, u102, u103, u104, u105, u106, u107, u108, u109, u110, u111, u112, u113, u114, u115, u116, u117, u118, u119, u120, u121, u122, u123, u124, u125, u126, u127, u128, u129, u130, u131, u132, u133, u134, u135, u136, u137, u138, u139, u140, u141, u142, u143, u144, u145, u146, u147, v148, v149, v150, v151, v152, v153, v154, v155, v156, v157, v158, v159, v160, v161, v162, v163, v164, v165, v166, v167, v168, v169, v170], []⟩ w') :
    Code.wp Tryd.prog (regionOf 15 Tryd.f8) (Exit.then K Q) ⟨#[u0, u1, u2, u3, u4, u5, u6, .bool true, u8, u9, u10, u11, u12, u13, .pointer (some ⟨bp, 0, none⟩), u15, .pointer (some ⟨bq, 0, none⟩), u17, .pointer (some ⟨br, 0, none⟩), u19, .pointer (some ⟨bs, 0, none⟩), u21, .pointer (some ⟨bt, 0, none⟩), u23, .pointer (some ⟨bw, 0, none⟩), u25, .bool true, u27, u28, u29, u30, u31, u32, u33, u34, u35, u36, u37, u38, u39, u40, u41, u42, u43, u44, u45, u46, u47, u48, u49, u50, u51, u52, u53, u54, u55, u56, u57, u58, u59, u60, u61, u62, u63, u64, u65, u66, u67, u68, u69, u70, u71, u72, u73, u74, u75, u76, u77, u78, u79, u80, u81, u82, u83, u84, u85, u86, u87, u88, u89, u90, u91, u92, u93, u94, u95, u96, u97, u98, u99, u100, u101, u102, u103, u104, u105, u106, u107, u108, u109, u110, u111, u112, u113, u114, u115, u116, u117, u118, u119, u120, u121, u122, u123, u124, u125, u126, u127, u128, u129, u130, u131, u132, u133, u134, u135, u136, u137, u138, u139, u140, u141, u142, u143, u144, u145, u146, u147, u148, u149, u150, u151, u152, u153, u154, u155, u156, u157, u158, u159, u160, u161, u162, u163, u164, u165, u166, u167, u168, u169, u170], []⟩ W := by
  conv => arg 2; whnf
  obtain ⟨gp, Ap, np, cp, Sp, Ip⟩ := Hp
  obtain ⟨gw, Aw, nw, cw, Sw, Iw⟩ := Hw
  obtain ⟨gq, Aq, nq, cq, Sq, Iq⟩ := Hq
  obtain ⟨gr, Ar, nr, cr, Sr, Ir⟩ := Hr
  obtain ⟨gs, As, ns, cs, Ss, Is⟩ := Hs
  obtain ⟨gt, At, nt, ct, St, It⟩ := Ht
  have Zt2 : Sz 600 (zp * zq) := Sz.mul Zp Zq (by decide)
  have Zt4 : Sz 600 (zp * zs) := Sz.mul Zp Zs (by decide)
  have HS : Hid (∀ V, Below W.heap.size W V → V.cell? ⟨bp, 0, none⟩ = some (.bool gp) ∧ V.cell? ⟨bp, 1, none⟩ = some (.slice Ap np cp) ∧ V.cell? ⟨bw, 0, none⟩ = some (.bool gw) ∧ V.cell? ⟨bw, 1, none⟩ = some (.slice Aw nw cw) ∧ V.cell? ⟨bq, 0, none⟩ = some (.bool gq) ∧ V.cell? ⟨bq, 1, none⟩ = some (.slice Aq nq cq) ∧ V.cell? ⟨br, 0, none⟩ = some (.bool gr) ∧ V.cell? ⟨br, 1, none⟩ = some (.slice Ar nr cr) ∧ V.cell? ⟨bs, 0, none⟩ = some (.bool gs) ∧ V.cell? ⟨bs, 1, none⟩ = some (.slice As ns cs) ∧ V.cell? ⟨bt, 0, none⟩ = some (.bool gt) ∧ V.cell? ⟨bt, 1, none⟩ = some (.slice At nt ct)) := fun V hW => ⟨(Sp.after hW).1, (Sp.after hW).2.1, (Sw.after hW).1, (Sw.after hW).2.1, (Sq.after hW).1, (Sq.after hW).2.1, (Sr.after hW).1, (Sr.after hW).2.1, (Ss.after hW).1, (Ss.after hW).2.1, (St.after hW).1, (St.after hW).2.1⟩
  have Dt0 : Below W.heap.size W W.drew := (Below.refl _ _).drew
  refine wp_region_seq (.pre [(0, true), (1, true), (2, true), (3, true), (4, false), (5, true), (6, true), (7, true), (8, true), (10, true), (9, false), (11, false), (12, true), (13, true), (14, true), (15, true), (17, true), (16, false), (18, false), (19, true), (20, true), (21, true), (22, true), (23, true)] .done) (fun W => W.cell? ⟨bp, 0, none⟩ = some (.bool gp) ∧ W.cell? ⟨bp, 1, none⟩ = some (.slice Ap np cp) ∧ W.cell? ⟨bw, 0, none⟩ = some (.bool gw) ∧ W.cell? ⟨bw, 1, none⟩ = some (.slice Aw nw cw) ∧ W.cell? ⟨bq, 0, none⟩ = some (.bool gq) ∧ W.cell? ⟨bq, 1, none⟩ = some (.slice Aq nq cq) ∧ W.cell? ⟨br, 0, none⟩ = some (.bool gr) ∧ W.cell? ⟨br, 1, none⟩ = some (.slice Ar nr cr) ∧ W.cell? ⟨bs, 0, none⟩ = some (.bool gs) ∧ W.cell? ⟨bs, 1, none⟩ = some (.slice As ns cs) ∧ W.cell? ⟨bt, 0, none⟩ = some (.bool gt) ∧ W.cell? ⟨bt, 1, none⟩ = some (.slice At nt ct)) (by kernel_rfl) (by kernel_rfl) ?_ (by kernel_rfl) (HS.out _ Dt0) ?_
  · refine chk_pre _ _ _ (by as_aux_lemma => kernel_rfl) ?_
    exact (by as_aux_lemma => kernel_rfl)
  refine seq_take _ ?_ rfl (Or.inl ⟨by rfl, ?_⟩) ?_
  rotate_left
  · (intro w hSw; (try dsimp only at hSw); go_simp; (try with_reducible rfl))
  try simp only [Act.put, List.setIfInBounds_toArray, List.set_cons_zero, List.set_cons_succ]
  refine seq_take _ ?_ rfl (Or.inl ⟨by rfl, ?_⟩) ?_
  rotate_left
  · (intro w hSw; (try dsimp only at hSw); go_simp; (try with_reducible rfl))
  try simp only [Act.put, List.setIfInBounds_toArray, List.set_cons_zero, List.set_cons_succ]
  refine seq_take _ ?_ rfl (Or.inl ⟨by rfl, ?_⟩) ?_
  rotate_left
  · (intro w hSw; (try dsimp only at hSw); go_simp; (try with_reducible rfl))
  try simp only [Act.put, List.setIfInBounds_toArray, List.set_cons_zero, List.set_cons_succ]
  refine seq_take _ ?_ rfl (Or.inl ⟨by rfl, ?_⟩) ?_
  rotate_left
  · (intro w hSw; (try dsimp only at hSw); go_simp; (try with_reducible rfl))
  try simp only [Act.put, List.setIfInBounds_toArray, List.set_cons_zero, List.set_cons_succ]
  refine seq_one _ rfl fun K hK => ?_
  go_simp
  (with_reducible refine (same_z gp gw Ap Aw np cp nw cw _ (Ip.below Dt0) (Iw.below Dt0) e1.out).mono ?_)
  rintro e vt1 ⟨rfl, bt1⟩
  have Dt1 : Below W.heap.size W vt1 := Below.trans Dt0 (bt1.mono (Below.size Dt0))
  go_wp2_with fail
  refine hK.out _ _ (HS.out _ Dt1) (fun hHeld => ?_)
  clear hK K hHeld
  try simp only [Act.put, List.setIfInBounds_toArray, List.set_cons_zero, List.set_cons_succ]
  refine seq_take _ ?_ rfl (Or.inl ⟨by rfl, ?_⟩) ?_
  rotate_left
  · (intro w hSw; (try dsimp only at hSw); go_simp; (try with_reducible rfl))
  try simp only [Act.put, List.setIfInBounds_toArray, List.set_cons_zero, List.set_cons_succ]
  refine seq_take _ ?_ rfl (Or.inl ⟨by rfl, ?_⟩) ?_
  rotate_left
  · (intro w hSw; (try dsimp only at hSw); go_simp; (try with_reducible rfl))
  try simp only [Act.put, List.setIfInBounds_toArray, List.set_cons_zero, List.set_cons_succ]
  refine seq_take _ ?_ rfl (Or.inl ⟨by rfl, ?_⟩) ?_
  rotate_left
  · (intro w hSw; (try dsimp only at hSw); go_simp; (try with_reducible rfl))
  try simp only [Act.put, List.setIfInBounds_toArray, List.set_cons_zero, List.set_cons_succ]
  refine seq_take _ ?_ rfl (Or.inl ⟨by rfl, ?_⟩) ?_
  rotate_left
  · (intro w hSw; (try dsimp only at hSw); go_simp; (try with_reducible rfl))
  try simp only [Act.put, List.setIfInBounds_toArray, List.set_cons_zero, List.set_cons_succ]
  refine seq_take _ ?_ rfl (Or.inl ⟨by rfl, ?_⟩) ?_
  rotate_left
  · (intro w hSw; (try dsimp only at hSw); go_simp; (try with_reducible rfl))
  try simp only [Act.put, List.setIfInBounds_toArray, List.set_cons_zero, List.set_cons_succ]
  refine seq_one _ rfl fun K hK => ?_
  go_simp
  (with_reducible refine (rmul_z gp gq Ap Aq np cp nq cq _ (Ip.below Dt1) (Iq.below Dt1) Zp Zq).mono ?_)
  rintro e vt2 ⟨gt2, At2, nt2, ct2, rfl, it2, bt2⟩
  have Dt2 : Below W.heap.size W vt2 := Below.trans Dt1 (bt2.mono (Below.size Dt1))
  go_wp2_with fail
  refine hK.out _ _ (HS.out _ Dt2) (fun hHeld => ?_)
  clear hK K hHeld
  try simp only [Act.put, List.setIfInBounds_toArray, List.set_cons_zero, List.set_cons_succ]
  refine seq_one _ rfl fun K hK => ?_
  go_simp
  (with_reducible refine (same_z gt2 gr At2 Ar nt2 ct2 nr cr _ it2 (Ir.below Dt2) e2.out).mono ?_)
  rintro e vt3 ⟨rfl, bt3⟩
  have Dt3 : Below W.heap.size W vt3 := Below.trans Dt2 (bt3.mono (Below.size Dt2))
  go_wp2_with fail
  refine hK.out _ _ (HS.out _ Dt3) (fun hHeld => ?_)
  clear hK K hHeld
  try simp only [Act.put, List.setIfInBounds_toArray, List.set_cons_zero, List.set_cons_succ]
  refine seq_take _ ?_ rfl (Or.inl ⟨by rfl, ?_⟩) ?_
  rotate_left
  · (intro w hSw; (try dsimp only at hSw); go_simp; (try with_reducible rfl))
  try simp only [Act.put, List.setIfInBounds_toArray, List.set_cons_zero, List.set_cons_succ]
  refine seq_take _ ?_ rfl (Or.inl ⟨by rfl, ?_⟩) ?_
  rotate_left
  · (intro w hSw; (try dsimp only at hSw); go_simp; (try with_reducible rfl))
  try simp only [Act.put, List.setIfInBounds_toArray, List.set_cons_zero, List.set_cons_succ]
  refine seq_take _ ?_ rfl (Or.inl ⟨by rfl, ?_⟩) ?_
  rotate_left
  · (intro w hSw; (try dsimp only at hSw); go_simp; (try with_reducible rfl))
  try simp only [Act.put, List.setIfInBounds_toArray, List.set_cons_zero, List.set_cons_succ]
  refine seq_take _ ?_ rfl (Or.inl ⟨by rfl, ?_⟩) ?_
  rotate_left
  · (intro w hSw; (try dsimp only at hSw); go_simp; (try with_reducible rfl))
  try simp only [Act.put, List.setIfInBounds_toArray, List.set_cons_zero, List.set_cons_succ]
  as_aux_lemma =>
    refine seq_take _ ?_ rfl (Or.inl ⟨by rfl, ?_⟩) ?_
    rotate_left
    · (intro w hSw; (try dsimp only at hSw); go_simp; (try with_reducible rfl))
    try simp only [Act.put, List.setIfInBounds_toArray, List.set_cons_zero, List.set_cons_succ]
    refine seq_one _ rfl fun K hK => ?_
    go_simp
    (with_reducible refine (rmul_z gp gs Ap As np cp ns cs _ (Ip.below Dt3) (Is.below Dt3) Zp Zs).mono ?_)
    rintro e vt4 ⟨gt4, At4, nt4, ct4, rfl, it4, bt4⟩
    have Dt4 : Below W.heap.size W vt4 := Below.trans Dt3 (bt4.mono (Below.size Dt3))
    go_wp2_with fail
    refine hK.out _ _ (HS.out _ Dt4) (fun hHeld => ?_)
    clear hK K hHeld
    try simp only [Act.put, List.setIfInBounds_toArray, List.set_cons_zero, List.set_cons_succ]
    refine seq_one _ rfl fun K hK => ?_
    go_simp
    (with_reducible refine (same_z gt4 gt At4 At nt4 ct4 nt ct _ it4 (It.below Dt4) e3.out).mono ?_)
    rintro e vt5 ⟨rfl, bt5⟩
    have Dt5 : Below W.heap.size W vt5 := Below.trans Dt4 (bt5.mono (Below.size Dt4))
    go_wp2_with fail
    refine hK.out _ _ (HS.out _ Dt5) (fun hHeld => ?_)
    clear hK K hHeld
    try simp only [Act.put, List.setIfInBounds_toArray, List.set_cons_zero, List.set_cons_succ]
    refine seq_take _ ?_ rfl (Or.inl ⟨by rfl, ?_⟩) ?_
    rotate_left
    · (intro w hSw; (try dsimp only at hSw); go_simp; (try with_reducible rfl))
    try simp only [Act.put, List.setIfInBounds_toArray, List.set_cons_zero, List.set_cons_succ]
    refine seq_take _ ?_ rfl (Or.inl ⟨by rfl, ?_⟩) ?_
    rotate_left
    · (intro w hSw; (try dsimp only at hSw); go_simp; (try with_reducible rfl))
    try simp only [Act.put, List.setIfInBounds_toArray, List.set_cons_zero, List.set_cons_succ]
    refine seq_take _ ?_ rfl (Or.inl ⟨by rfl, ?_⟩) ?_
    rotate_left
    · (intro w hSw; (try dsimp only at hSw); go_simp; (try with_reducible rfl))
    try simp only [Act.put, List.setIfInBounds_toArray, List.set_cons_zero, List.set_cons_succ]
    refine seq_take _ ?_ rfl (Or.inl ⟨by rfl, ?_⟩) ?_
    rotate_left
    · (intro w hSw; (try dsimp only at hSw); go_simp; (try with_reducible rfl))
    try simp only [Act.put, List.setIfInBounds_toArray, List.set_cons_zero, List.set_cons_succ]
    refine seq_take _ ?_ rfl (Or.inl ⟨by rfl, ?_⟩) ?_
    rotate_left
    · (intro w hSw; (try dsimp only at hSw); go_simp; (try with_reducible rfl))
    try simp only [Act.put, List.setIfInBounds_toArray, List.set_cons_zero, List.set_cons_succ]
    refine NoPanic.normal ?_
    exact hK _ _ _ _ _ _ _ _ _ _ _ _ _ _ _ _ _ _ _ _ _ _ _ _ Dt5
end Go.Proofs.YtdknibhaacbkpaaDoor
