/- One region of the law's fixed examples. -/
import Derived.Test.YtnlmdjbakcjhbaaDoorVSanP
import Derived.Test.YtnlmdjbakcjhbaaDoorVG3Made
import Derived.Test.YtnlmdjbakcjhbaaDoorVG9DivMod
namespace Go.Proofs.YtnlmdjbakcjhbaaDoor
open Go.RowKit
set_option maxRecDepth 1000000 in
set_option maxHeartbeats 40000000 in
theorem san_b {u0 u3 u6 u7 u8 u9 u10 u11 u12 u13 u14 u15 u16 u17 u18 u19 u20 u21 u22 u23 u24 u25 u26 u27 u28 u29 u30 u31 u32 u33 u34 u35 u36 u37 u38 u39 u40 u41 u42 u43 u44 u45 u46 u47 u48 u49 u50 u51 u52 u53 u54 u55 u56 u57 u58 u59 u60 u61 u62 u63 u64 u65 u66 u67 u68 u69 u70 u71 u72 u73 u74 u75 u76 u77 u78 u79 u80 u81 u82 u83 u84 u85 u86 u87 u88 u89 u90 u91 u92 u93 u94 u95 u96 u97 u98 u99 u100 u101 u102 u103 u104 u105 u106 u107 u108 u109 u110 u111 u112 u113 u114 u115 u116 u117 u118 u119 u120 u121 u122 u123 u124 u125 u126 u127 u128 u129 u130 u131 u132 u133 u134 u135 u136 u137 u138 u139 u140 u141 u142 u143 u144 u145 u146 u147 u148 u149 u150 u151 u152 u153 u154 u155 u156 u157 u158 u159 u160 u161 u162 u163 u164 u165 u166 u167 u168 u169 u170 u171 u172 u173 u174 u175 u176 u177 u178 u179 u180 u181 u182 u183 u184 u185 u186 u187 u188 u189 u190 u191 u192 u193 u194 u195 u196 u197 u198 u199 u200 u201 u202 u203 u204 u205 u206 u207 u208 u209 u210 u211 u212 u213 u214 u215 u216 u217 u218 u219 u220 u221 u222 u223 u224 u225 u226 u227 u228 u229 u230 u231 u232 u233 u234 u235 u236 u237 u238 u239 u240 u241 u242 u243 u244 u245 u246 u247 u248 u249 u250 u251 u252 u253 u254 u255 u256 u257 u258 u259 u260 u261 u262 u263 u264 u265 u266 u267 u268 u269 u270 u271 u272 u273 u274 u275 u276 u277 u278 u279 u280 u281 u282 u283 u284 u285 u286 u287 u288 u289 u290 u291 u292 u293 u294 u295 u296 u297 u298 u299 u300 u301 u302 u303 u304 u305 u306 u307 u308 u309 u310 u311 : Value} {W : World} {K : Act → World → Prop} {Q : Exit → Act → World → Prop} {bq4 : Nat} (Hq4 : IntAt W bq4 (-4)) {br1 : Nat} (Hr1 : IntAt W br1 (1)) {bs3 : Nat} (Hs3 : IntAt W bs3 (-3)) {bu1 : Nat} (Hu1 : IntAt W bu1 (1))
    (hK : ∀ (v224 v225 v226 v227 v228 v229 v230 v231 v232 v233 v234 v235 v236 v237 v238 v239 v240 v241 : Value) (w' : World), Below W.heap.size W w' → K ⟨#[u0, .pointer (some ⟨bq4, 0, none⟩), .pointer (some ⟨br1, 0, none⟩), u3, .pointer (some ⟨bs3, 0, none⟩), .pointer (some ⟨bu1, 0, none⟩), u6, u7, u8, u9, u10, u11, u12, u13, u14, u15, u16, u17, u18, u19, u20, u21, u22, u23, u24, u25, u26, u27, u28, u29, u30, u31, u32, u33, u34, u35, u36, u37, u38, u39, u40, .bool true, u42, u43, u44, u45, u46, u47, u48, u49, u50, u51, u52, u53, u54, u55, u56, u57, u58, u59, u60, u61, u62, u63, u64, u65, u66, u67, u68, u69, u70, u71, u72, u73, u74, u75, u76, u77, u78, u79, u80, u81, u82, u83, u84, u85, u86, u87, u88, u89, u90, u91, u92, u93, u94, u95, u96, u97, u98, u99, u100, u101, u102, u103, u104, u105, u106, u107, u108, u109, u110, u111, u112, u113, u114, u115, u116, u117, u118, u119, u120, u121, u122, u123, u124, u125, u126, u127, u128, u129, u130, u131, u132, u133, u134, u135, u136, u137, u138, u139, u140, u141, u142, u143, u144, u145, u146, u147, u148, u149, u150, u151, u152, u153, u154, u155, u156, u157, u158, u159, u160, u161, u162, u163, u164, u165, u166, u167, u168, u169, u170, u171, u172, u173, u174, u175, u176, u177, u178, u179, u180, u181, u182, u183, u184, u185, u186, u187, u188, u189, u190, u191, u192, u193, u194, u195, u196, u197, u198, u199, u200, u201, u202, u203, u204, u205, u206, u207, u208, u209, u210, u211, u212, u213, u214, u215, u216, u217, u218, u219, u220, u221, u222, u223, v224, v225, v226, v227, v228, v229, v230, v231, v232, v233, v234, v235, v236, v237, v238, v239, v240, v241, u242, u243, u244, u245, u246, u247, u248, u249, u250, u251, u252, u253, u254, u255, u256, u257, u258, u259, u260, u261, u262, u263, u264, u265, u266, u267, u268, u269, u270, u271, u272, u273, u274, u275, u276, u277, u278, u279, u280, u281, u282, u283, u284, u285, u286, u287, u288, u289, u290, u291, u292, u293, u294, u295, u296, u297, u298, u299, u300, u301, u302, u303, u304, u305, u306, u307, u308, u309, u310, u311], []⟩ w') :
    Code.wp Tryd.prog (regionOf 19 Tryd.f9) (Exit.then K Q) ⟨#[u0, .pointer (some ⟨bq4, 0, none⟩), .pointer (some ⟨br1, 0, none⟩), u3, .pointer (some ⟨bs3, 0, none⟩), .pointer (some ⟨bu1, 0, none⟩), u6, u7, u8, u9, u10, u11, u12, u13, u14, u15, u16, u17, u18, u19, u20, u21, u22, u23, u24, u25, u26, u27, u28, u29, u30, u31, u32, u33, u34, u35, u36, u37, u38, u39, u40, u41, u42, u43, u44, u45, u46, u47, u48, u49, u50, u51, u52, u53, u54, u55, u56, u57, u58, u59, u60, u61, u62, u63, u64, u65, u66, u67, u68, u69, u70, u71, u72, u73, u74, u75, u76, u77, u78, u79, u80, u81, u82, u83, u84, u85, u86, u87, u88, u89, u90, u91, u92, u93, u94, u95, u96, u97, u98, u99, u100, u101, u102, u103, u104, u105, u106, u107, u108, u109, u110, u111, u112, u113, u114, u115, u116, u117, u118, u119, u120, u121, u122, u123, u124, u125, u126, u127, u128, u129, u130, u131, u132, u133, u134, u135, u136, u137, u138, u139, u140, u141, u142, u143, u144, u145, u146, u147, u148, u149, u150, u151, u152, u153, u154, u155, u156, u157, u158, u159, u160, u161, u162, u163, u164, u165, u166, u167, u168, u169, u170, u171, u172, u173, u174, u175, u176, u177, u178, u179, u180, u181, u182, u183, u184, u185, u186, u187, u188, u189, u190, u191, u192, u193, u194, u195, u196, u197, u198, u199, u200, u201, u202, u203, u204, u205, u206, u207, u208, u209, u210, u211, u212, u213, u214, u215, u216, u217, u218, u219, u220, u221, u222, u223, u224, u225, u226, u227, u228, u229, u230, u231, u232, u233, u234, u235, u236, u237, u238, u239, u240, u241, u242, u243, u244, u245, u246, u247, u248, u249, u250, u251, u252, u253, u254, u255, u256, u257, u258, u259, u260, u261, u262, u263, u264, u265, u266, u267, u268, u269, u270, u271, u272, u273, u274, u275, u276, u277, u278, u279, u280, u281, u282, u283, u284, u285, u286, u287, u288, u289, u290, u291, u292, u293, u294, u295, u296, u297, u298, u299, u300, u301, u302, u303, u304, u305, u306, u307, u308, u309, u310, u311], []⟩ W := by
  conv => arg 2; whnf
  obtain ⟨gq4, Aq4, nq4, cq4, Sq4, Iq4⟩ := Hq4
  obtain ⟨gr1, Ar1, nr1, cr1, Sr1, Ir1⟩ := Hr1
  obtain ⟨gs3, As3, ns3, cs3, Ss3, Is3⟩ := Hs3
  obtain ⟨gu1, Au1, nu1, cu1, Su1, Iu1⟩ := Hu1
  have HS : Hid (∀ V, Below W.heap.size W V → V.cell? ⟨bq4, 0, none⟩ = some (.bool gq4) ∧ V.cell? ⟨bq4, 1, none⟩ = some (.slice Aq4 nq4 cq4) ∧ V.cell? ⟨br1, 0, none⟩ = some (.bool gr1) ∧ V.cell? ⟨br1, 1, none⟩ = some (.slice Ar1 nr1 cr1) ∧ V.cell? ⟨bs3, 0, none⟩ = some (.bool gs3) ∧ V.cell? ⟨bs3, 1, none⟩ = some (.slice As3 ns3 cs3) ∧ V.cell? ⟨bu1, 0, none⟩ = some (.bool gu1) ∧ V.cell? ⟨bu1, 1, none⟩ = some (.slice Au1 nu1 cu1)) := fun V hW => ⟨(Sq4.after hW).1, (Sq4.after hW).2.1, (Sr1.after hW).1, (Sr1.after hW).2.1, (Ss3.after hW).1, (Ss3.after hW).2.1, (Su1.after hW).1, (Su1.after hW).2.1⟩
  have Db0 : Below W.heap.size W W.drew := (Below.refl _ _).drew
  refine wp_region_seq (.pre [(0, true), (1, false), (2, false), (3, true), (4, true), (5, false), (6, false), (7, true), (8, true), (9, true), (10, false), (11, false), (12, true), (13, true), (14, true), (15, false), (16, false), (17, true), (18, true)] .done) (fun W => W.cell? ⟨bq4, 0, none⟩ = some (.bool gq4) ∧ W.cell? ⟨bq4, 1, none⟩ = some (.slice Aq4 nq4 cq4) ∧ W.cell? ⟨br1, 0, none⟩ = some (.bool gr1) ∧ W.cell? ⟨br1, 1, none⟩ = some (.slice Ar1 nr1 cr1) ∧ W.cell? ⟨bs3, 0, none⟩ = some (.bool gs3) ∧ W.cell? ⟨bs3, 1, none⟩ = some (.slice As3 ns3 cs3) ∧ W.cell? ⟨bu1, 0, none⟩ = some (.bool gu1) ∧ W.cell? ⟨bu1, 1, none⟩ = some (.slice Au1 nu1 cu1)) (by kernel_rfl) (by kernel_rfl) ?_ (by kernel_rfl) (HS.out _ Db0) ?_
  · refine chk_pre _ _ _ (by as_aux_lemma => kernel_rfl) ?_
    exact (by as_aux_lemma => kernel_rfl)
  refine seq_take _ ?_ rfl (Or.inl ⟨by rfl, ?_⟩) ?_
  rotate_left
  · (intro w hSw; (try dsimp only at hSw); go_simp; (try with_reducible rfl))
  try simp only [Act.put, List.setIfInBounds_toArray, List.set_cons_zero, List.set_cons_succ]
  refine seq_one _ rfl fun K hK => ?_
  go_simp
  (with_reducible refine (rof_any (-4) _ (by decide) (by decide)).mono ?_)
  rintro e vb1 ⟨gb1, Ab1, nb1, cb1, rfl, ib1, bb1⟩
  have Db1 : Below W.heap.size W vb1 := Below.trans Db0 (bb1.mono (Below.size Db0))
  go_wp2_with fail
  refine hK.out _ _ (HS.out _ Db1) (fun hHeld => ?_)
  clear hK K hHeld
  try simp only [Act.put, List.setIfInBounds_toArray, List.set_cons_zero, List.set_cons_succ]
  refine seq_one _ rfl fun K hK => ?_
  go_simp
  (with_reducible refine (same_true gq4 gb1 Aq4 Ab1 nq4 cq4 nb1 cb1 _ _ (Iq4.below Db1) ib1).mono ?_)
  rintro e vb2 ⟨rfl, bb2⟩
  have Db2 : Below W.heap.size W vb2 := Below.trans Db1 (bb2.mono (Below.size Db1))
  go_wp2_with fail
  refine hK.out _ _ (HS.out _ Db2) (fun hHeld => ?_)
  clear hK K hHeld
  try simp only [Act.put, List.setIfInBounds_toArray, List.set_cons_zero, List.set_cons_succ]
  refine seq_take _ ?_ rfl (Or.inl ⟨by rfl, ?_⟩) ?_
  rotate_left
  · (intro w hSw; (try dsimp only at hSw); go_simp; (try with_reducible rfl))
  try simp only [Act.put, List.setIfInBounds_toArray, List.set_cons_zero, List.set_cons_succ]
  refine seq_take _ ?_ rfl (Or.inl ⟨by rfl, ?_⟩) ?_
  rotate_left
  · (intro w hSw; (try dsimp only at hSw); go_simp; (try with_reducible rfl))
  try simp only [Act.put, List.setIfInBounds_toArray, List.set_cons_zero, List.set_cons_succ]
  refine seq_one _ rfl fun K hK => ?_
  go_simp
  (with_reducible refine (rof_any (1) _ (by decide) (by decide)).mono ?_)
  rintro e vb3 ⟨gb3, Ab3, nb3, cb3, rfl, ib3, bb3⟩
  have Db3 : Below W.heap.size W vb3 := Below.trans Db2 (bb3.mono (Below.size Db2))
  go_wp2_with fail
  refine hK.out _ _ (HS.out _ Db3) (fun hHeld => ?_)
  clear hK K hHeld
  try simp only [Act.put, List.setIfInBounds_toArray, List.set_cons_zero, List.set_cons_succ]
  refine seq_one _ rfl fun K hK => ?_
  go_simp
  (with_reducible refine (same_true gr1 gb3 Ar1 Ab3 nr1 cr1 nb3 cb3 _ _ (Ir1.below Db3) ib3).mono ?_)
  rintro e vb4 ⟨rfl, bb4⟩
  have Db4 : Below W.heap.size W vb4 := Below.trans Db3 (bb4.mono (Below.size Db3))
  go_wp2_with fail
  refine hK.out _ _ (HS.out _ Db4) (fun hHeld => ?_)
  clear hK K hHeld
  try simp only [Act.put, List.setIfInBounds_toArray, List.set_cons_zero, List.set_cons_succ]
  refine seq_take _ ?_ rfl (Or.inl ⟨by rfl, ?_⟩) ?_
  rotate_left
  · (intro w hSw; (try dsimp only at hSw); go_simp; (try with_reducible rfl))
  try simp only [Act.put, List.setIfInBounds_toArray, List.set_cons_zero, List.set_cons_succ]
  refine seq_take _ ?_ rfl (Or.inl ⟨by rfl, ?_⟩) ?_
  rotate_left
  · (intro w hSw; (try dsimp only at hSw); go_simp; (try with_reducible rfl))
  try simp only [Act.put, List.setIfInBounds_toArray, List.set_cons_zero, List.set_cons_succ]
  refine seq_take _ ?_ rfl (Or.inl ⟨by rfl, ?_⟩) ?_
  rotate_left
  · (intro w hSw; (try dsimp only at hSw); go_simp; (try with_reducible rfl))
  try simp only [Act.put, List.setIfInBounds_toArray, List.set_cons_zero, List.set_cons_succ]
  refine seq_one _ rfl fun K hK => ?_
  go_simp
  (with_reducible refine (rof_any (-3) _ (by decide) (by decide)).mono ?_)
  rintro e vb5 ⟨gb5, Ab5, nb5, cb5, rfl, ib5, bb5⟩
  have Db5 : Below W.heap.size W vb5 := Below.trans Db4 (bb5.mono (Below.size Db4))
  go_wp2_with fail
  refine hK.out _ _ (HS.out _ Db5) (fun hHeld => ?_)
  clear hK K hHeld
  try simp only [Act.put, List.setIfInBounds_toArray, List.set_cons_zero, List.set_cons_succ]
  refine seq_one _ rfl fun K hK => ?_
  go_simp
  (with_reducible refine (same_true gs3 gb5 As3 Ab5 ns3 cs3 nb5 cb5 _ _ (Is3.below Db5) ib5).mono ?_)
  rintro e vb6 ⟨rfl, bb6⟩
  have Db6 : Below W.heap.size W vb6 := Below.trans Db5 (bb6.mono (Below.size Db5))
  go_wp2_with fail
  refine hK.out _ _ (HS.out _ Db6) (fun hHeld => ?_)
  clear hK K hHeld
  try simp only [Act.put, List.setIfInBounds_toArray, List.set_cons_zero, List.set_cons_succ]
  refine seq_take _ ?_ rfl (Or.inl ⟨by rfl, ?_⟩) ?_
  rotate_left
  · (intro w hSw; (try dsimp only at hSw); go_simp; (try with_reducible rfl))
  try simp only [Act.put, List.setIfInBounds_toArray, List.set_cons_zero, List.set_cons_succ]
  refine seq_take _ ?_ rfl (Or.inl ⟨by rfl, ?_⟩) ?_
  rotate_left
  · (intro w hSw; (try dsimp only at hSw); go_simp; (try with_reducible rfl))
  try simp only [Act.put, List.setIfInBounds_toArray, List.set_cons_zero, List.set_cons_succ]
  refine seq_take _ ?_ rfl (Or.inl ⟨by rfl, ?_⟩) ?_
  rotate_left
  · (intro w hSw; (try dsimp only at hSw); go_simp; (try with_reducible rfl))
  try simp only [Act.put, List.setIfInBounds_toArray, List.set_cons_zero, List.set_cons_succ]
  refine seq_one _ rfl fun K hK => ?_
  go_simp
  (with_reducible refine (rof_any (1) _ (by decide) (by decide)).mono ?_)
  rintro e vb7 ⟨gb7, Ab7, nb7, cb7, rfl, ib7, bb7⟩
  have Db7 : Below W.heap.size W vb7 := Below.trans Db6 (bb7.mono (Below.size Db6))
  go_wp2_with fail
  refine hK.out _ _ (HS.out _ Db7) (fun hHeld => ?_)
  clear hK K hHeld
  try simp only [Act.put, List.setIfInBounds_toArray, List.set_cons_zero, List.set_cons_succ]
  as_aux_lemma =>
    refine seq_one _ rfl fun K hK => ?_
    go_simp
    (with_reducible refine (same_true gu1 gb7 Au1 Ab7 nu1 cu1 nb7 cb7 _ _ (Iu1.below Db7) ib7).mono ?_)
    rintro e vb8 ⟨rfl, bb8⟩
    have Db8 : Below W.heap.size W vb8 := Below.trans Db7 (bb8.mono (Below.size Db7))
    go_wp2_with fail
    refine hK.out _ _ (HS.out _ Db8) (fun hHeld => ?_)
    clear hK K hHeld
    try simp only [Act.put, List.setIfInBounds_toArray, List.set_cons_zero, List.set_cons_succ]
    refine seq_take _ ?_ rfl (Or.inl ⟨by rfl, ?_⟩) ?_
    rotate_left
    · (intro w hSw; (try dsimp only at hSw); go_simp; (try with_reducible rfl))
    try simp only [Act.put, List.setIfInBounds_toArray, List.set_cons_zero, List.set_cons_succ]
    refine seq_take _ ?_ rfl (Or.inl ⟨by rfl, ?_⟩) ?_
    rotate_left
    · (intro w hSw; (try dsimp only at hSw); go_simp; (try with_reducible rfl))
    try simp only [Act.put, List.setIfInBounds_toArray, List.set_cons_zero, List.set_cons_succ]
    refine NoPanic.normal ?_
    exact hK _ _ _ _ _ _ _ _ _ _ _ _ _ _ _ _ _ _ _ Db8
end Go.Proofs.YtnlmdjbakcjhbaaDoor
