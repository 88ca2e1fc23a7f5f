/- One region of the law's fixed examples. -/
import Derived.Test.YtnlmdjbakcjhbaaDoorVSanP
import Derived.Test.YtnlmdjbakcjhbaaDoorVG3Made
import Derived.Test.YtnlmdjbakcjhbaaDoorVG9DivMod
namespace Go.Proofs.YtnlmdjbakcjhbaaDoor
open Go.RowKit
set_option maxRecDepth 1000000 in
set_option maxHeartbeats 40000000 in
theorem san_a {u0 u1 u2 u3 u4 u5 u6 u7 u8 u9 u10 u11 u12 u13 u14 u15 u16 u17 u18 u19 u20 u21 u22 u23 u24 u25 u27 u28 u30 u37 u39 u40 u41 u42 u43 u44 u45 u46 u47 u48 u49 u50 u51 u52 u53 u54 u55 u56 u57 u58 u59 u60 u61 u62 u63 u64 u65 u66 u67 u68 u69 u70 u71 u72 u73 u74 u75 u76 u77 u78 u79 u80 u81 u82 u83 u84 u85 u86 u87 u88 u89 u90 u91 u92 u93 u94 u95 u96 u97 u98 u99 u100 u101 u102 u103 u104 u105 u106 u107 u108 u109 u110 u111 u112 u113 u114 u115 u116 u117 u118 u119 u120 u121 u122 u123 u124 u125 u126 u127 u128 u129 u130 u131 u132 u133 u134 u135 u136 u137 u138 u139 u140 u141 u142 u143 u144 u145 u146 u147 u148 u149 u150 u151 u152 u153 u154 u155 u156 u157 u158 u159 u160 u161 u162 u163 u164 u165 u166 u167 u168 u169 u170 u171 u172 u173 u174 u175 u176 u177 u178 u179 u180 u181 u182 u183 u184 u185 u186 u187 u188 u189 u190 u191 u192 u193 u194 u195 u196 u197 u198 u199 u200 u201 u202 u203 u204 u205 u206 u207 u208 u209 u210 u211 u212 u213 u214 u215 u216 u217 u218 u219 u220 u221 u222 u223 u224 u225 u226 u227 u228 u229 u230 u231 u232 u233 u234 u235 u236 u237 u238 u239 u240 u241 u242 u243 u244 u245 u246 u247 u248 u249 u250 u251 u252 u253 u254 u255 u256 u257 u258 u259 u260 u261 u262 u263 u264 u265 u266 u267 u268 u269 u270 u271 u272 u273 u274 u275 u276 u277 u278 u279 u280 u281 u282 u283 u284 u285 u286 u287 u288 u289 u290 u291 u292 u293 u294 u295 u296 u297 u298 u299 u300 u301 u302 u303 u304 u305 u306 u307 u308 u309 u310 u311 : Value} {W : World} {K : Act → World → Prop} {Q : Exit → Act → World → Prop} {btwo : Nat} (Htwo : IntAt W btwo (2)) {bfive : Nat} (Hfive : IntAt W bfive (5)) {bsgn1 : Nat} (Hsgn1 : IntAt W bsgn1 (-1)) {bz1 : Nat} (Hz1 : IntAt W bz1 (0)) {bz2 : Nat} (Hz2 : IntAt W bz2 (0)) {bz3 : Nat} (Hz3 : IntAt W bz3 (0)) {bfour : Nat} (Hfour : IntAt W bfour (4))
    (hK : ∀ (v130 v131 v132 v133 v134 v135 v136 v137 v138 v139 v140 v141 v142 v143 v144 v145 v146 v147 v148 v149 v150 v151 v152 v153 v154 v155 v156 v157 v158 v159 v160 v161 v162 v163 v164 v165 v166 v167 v168 v169 v170 v171 v172 v173 v174 v175 v176 v177 v178 v179 v180 v181 v182 v183 v184 v185 v186 : Value) (w' : World), Below W.heap.size W w' → K ⟨#[u0, u1, u2, u3, u4, u5, u6, u7, u8, u9, u10, u11, u12, u13, u14, u15, u16, u17, u18, u19, u20, u21, u22, u23, u24, u25, .pointer (some ⟨btwo, 0, none⟩), u27, u28, .pointer (some ⟨bfive, 0, none⟩), u30, .pointer (some ⟨bsgn1, 0, none⟩), .pointer (some ⟨bz1, 0, none⟩), .pointer (some ⟨bz2, 0, none⟩), .pointer (some ⟨bz3, 0, none⟩), .pointer (some ⟨bfour, 0, none⟩), .int .i64 0, u37, .int .i64 1, .bool true, u40, u41, u42, u43, u44, u45, u46, u47, u48, u49, u50, u51, u52, u53, u54, u55, u56, u57, u58, u59, u60, u61, u62, u63, u64, u65, u66, u67, u68, u69, u70, u71, u72, u73, u74, u75, u76, u77, u78, u79, u80, u81, u82, u83, u84, u85, u86, u87, u88, u89, u90, u91, u92, u93, u94, u95, u96, u97, u98, u99, u100, u101, u102, u103, u104, u105, u106, u107, u108, u109, u110, u111, u112, u113, u114, u115, u116, u117, u118, u119, u120, u121, u122, u123, u124, u125, u126, u127, u128, u129, v130, v131, v132, v133, v134, v135, v136, v137, v138, v139, v140, v141, v142, v143, v144, v145, v146, v147, v148, v149, v150, v151, v152, v153, v154, v155, v156, v157, v158, v159, v160, v161, v162, v163, v164, v165, v166, v167, v168, v169, v170, v171, v172, v173, v174, v175, v176, v177, v178, v179, v180, v181, v182, v183, v184, v185, v186, u187, u188, u189, u190, u191, u192, u193, u194, u195, u196, u197, u198, u199, u200, u201, u202, u203, u204, u205, u206, u207, u208, u209, u210, u211, u212, u213, u214, u215, u216, u217, u218, u219, u220, u221, u222, u223, u224, u225, u226, u227, u228, u229, u230, u231, u232, u233, u234, u235, u236, u237, u238, u239, u240, u241, u242, u243, u244, u245, u246, u247, u248, u249, u250, u251, u252, u253, u254, u255, u256, u257, u258, u259, u260, u261, u262, u263, u264, u265, u266, u267, u268, u269, u270, u271, u272, u273, u274, u275, u276, u277, u278, u279, u280, u281, u282, u283, u284, u285, u286, u287, u288, u289, u290, u291, u292, u293, u294, u295, u296, u297, u298, u299, u300, u301, u302, u303, u304, u305, u306, u307, u308, u309, u310, u311], []⟩ w') :
    Code.wp Tryd.prog (regionOf 17 Tryd.f9) (Exit.then K Q) ⟨#[u0, u1, u2, u3, u4, u5, u6, u7, u8, u9, u10, u11, u12, u13, u14, u15, u16, u17, u18, u19, u20, u21, u22, u23, u24, u25, .pointer (some ⟨btwo, 0, none⟩), u27, u28, .pointer (some ⟨bfive, 0, none⟩), u30, .pointer (some ⟨bsgn1, 0, none⟩), .pointer (some ⟨bz1, 0, none⟩), .pointer (some ⟨bz2, 0, none⟩), .pointer (some ⟨bz3, 0, none⟩), .pointer (some ⟨bfour, 0, none⟩), .int .i64 0, u37, .int .i64 1, u39, u40, u41, u42, u43, u44, u45, u46, u47, u48, u49, u50, u51, u52, u53, u54, u55, u56, u57, u58, u59, u60, u61, u62, u63, u64, u65, u66, u67, u68, u69, u70, u71, u72, u73, u74, u75, u76, u77, u78, u79, u80, u81, u82, u83, u84, u85, u86, u87, u88, u89, u90, u91, u92, u93, u94, u95, u96, u97, u98, u99, u100, u101, u102, u103, u104, u105, u106, u107, u108, u109, u110, u111, u112, u113, u114, u115, u116, u117, u118, u119, u120, u121, u122, u123, u124, u125, u126, u127, u128, u129, u130, u131, u132, u133, u134, u135, u136, u137, u138, u139, u140, u141, u142, u143, u144, u145, u146, u147, u148, u149, u150, u151, u152, u153, u154, u155, u156, u157, u158, u159, u160, u161, u162, u163, u164, u165, u166, u167, u168, u169, u170, u171, u172, u173, u174, u175, u176, u177, u178, u179, u180, u181, u182, u183, u184, u185, u186, u187, u188, u189, u190, u191, u192, u193, u194, u195, u196, u197, u198, u199, u200, u201, u202, u203, u204, u205, u206, u207, u208, u209, u210, u211, u212, u213, u214, u215, u216, u217, u218, u219, u220, u221, u222, u223, u224, u225, u226, u227, u228, u229, u230, u231, u232, u233, u234, u235, u236, u237, u238, u239, u240, u241, u242, u243, u244, u245, u246, u247, u248, u249, u250, u251, u252, u253, u254, u255, u256, u257, u258, u259, u260, u261, u262, u263, u264, u265, u266, u267, u268, u269, u270, u271, u272, u273, u274, u275, u276, u277, u278, u279, u280, u281, u282, u283, u284, u285, u286, u287, u288, u289, u290, u291, u292, u293, u294, u295, u296, u297, u298, u299, u300, u301, u302, u303, u304, u305, u306, u307, u308, u309, u310, u311], []⟩ W := by
  conv => arg 2; whnf
  obtain ⟨gtwo, Atwo, ntwo, ctwo, Stwo, Itwo⟩ := Htwo
  obtain ⟨gfive, Afive, nfive, cfive, Sfive, Ifive⟩ := Hfive
  obtain ⟨gsgn1, Asgn1, nsgn1, csgn1, Ssgn1, Isgn1⟩ := Hsgn1
  obtain ⟨gz1, Az1, nz1, cz1, Sz1, Iz1⟩ := Hz1
  obtain ⟨gz2, Az2, nz2, cz2, Sz2, Iz2⟩ := Hz2
  obtain ⟨gz3, Az3, nz3, cz3, Sz3, Iz3⟩ := Hz3
  obtain ⟨gfour, Afour, nfour, cfour, Sfour, Ifour⟩ := Hfour
  have HS : Hid (∀ V, Below W.heap.size W V → V.cell? ⟨btwo, 0, none⟩ = some (.bool gtwo) ∧ V.cell? ⟨btwo, 1, none⟩ = some (.slice Atwo ntwo ctwo) ∧ V.cell? ⟨bfive, 0, none⟩ = some (.bool gfive) ∧ V.cell? ⟨bfive, 1, none⟩ = some (.slice Afive nfive cfive) ∧ V.cell? ⟨bsgn1, 0, none⟩ = some (.bool gsgn1) ∧ V.cell? ⟨bsgn1, 1, none⟩ = some (.slice Asgn1 nsgn1 csgn1) ∧ V.cell? ⟨bz1, 0, none⟩ = some (.bool gz1) ∧ V.cell? ⟨bz1, 1, none⟩ = some (.slice Az1 nz1 cz1) ∧ V.cell? ⟨bz2, 0, none⟩ = some (.bool gz2) ∧ V.cell? ⟨bz2, 1, none⟩ = some (.slice Az2 nz2 cz2) ∧ V.cell? ⟨bz3, 0, none⟩ = some (.bool gz3) ∧ V.cell? ⟨bz3, 1, none⟩ = some (.slice Az3 nz3 cz3) ∧ V.cell? ⟨bfour, 0, none⟩ = some (.bool gfour) ∧ V.cell? ⟨bfour, 1, none⟩ = some (.slice Afour nfour cfour)) := fun V hW => ⟨(Stwo.after hW).1, (Stwo.after hW).2.1, (Sfive.after hW).1, (Sfive.after hW).2.1, (Ssgn1.after hW).1, (Ssgn1.after hW).2.1, (Sz1.after hW).1, (Sz1.after hW).2.1, (Sz2.after hW).1, (Sz2.after hW).2.1, (Sz3.after hW).1, (Sz3.after hW).2.1, (Sfour.after hW).1, (Sfour.after hW).2.1⟩
  have Da0 : Below W.heap.size W W.drew := (Below.refl _ _).drew
  refine wp_region_seq (.pre [(0, true), (1, false), (2, false), (3, true), (4, true), (5, false), (6, false), (7, true), (8, true), (9, true), (10, false), (11, false), (12, true), (13, true), (14, true), (15, false), (16, true), (17, true), (18, true), (19, true), (20, false), (21, true), (22, true), (23, true), (24, true)] (.pre [(25, false), (26, true), (27, true), (28, true), (29, true), (30, false), (31, false), (32, true), (33, true), (34, true), (35, true), (36, true), (37, true), (38, true), (39, true), (40, true), (41, true), (42, false), (43, false), (44, true), (45, true), (46, true), (47, false), (48, false), (49, true)] (.pre [(50, true), (51, true), (52, false), (53, false), (54, false), (55, false), (56, true), (57, true)] .done))) (fun W => W.cell? ⟨btwo, 0, none⟩ = some (.bool gtwo) ∧ W.cell? ⟨btwo, 1, none⟩ = some (.slice Atwo ntwo ctwo) ∧ W.cell? ⟨bfive, 0, none⟩ = some (.bool gfive) ∧ W.cell? ⟨bfive, 1, none⟩ = some (.slice Afive nfive cfive) ∧ W.cell? ⟨bsgn1, 0, none⟩ = some (.bool gsgn1) ∧ W.cell? ⟨bsgn1, 1, none⟩ = some (.slice Asgn1 nsgn1 csgn1) ∧ W.cell? ⟨bz1, 0, none⟩ = some (.bool gz1) ∧ W.cell? ⟨bz1, 1, none⟩ = some (.slice Az1 nz1 cz1) ∧ W.cell? ⟨bz2, 0, none⟩ = some (.bool gz2) ∧ W.cell? ⟨bz2, 1, none⟩ = some (.slice Az2 nz2 cz2) ∧ W.cell? ⟨bz3, 0, none⟩ = some (.bool gz3) ∧ W.cell? ⟨bz3, 1, none⟩ = some (.slice Az3 nz3 cz3) ∧ W.cell? ⟨bfour, 0, none⟩ = some (.bool gfour) ∧ W.cell? ⟨bfour, 1, none⟩ = some (.slice Afour nfour cfour)) (by kernel_rfl) (by kernel_rfl) ?_ (by kernel_rfl) (HS.out _ Da0) ?_
  · refine chk_pre _ _ _ (by as_aux_lemma => kernel_rfl) ?_
    refine chk_pre _ _ _ (by as_aux_lemma => kernel_rfl) ?_
    refine chk_pre _ _ _ (by as_aux_lemma => kernel_rfl) ?_
    exact (by as_aux_lemma => kernel_rfl)
  refine seq_take _ ?_ rfl (Or.inl ⟨by rfl, ?_⟩) ?_
  rotate_left
  · (intro w hSw; (try dsimp only at hSw); go_simp; (try with_reducible rfl))
  try simp only [Act.put, List.setIfInBounds_toArray, List.set_cons_zero, List.set_cons_succ]
  refine seq_one _ rfl fun K hK => ?_
  go_simp
  (with_reducible refine (rof_any (2) _ (by decide) (by decide)).mono ?_)
  rintro e va1 ⟨ga1, Aa1, na1, ca1, rfl, ia1, ba1⟩
  have Da1 : Below W.heap.size W va1 := Below.trans Da0 (ba1.mono (Below.size Da0))
  go_wp2_with fail
  refine hK.out _ _ (HS.out _ Da1) (fun hHeld => ?_)
  clear hK K hHeld
  try simp only [Act.put, List.setIfInBounds_toArray, List.set_cons_zero, List.set_cons_succ]
  refine seq_one _ rfl fun K hK => ?_
  go_simp
  (with_reducible refine (same_true gtwo ga1 Atwo Aa1 ntwo ctwo na1 ca1 _ _ (Itwo.below Da1) ia1).mono ?_)
  rintro e va2 ⟨rfl, ba2⟩
  have Da2 : Below W.heap.size W va2 := Below.trans Da1 (ba2.mono (Below.size Da1))
  go_wp2_with fail
  refine hK.out _ _ (HS.out _ Da2) (fun hHeld => ?_)
  clear hK K hHeld
  try simp only [Act.put, List.setIfInBounds_toArray, List.set_cons_zero, List.set_cons_succ]
  refine seq_take _ ?_ rfl (Or.inl ⟨by rfl, ?_⟩) ?_
  rotate_left
  · (intro w hSw; (try dsimp only at hSw); go_simp; (try with_reducible rfl))
  try simp only [Act.put, List.setIfInBounds_toArray, List.set_cons_zero, List.set_cons_succ]
  refine seq_take _ ?_ rfl (Or.inl ⟨by rfl, ?_⟩) ?_
  rotate_left
  · (intro w hSw; (try dsimp only at hSw); go_simp; (try with_reducible rfl))
  try simp only [Act.put, List.setIfInBounds_toArray, List.set_cons_zero, List.set_cons_succ]
  refine seq_one _ rfl fun K hK => ?_
  go_simp
  (with_reducible refine (rof_any (5) _ (by decide) (by decide)).mono ?_)
  rintro e va3 ⟨ga3, Aa3, na3, ca3, rfl, ia3, ba3⟩
  have Da3 : Below W.heap.size W va3 := Below.trans Da2 (ba3.mono (Below.size Da2))
  go_wp2_with fail
  refine hK.out _ _ (HS.out _ Da3) (fun hHeld => ?_)
  clear hK K hHeld
  try simp only [Act.put, List.setIfInBounds_toArray, List.set_cons_zero, List.set_cons_succ]
  refine seq_one _ rfl fun K hK => ?_
  go_simp
  (with_reducible refine (same_true gfive ga3 Afive Aa3 nfive cfive na3 ca3 _ _ (Ifive.below Da3) ia3).mono ?_)
  rintro e va4 ⟨rfl, ba4⟩
  have Da4 : Below W.heap.size W va4 := Below.trans Da3 (ba4.mono (Below.size Da3))
  go_wp2_with fail
  refine hK.out _ _ (HS.out _ Da4) (fun hHeld => ?_)
  clear hK K hHeld
  try simp only [Act.put, List.setIfInBounds_toArray, List.set_cons_zero, List.set_cons_succ]
  refine seq_take _ ?_ rfl (Or.inl ⟨by rfl, ?_⟩) ?_
  rotate_left
  · (intro w hSw; (try dsimp only at hSw); go_simp; (try with_reducible rfl))
  try simp only [Act.put, List.setIfInBounds_toArray, List.set_cons_zero, List.set_cons_succ]
  refine seq_take _ ?_ rfl (Or.inl ⟨by rfl, ?_⟩) ?_
  rotate_left
  · (intro w hSw; (try dsimp only at hSw); go_simp; (try with_reducible rfl))
  try simp only [Act.put, List.setIfInBounds_toArray, List.set_cons_zero, List.set_cons_succ]
  refine seq_take _ ?_ rfl (Or.inl ⟨by rfl, ?_⟩) ?_
  rotate_left
  · (intro w hSw; (try dsimp only at hSw); go_simp; (try with_reducible rfl))
  try simp only [Act.put, List.setIfInBounds_toArray, List.set_cons_zero, List.set_cons_succ]
  refine seq_one _ rfl fun K hK => ?_
  go_simp
  (with_reducible refine (rof_any (-1) _ (by decide) (by decide)).mono ?_)
  rintro e va5 ⟨ga5, Aa5, na5, ca5, rfl, ia5, ba5⟩
  have Da5 : Below W.heap.size W va5 := Below.trans Da4 (ba5.mono (Below.size Da4))
  go_wp2_with fail
  refine hK.out _ _ (HS.out _ Da5) (fun hHeld => ?_)
  clear hK K hHeld
  try simp only [Act.put, List.setIfInBounds_toArray, List.set_cons_zero, List.set_cons_succ]
  refine seq_one _ rfl fun K hK => ?_
  go_simp
  (with_reducible refine (same_true gsgn1 ga5 Asgn1 Aa5 nsgn1 csgn1 na5 ca5 _ _ (Isgn1.below Da5) ia5).mono ?_)
  rintro e va6 ⟨rfl, ba6⟩
  have Da6 : Below W.heap.size W va6 := Below.trans Da5 (ba6.mono (Below.size Da5))
  go_wp2_with fail
  refine hK.out _ _ (HS.out _ Da6) (fun hHeld => ?_)
  clear hK K hHeld
  try simp only [Act.put, List.setIfInBounds_toArray, List.set_cons_zero, List.set_cons_succ]
  refine seq_take _ ?_ rfl (Or.inl ⟨by rfl, ?_⟩) ?_
  rotate_left
  · (intro w hSw; (try dsimp only at hSw); go_simp; (try with_reducible rfl))
  try simp only [Act.put, List.setIfInBounds_toArray, List.set_cons_zero, List.set_cons_succ]
  refine seq_take _ ?_ rfl (Or.inl ⟨by rfl, ?_⟩) ?_
  rotate_left
  · (intro w hSw; (try dsimp only at hSw); go_simp; (try with_reducible rfl))
  try simp only [Act.put, List.setIfInBounds_toArray, List.set_cons_zero, List.set_cons_succ]
  refine seq_take _ ?_ rfl (Or.inl ⟨by rfl, ?_⟩) ?_
  rotate_left
  · (intro w hSw; (try dsimp only at hSw); go_simp; (try with_reducible rfl))
  try simp only [Act.put, List.setIfInBounds_toArray, List.set_cons_zero, List.set_cons_succ]
  refine seq_one _ rfl fun K hK => ?_
  go_simp
  (with_reducible refine (rsign0 gz1 Az1 nz1 cz1 _ (Iz1.below Da6)).mono ?_)
  rintro e va7 ⟨rfl, ba7⟩
  have Da7 : Below W.heap.size W va7 := Below.trans Da6 (ba7.mono (Below.size Da6))
  go_wp2_with fail
  refine hK.out _ _ (HS.out _ Da7) (fun hHeld => ?_)
  clear hK K hHeld
  try simp only [Act.put, List.setIfInBounds_toArray, List.set_cons_zero, List.set_cons_succ]
  as_aux_lemma =>
    refine seq_take _ ?_ rfl (Or.inl ⟨by rfl, ?_⟩) ?_
    rotate_left
    · (intro w hSw; (try dsimp only at hSw); go_simp; (try with_reducible rfl))
    try simp only [Act.put, List.setIfInBounds_toArray, List.set_cons_zero, List.set_cons_succ]
    refine seq_take _ ?_ rfl (Or.inl ⟨by rfl, ?_⟩) ?_
    rotate_left
    · (intro w hSw; (try dsimp only at hSw); go_simp; (try with_reducible rfl))
    try simp only [Act.put, List.setIfInBounds_toArray, List.set_cons_zero, List.set_cons_succ]
    refine seq_take _ ?_ rfl (Or.inl ⟨by rfl, ?_⟩) ?_
    rotate_left
    · (intro w hSw; (try dsimp only at hSw); go_simp; (try with_reducible rfl))
    try simp only [Act.put, List.setIfInBounds_toArray, List.set_cons_zero, List.set_cons_succ]
    refine seq_take _ ?_ rfl (Or.inl ⟨by rfl, ?_⟩) ?_
    rotate_left
    · (intro w hSw; (try dsimp only at hSw); go_simp; (try with_reducible rfl))
    try simp only [Act.put, List.setIfInBounds_toArray, List.set_cons_zero, List.set_cons_succ]
    refine seq_one _ rfl fun K hK => ?_
    go_simp
    (with_reducible refine (rsign0 gz2 Az2 nz2 cz2 _ (Iz2.below Da7)).mono ?_)
    rintro e va8 ⟨rfl, ba8⟩
    have Da8 : Below W.heap.size W va8 := Below.trans Da7 (ba8.mono (Below.size Da7))
    go_wp2_with fail
    refine hK.out _ _ (HS.out _ Da8) (fun hHeld => ?_)
    clear hK K hHeld
    try simp only [Act.put, List.setIfInBounds_toArray, List.set_cons_zero, List.set_cons_succ]
    refine seq_take _ ?_ rfl (Or.inl ⟨by rfl, ?_⟩) ?_
    rotate_left
    · (intro w hSw; (try dsimp only at hSw); go_simp; (try with_reducible rfl))
    try simp only [Act.put, List.setIfInBounds_toArray, List.set_cons_zero, List.set_cons_succ]
    refine seq_take _ ?_ rfl (Or.inl ⟨by rfl, ?_⟩) ?_
    rotate_left
    · (intro w hSw; (try dsimp only at hSw); go_simp; (try with_reducible rfl))
    try simp only [Act.put, List.setIfInBounds_toArray, List.set_cons_zero, List.set_cons_succ]
    refine seq_take _ ?_ rfl (Or.inl ⟨by rfl, ?_⟩) ?_
    rotate_left
    · (intro w hSw; (try dsimp only at hSw); go_simp; (try with_reducible rfl))
    try simp only [Act.put, List.setIfInBounds_toArray, List.set_cons_zero, List.set_cons_succ]
    refine seq_take _ ?_ rfl (Or.inl ⟨by rfl, ?_⟩) ?_
    rotate_left
    · (intro w hSw; (try dsimp only at hSw); go_simp; (try with_reducible rfl))
    try simp only [Act.put, List.setIfInBounds_toArray, List.set_cons_zero, List.set_cons_succ]
    refine seq_one _ rfl fun K hK => ?_
    go_simp
    (with_reducible refine (rsign0 gz3 Az3 nz3 cz3 _ (Iz3.below Da8)).mono ?_)
    rintro e va9 ⟨rfl, ba9⟩
    have Da9 : Below W.heap.size W va9 := Below.trans Da8 (ba9.mono (Below.size Da8))
    go_wp2_with fail
    refine hK.out _ _ (HS.out _ Da9) (fun hHeld => ?_)
    clear hK K hHeld
    try simp only [Act.put, List.setIfInBounds_toArray, List.set_cons_zero, List.set_cons_succ]
    refine seq_take _ ?_ rfl (Or.inl ⟨by rfl, ?_⟩) ?_
    rotate_left
    · (intro w hSw; (try dsimp only at hSw); go_simp; (try with_reducible rfl))
    try simp only [Act.put, List.setIfInBounds_toArray, List.set_cons_zero, List.set_cons_succ]
    refine seq_take _ ?_ rfl (Or.inl ⟨by rfl, ?_⟩) ?_
    rotate_left
    · (intro w hSw; (try dsimp only at hSw); go_simp; (try with_reducible rfl))
    try simp only [Act.put, List.setIfInBounds_toArray, List.set_cons_zero, List.set_cons_succ]
    refine seq_take _ ?_ rfl (Or.inl ⟨by rfl, ?_⟩) ?_
    rotate_left
    · (intro w hSw; (try dsimp only at hSw); go_simp; (try with_reducible rfl))
    try simp only [Act.put, List.setIfInBounds_toArray, List.set_cons_zero, List.set_cons_succ]
    refine seq_take _ ?_ rfl (Or.inl ⟨by rfl, ?_⟩) ?_
    rotate_left
    · (intro w hSw; (try dsimp only at hSw); go_simp; (try with_reducible rfl))
    try simp only [Act.put, List.setIfInBounds_toArray, List.set_cons_zero, List.set_cons_succ]
    refine seq_one _ rfl fun K hK => ?_
    go_simp
    (with_reducible refine (rof_any (4) _ (by decide) (by decide)).mono ?_)
    rintro e va10 ⟨ga10, Aa10, na10, ca10, rfl, ia10, ba10⟩
    have Da10 : Below W.heap.size W va10 := Below.trans Da9 (ba10.mono (Below.size Da9))
    go_wp2_with fail
    refine hK.out _ _ (HS.out _ Da10) (fun hHeld => ?_)
    clear hK K hHeld
    try simp only [Act.put, List.setIfInBounds_toArray, List.set_cons_zero, List.set_cons_succ]
    refine seq_one _ rfl fun K hK => ?_
    go_simp
    (with_reducible refine (same_true gfour ga10 Afour Aa10 nfour cfour na10 ca10 _ _ (Ifour.below Da10) ia10).mono ?_)
    rintro e va11 ⟨rfl, ba11⟩
    have Da11 : Below W.heap.size W va11 := Below.trans Da10 (ba11.mono (Below.size Da10))
    go_wp2_with fail
    refine hK.out _ _ (HS.out _ Da11) (fun hHeld => ?_)
    clear hK K hHeld
    try simp only [Act.put, List.setIfInBounds_toArray, List.set_cons_zero, List.set_cons_succ]
    refine seq_take _ ?_ rfl (Or.inl ⟨by rfl, ?_⟩) ?_
    rotate_left
    · (intro w hSw; (try dsimp only at hSw); go_simp; (try with_reducible rfl))
    try simp only [Act.put, List.setIfInBounds_toArray, List.set_cons_zero, List.set_cons_succ]
    as_aux_lemma =>
      refine seq_take _ ?_ rfl (Or.inl ⟨by rfl, ?_⟩) ?_
      rotate_left
      · (intro w hSw; (try dsimp only at hSw); go_simp; (try with_reducible rfl))
      try simp only [Act.put, List.setIfInBounds_toArray, List.set_cons_zero, List.set_cons_succ]
      refine seq_take _ ?_ rfl (Or.inl ⟨by rfl, ?_⟩) ?_
      rotate_left
      · (intro w hSw; (try dsimp only at hSw); go_simp; (try with_reducible rfl))
      try simp only [Act.put, List.setIfInBounds_toArray, List.set_cons_zero, List.set_cons_succ]
      refine seq_take _ ?_ rfl (Or.inl ⟨by rfl, ?_⟩) ?_
      rotate_left
      · (intro w hSw; (try dsimp only at hSw); go_simp; (try with_reducible rfl))
      try simp only [Act.put, List.setIfInBounds_toArray, List.set_cons_zero, List.set_cons_succ]
      refine seq_take _ ?_ rfl (Or.inl ⟨by rfl, ?_⟩) ?_
      rotate_left
      · (intro w hSw; (try dsimp only at hSw); go_simp; (try with_reducible rfl))
      try simp only [Act.put, List.setIfInBounds_toArray, List.set_cons_zero, List.set_cons_succ]
      refine seq_take _ ?_ rfl (Or.inl ⟨by rfl, ?_⟩) ?_
      rotate_left
      · (intro w hSw; (try dsimp only at hSw); go_simp; (try with_reducible rfl))
      try simp only [Act.put, List.setIfInBounds_toArray, List.set_cons_zero, List.set_cons_succ]
      refine seq_take _ ?_ rfl (Or.inl ⟨by rfl, ?_⟩) ?_
      rotate_left
      · (intro w hSw; (try dsimp only at hSw); go_simp; (try with_reducible rfl))
      try simp only [Act.put, List.setIfInBounds_toArray, List.set_cons_zero, List.set_cons_succ]
      refine seq_take _ ?_ rfl (Or.inl ⟨by rfl, ?_⟩) ?_
      rotate_left
      · (intro w hSw; (try dsimp only at hSw); go_simp; (try with_reducible rfl))
      try simp only [Act.put, List.setIfInBounds_toArray, List.set_cons_zero, List.set_cons_succ]
      refine seq_take _ ?_ rfl (Or.inl ⟨by rfl, ?_⟩) ?_
      rotate_left
      · (intro w hSw; (try dsimp only at hSw); go_simp; (try with_reducible rfl))
      try simp only [Act.put, List.setIfInBounds_toArray, List.set_cons_zero, List.set_cons_succ]
      refine seq_take _ ?_ rfl (Or.inl ⟨by rfl, ?_⟩) ?_
      rotate_left
      · (intro w hSw; (try dsimp only at hSw); go_simp; (try with_reducible rfl))
      try simp only [Act.put, List.setIfInBounds_toArray, List.set_cons_zero, List.set_cons_succ]
      refine seq_one _ rfl fun K hK => ?_
      go_simp
      (with_reducible refine (of_any (-8) _ (by decide) (by decide)).mono ?_)
      rintro e va12 ⟨ga12, Aa12, na12, ca12, rfl, ia12, ba12⟩
      have Da12 : Below W.heap.size W va12 := Below.trans Da11 (ba12.mono (Below.size Da11))
      go_wp2_with fail
      refine hK.out _ _ (HS.out _ Da12) (fun hHeld => ?_)
      clear hK K hHeld
      try simp only [Act.put, List.setIfInBounds_toArray, List.set_cons_zero, List.set_cons_succ]
      refine seq_one _ rfl fun K hK => ?_
      go_simp
      (with_reducible refine (bits8 ga12 Aa12 na12 ca12 _ ia12).mono ?_)
      rintro e va13 ⟨rfl, ba13⟩
      have Da13 : Below W.heap.size W va13 := Below.trans Da12 (ba13.mono (Below.size Da12))
      go_wp2_with fail
      refine hK.out _ _ (HS.out _ Da13) (fun hHeld => ?_)
      clear hK K hHeld
      try simp only [Act.put, List.setIfInBounds_toArray, List.set_cons_zero, List.set_cons_succ]
      refine seq_take _ ?_ rfl (Or.inl ⟨by rfl, ?_⟩) ?_
      rotate_left
      · (intro w hSw; (try dsimp only at hSw); go_simp; (try with_reducible rfl))
      try simp only [Act.put, List.setIfInBounds_toArray, List.set_cons_zero, List.set_cons_succ]
      refine seq_take _ ?_ rfl (Or.inl ⟨by rfl, ?_⟩) ?_
      rotate_left
      · (intro w hSw; (try dsimp only at hSw); go_simp; (try with_reducible rfl))
      try simp only [Act.put, List.setIfInBounds_toArray, List.set_cons_zero, List.set_cons_succ]
      refine seq_take _ ?_ rfl (Or.inl ⟨by rfl, ?_⟩) ?_
      rotate_left
      · (intro w hSw; (try dsimp only at hSw); go_simp; (try with_reducible rfl))
      try simp only [Act.put, List.setIfInBounds_toArray, List.set_cons_zero, List.set_cons_succ]
      refine seq_one _ rfl fun K hK => ?_
      go_simp
      (with_reducible refine (of_any (0) _ (by decide) (by decide)).mono ?_)
      rintro e va14 ⟨ga14, Aa14, na14, ca14, rfl, ia14, ba14⟩
      have Da14 : Below W.heap.size W va14 := Below.trans Da13 (ba14.mono (Below.size Da13))
      go_wp2_with fail
      refine hK.out _ _ (HS.out _ Da14) (fun hHeld => ?_)
      clear hK K hHeld
      try simp only [Act.put, List.setIfInBounds_toArray, List.set_cons_zero, List.set_cons_succ]
      refine seq_one _ rfl fun K hK => ?_
      go_simp
      (with_reducible refine (bits0 ga14 Aa14 na14 ca14 _ ia14).mono ?_)
      rintro e va15 ⟨rfl, ba15⟩
      have Da15 : Below W.heap.size W va15 := Below.trans Da14 (ba15.mono (Below.size Da14))
      go_wp2_with fail
      refine hK.out _ _ (HS.out _ Da15) (fun hHeld => ?_)
      clear hK K hHeld
      try simp only [Act.put, List.setIfInBounds_toArray, List.set_cons_zero, List.set_cons_succ]
      refine seq_take _ ?_ rfl (Or.inl ⟨by rfl, ?_⟩) ?_
      rotate_left
      · (intro w hSw; (try dsimp only at hSw); go_simp; (try with_reducible rfl))
      try simp only [Act.put, List.setIfInBounds_toArray, List.set_cons_zero, List.set_cons_succ]
      as_aux_lemma =>
        refine seq_take _ ?_ rfl (Or.inl ⟨by rfl, ?_⟩) ?_
        rotate_left
        · (intro w hSw; (try dsimp only at hSw); go_simp; (try with_reducible rfl))
        try simp only [Act.put, List.setIfInBounds_toArray, List.set_cons_zero, List.set_cons_succ]
        refine seq_take _ ?_ rfl (Or.inl ⟨by rfl, ?_⟩) ?_
        rotate_left
        · (intro w hSw; (try dsimp only at hSw); go_simp; (try with_reducible rfl))
        try simp only [Act.put, List.setIfInBounds_toArray, List.set_cons_zero, List.set_cons_succ]
        refine seq_one _ rfl fun K hK => ?_
        go_simp
        (with_reducible refine (of_any (-3) _ (by decide) (by decide)).mono ?_)
        rintro e va16 ⟨ga16, Aa16, na16, ca16, rfl, ia16, ba16⟩
        have Da16 : Below W.heap.size W va16 := Below.trans Da15 (ba16.mono (Below.size Da15))
        go_wp2_with fail
        refine hK.out _ _ (HS.out _ Da16) (fun hHeld => ?_)
        clear hK K hHeld
        try simp only [Act.put, List.setIfInBounds_toArray, List.set_cons_zero, List.set_cons_succ]
        refine seq_one _ rfl fun K hK => ?_
        go_simp
        (with_reducible refine (abs3 ga16 Aa16 na16 ca16 _ ia16).mono ?_)
        rintro e va17 ⟨ga17, Aa17, na17, ca17, rfl, ia17, ba17⟩
        have Da17 : Below W.heap.size W va17 := Below.trans Da16 (ba17.mono (Below.size Da16))
        go_wp2_with fail
        refine hK.out _ _ (HS.out _ Da17) (fun hHeld => ?_)
        clear hK K hHeld
        try simp only [Act.put, List.setIfInBounds_toArray, List.set_cons_zero, List.set_cons_succ]
        refine seq_one _ rfl fun K hK => ?_
        go_simp
        (with_reducible refine (rof_any (3) _ (by decide) (by decide)).mono ?_)
        rintro e va18 ⟨ga18, Aa18, na18, ca18, rfl, ia18, ba18⟩
        have Da18 : Below W.heap.size W va18 := Below.trans Da17 (ba18.mono (Below.size Da17))
        go_wp2_with fail
        refine hK.out _ _ (HS.out _ Da18) (fun hHeld => ?_)
        clear hK K hHeld
        try simp only [Act.put, List.setIfInBounds_toArray, List.set_cons_zero, List.set_cons_succ]
        refine seq_one _ rfl fun K hK => ?_
        go_simp
        (with_reducible refine (same_true ga17 ga18 Aa17 Aa18 na17 ca17 na18 ca18 3 _ (ia17.below ba18) ia18).mono ?_)
        rintro e va19 ⟨rfl, ba19⟩
        have Da19 : Below W.heap.size W va19 := Below.trans Da18 (ba19.mono (Below.size Da18))
        go_wp2_with fail
        refine hK.out _ _ (HS.out _ Da19) (fun hHeld => ?_)
        clear hK K hHeld
        try simp only [Act.put, List.setIfInBounds_toArray, List.set_cons_zero, List.set_cons_succ]
        refine seq_take _ ?_ rfl (Or.inl ⟨by rfl, ?_⟩) ?_
        rotate_left
        · (intro w hSw; (try dsimp only at hSw); go_simp; (try with_reducible rfl))
        try simp only [Act.put, List.setIfInBounds_toArray, List.set_cons_zero, List.set_cons_succ]
        refine seq_take _ ?_ rfl (Or.inl ⟨by rfl, ?_⟩) ?_
        rotate_left
        · (intro w hSw; (try dsimp only at hSw); go_simp; (try with_reducible rfl))
        try simp only [Act.put, List.setIfInBounds_toArray, List.set_cons_zero, List.set_cons_succ]
        refine NoPanic.normal ?_
        exact hK _ _ _ _ _ _ _ _ _ _ _ _ _ _ _ _ _ _ _ _ _ _ _ _ _ _ _ _ _ _ _ _ _ _ _ _ _ _ _ _ _ _ _ _ _ _ _ _ _ _ _ _ _ _ _ _ _ _ Da19
end Go.Proofs.YtnlmdjbakcjhbaaDoor
