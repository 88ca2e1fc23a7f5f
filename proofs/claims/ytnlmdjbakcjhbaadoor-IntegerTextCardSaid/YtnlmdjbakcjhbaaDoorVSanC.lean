/- One region of the law's fixed examples. -/
import Derived.Test.YtnlmdjbakcjhbaaDoorVSanP
import Derived.Test.YtnlmdjbakcjhbaaDoorVG3Made
import Derived.Test.YtnlmdjbakcjhbaaDoorVG9DivMod
namespace Go.Proofs.YtnlmdjbakcjhbaaDoor
open Go.RowKit
set_option maxRecDepth 1000000 in
set_option maxHeartbeats 40000000 in
theorem san_c {u0 u1 u2 u3 u4 u5 u6 u7 u8 u9 u11 u12 u13 u14 u15 u16 u17 u19 u20 u21 u24 u26 u27 u28 u29 u30 u31 u32 u33 u34 u35 u36 u37 u38 u39 u42 u43 u44 u45 u46 u47 u48 u49 u50 u51 u52 u53 u54 u55 u56 u57 u58 u59 u60 u61 u62 u63 u64 u65 u66 u67 u68 u69 u70 u71 u72 u73 u74 u75 u76 u77 u78 u79 u80 u81 u82 u83 u84 u85 u86 u87 u88 u89 u90 u91 u92 u93 u94 u95 u96 u97 u98 u99 u100 u101 u102 u103 u104 u105 u106 u107 u108 u109 u110 u111 u112 u113 u114 u115 u116 u117 u118 u119 u120 u121 u122 u123 u124 u125 u126 u127 u128 u129 u130 u131 u132 u133 u134 u135 u136 u137 u138 u139 u140 u141 u142 u143 u144 u145 u146 u147 u148 u149 u150 u151 u152 u153 u154 u155 u156 u157 u158 u159 u160 u161 u162 u163 u164 u165 u166 u167 u168 u169 u170 u171 u172 u173 u174 u175 u176 u177 u178 u179 u180 u181 u182 u183 u184 u185 u186 u187 u188 u189 u190 u191 u192 u193 u194 u195 u196 u197 u198 u199 u200 u201 u202 u203 u204 u205 u206 u207 u208 u209 u210 u211 u212 u213 u214 u215 u216 u217 u218 u219 u220 u221 u222 u223 u224 u225 u226 u227 u228 u229 u230 u231 u232 u233 u234 u235 u236 u237 u238 u239 u240 u241 u242 u243 u244 u245 u246 u247 u248 u249 u250 u251 u252 u253 u254 u255 u256 u257 u258 u259 u260 u261 u262 u263 u264 u265 u266 u267 u268 u269 u270 u271 u272 u273 u274 u275 u276 u277 u278 u279 u280 u281 u282 u283 u284 u285 u286 u287 u288 u289 u290 u291 u292 u293 u294 u295 u296 u297 u298 u299 u300 u301 u302 u303 u304 u305 u306 u307 u308 u309 u310 u311 : Value} {W : World} {K : Act → World → Prop} {Q : Exit → Act → World → Prop} {bp32 : Nat} (Hp32 : IntAt W bp32 (4294967296)) {bseven : Nat} (Hseven : IntAt W bseven (-7))
    (hK : ∀ (v242 v243 v244 v245 v246 v247 v248 v249 v250 v251 v252 v253 v254 v255 v256 v257 v258 v259 v260 v261 v262 v263 v264 v265 v266 v267 v268 v269 v270 v271 v272 v273 v274 v275 v276 v277 v278 v279 v280 v281 v282 v283 v284 v285 v286 v287 v288 v289 v290 v291 v292 v293 v294 v295 v296 v297 v298 v299 v300 v301 v302 v303 v304 v305 v306 v307 v308 v309 v310 v311 : Value) (w' : World), Below W.heap.size W w' → K ⟨#[.bool true, u1, u2, u3, u4, u5, u6, u7, u8, u9, .pointer (some ⟨bp32, 0, none⟩), u11, u12, u13, u14, u15, u16, u17, .pointer (some ⟨bseven, 0, none⟩), u19, u20, u21, .int .i64 (-9223372036854775808), .bool true, u24, .bool true, u26, u27, u28, u29, u30, u31, u32, u33, u34, u35, u36, u37, u38, u39, .bool true, .bool true, u42, u43, u44, u45, u46, u47, u48, u49, u50, u51, u52, u53, u54, u55, u56, u57, u58, u59, u60, u61, u62, u63, u64, u65, u66, u67, u68, u69, u70, u71, u72, u73, u74, u75, u76, u77, u78, u79, u80, u81, u82, u83, u84, u85, u86, u87, u88, u89, u90, u91, u92, u93, u94, u95, u96, u97, u98, u99, u100, u101, u102, u103, u104, u105, u106, u107, u108, u109, u110, u111, u112, u113, u114, u115, u116, u117, u118, u119, u120, u121, u122, u123, u124, u125, u126, u127, u128, u129, u130, u131, u132, u133, u134, u135, u136, u137, u138, u139, u140, u141, u142, u143, u144, u145, u146, u147, u148, u149, u150, u151, u152, u153, u154, u155, u156, u157, u158, u159, u160, u161, u162, u163, u164, u165, u166, u167, u168, u169, u170, u171, u172, u173, u174, u175, u176, u177, u178, u179, u180, u181, u182, u183, u184, u185, u186, u187, u188, u189, u190, u191, u192, u193, u194, u195, u196, u197, u198, u199, u200, u201, u202, u203, u204, u205, u206, u207, u208, u209, u210, u211, u212, u213, u214, u215, u216, u217, u218, u219, u220, u221, u222, u223, u224, u225, u226, u227, u228, u229, u230, u231, u232, u233, u234, u235, u236, u237, u238, u239, u240, u241, v242, v243, v244, v245, v246, v247, v248, v249, v250, v251, v252, v253, v254, v255, v256, v257, v258, v259, v260, v261, v262, v263, v264, v265, v266, v267, v268, v269, v270, v271, v272, v273, v274, v275, v276, v277, v278, v279, v280, v281, v282, v283, v284, v285, v286, v287, v288, v289, v290, v291, v292, v293, v294, v295, v296, v297, v298, v299, v300, v301, v302, v303, v304, v305, v306, v307, v308, v309, v310, v311], []⟩ w') :
    Code.wp Tryd.prog (regionOf 20 Tryd.f9) (Exit.then K Q) ⟨#[u0, u1, u2, u3, u4, u5, u6, u7, u8, u9, .pointer (some ⟨bp32, 0, none⟩), u11, u12, u13, u14, u15, u16, u17, .pointer (some ⟨bseven, 0, none⟩), u19, u20, u21, .int .i64 (-9223372036854775808), .bool true, u24, .bool true, u26, u27, u28, u29, u30, u31, u32, u33, u34, u35, u36, u37, u38, u39, .bool true, .bool true, u42, u43, u44, u45, u46, u47, u48, u49, u50, u51, u52, u53, u54, u55, u56, u57, u58, u59, u60, u61, u62, u63, u64, u65, u66, u67, u68, u69, u70, u71, u72, u73, u74, u75, u76, u77, u78, u79, u80, u81, u82, u83, u84, u85, u86, u87, u88, u89, u90, u91, u92, u93, u94, u95, u96, u97, u98, u99, u100, u101, u102, u103, u104, u105, u106, u107, u108, u109, u110, u111, u112, u113, u114, u115, u116, u117, u118, u119, u120, u121, u122, u123, u124, u125, u126, u127, u128, u129, u130, u131, u132, u133, u134, u135, u136, u137, u138, u139, u140, u141, u142, u143, u144, u145, u146, u147, u148, u149, u150, u151, u152, u153, u154, u155, u156, u157, u158, u159, u160, u161, u162, u163, u164, u165, u166, u167, u168, u169, u170, u171, u172, u173, u174, u175, u176, u177, u178, u179, u180, u181, u182, u183, u184, u185, u186, u187, u188, u189, u190, u191, u192, u193, u194, u195, u196, u197, u198, u199, u200, u201, u202, u203, u204, u205, u206, u207, u208, u209, u210, u211, u212, u213, u214, u215, u216, u217, u218, u219, u220, u221, u222, u223, u224, u225, u226, u227, u228, u229, u230, u231, u232, u233, u234, u235, u236, u237, u238, u239, u240, u241, u242, u243, u244, u245, u246, u247, u248, u249, u250, u251, u252, u253, u254, u255, u256, u257, u258, u259, u260, u261, u262, u263, u264, u265, u266, u267, u268, u269, u270, u271, u272, u273, u274, u275, u276, u277, u278, u279, u280, u281, u282, u283, u284, u285, u286, u287, u288, u289, u290, u291, u292, u293, u294, u295, u296, u297, u298, u299, u300, u301, u302, u303, u304, u305, u306, u307, u308, u309, u310, u311], []⟩ W := by
  conv => arg 2; whnf
  simp only [List.append_eq, List.cons_append, List.nil_append]
  obtain ⟨gp32, Ap32, np32, cp32, Sp32, Ip32⟩ := Hp32
  obtain ⟨gseven, Aseven, nseven, cseven, Sseven, Iseven⟩ := Hseven
  have HS : Hid (∀ V, Below W.heap.size W V → V.cell? ⟨bp32, 0, none⟩ = some (.bool gp32) ∧ V.cell? ⟨bp32, 1, none⟩ = some (.slice Ap32 np32 cp32) ∧ V.cell? ⟨bseven, 0, none⟩ = some (.bool gseven) ∧ V.cell? ⟨bseven, 1, none⟩ = some (.slice Aseven nseven cseven)) := fun V hW => ⟨(Sp32.after hW).1, (Sp32.after hW).2.1, (Sseven.after hW).1, (Sseven.after hW).2.1⟩
  have L5 : IsInt (W.alloc (.cells #[.int .u32 5] 67)).drew true (some ⟨W.heap.size, 0, none⟩) 1 1 (-5) := ⟨(lit5 W).sign, (lit5 W).lim.drew⟩
  have Dc0 : Below W.heap.size W W.drew := (Below.refl _ _).drew
  refine wp_region_seq (.pre [(0, true), (1, true), (2, true), (3, true), (4, true)] (.two 5 (.pre [(6, false), (7, true), (8, false), (9, true), (10, true), (11, true), (12, false), (13, true), (14, false), (15, true), (16, true), (17, true), (18, false), (19, false), (20, true), (21, true), (22, true), (23, true), (24, true), (25, true), (26, true), (27, true), (28, true), (29, true), (30, true)] (.pre [(31, true), (32, false), (33, false), (34, false), (35, false), (36, false), (37, true), (38, true), (39, false), (40, false), (41, false), (42, false), (43, true), (44, true), (45, true), (46, false), (47, false), (48, true), (49, true), (50, true), (51, false), (52, false), (53, true), (54, true), (55, true)] (.pre [(56, false), (57, false), (58, true), (59, true), (60, true), (61, false), (62, true), (63, true), (64, true), (65, false), (66, true), (67, false), (68, true), (69, true), (70, true)] .done))) 6 (.pre [(7, true), (5, false), (8, false), (9, true), (10, true), (11, true), (12, false), (13, true), (14, false), (15, true), (16, true), (17, true), (18, false), (19, false), (20, true), (21, true), (22, true), (23, true), (24, true), (25, true), (26, true), (27, true), (28, true), (29, true), (30, true)] (.pre [(31, true), (32, false), (33, false), (34, false), (35, false), (36, false), (37, true), (38, true), (39, false), (40, false), (41, false), (42, false), (43, true), (44, true), (45, true), (46, false), (47, false), (48, true), (49, true), (50, true), (51, false), (52, false), (53, true), (54, true), (55, true)] (.pre [(56, false), (57, false), (58, true), (59, true), (60, true), (61, false), (62, true), (63, true), (64, true), (65, false), (66, true), (67, false), (68, true), (69, true), (70, true)] .done))))) (fun W => W.cell? ⟨bp32, 0, none⟩ = some (.bool gp32) ∧ W.cell? ⟨bp32, 1, none⟩ = some (.slice Ap32 np32 cp32) ∧ W.cell? ⟨bseven, 0, none⟩ = some (.bool gseven) ∧ W.cell? ⟨bseven, 1, none⟩ = some (.slice Aseven nseven cseven)) (by kernel_rfl) (by kernel_rfl) ?_ (by kernel_rfl) (HS.out _ Dc0) ?_
  · refine chk_pre _ _ _ (by as_aux_lemma => kernel_rfl) ?_
    refine chk_two _ _ _ _ _ (by as_aux_lemma => kernel_rfl) ?_ ?_
    · refine chk_pre _ _ _ (by as_aux_lemma => kernel_rfl) ?_
      refine chk_pre _ _ _ (by as_aux_lemma => kernel_rfl) ?_
      refine chk_pre _ _ _ (by as_aux_lemma => kernel_rfl) ?_
      exact (by as_aux_lemma => kernel_rfl)
    · refine chk_pre _ _ _ (by as_aux_lemma => kernel_rfl) ?_
      refine chk_pre _ _ _ (by as_aux_lemma => kernel_rfl) ?_
      refine chk_pre _ _ _ (by as_aux_lemma => kernel_rfl) ?_
      exact (by as_aux_lemma => kernel_rfl)
  refine seq_take _ ?_ rfl (Or.inl ⟨by rfl, ?_⟩) ?_
  rotate_left
  · (intro w hSw; (try dsimp only at hSw); go_simp; (try with_reducible rfl))
  try simp only [Act.put, List.setIfInBounds_toArray, List.set_cons_zero, List.set_cons_succ]
  refine seq_take _ ?_ rfl (Or.inl ⟨by rfl, ?_⟩) ?_
  rotate_left
  · (intro w hSw; (try dsimp only at hSw); go_simp; (try with_reducible rfl))
  try simp only [Act.put, List.setIfInBounds_toArray, List.set_cons_zero, List.set_cons_succ]
  refine seq_take _ ?_ rfl (Or.inl ⟨by rfl, ?_⟩) ?_
  rotate_left
  · (intro w hSw; (try dsimp only at hSw); go_simp; (try with_reducible rfl))
  try simp only [Act.put, List.setIfInBounds_toArray, List.set_cons_zero, List.set_cons_succ]
  refine seq_take _ ?_ rfl (Or.inl ⟨by rfl, ?_⟩) ?_
  rotate_left
  · (intro w hSw; (try dsimp only at hSw); go_simp; (try with_reducible rfl))
  try simp only [Act.put, List.setIfInBounds_toArray, List.set_cons_zero, List.set_cons_succ]
  refine seq_take _ ?_ rfl (Or.inl ⟨by rfl, ?_⟩) ?_
  rotate_left
  · (intro w hSw; (try dsimp only at hSw); go_simp; (try with_reducible rfl))
  try simp only [Act.put, List.setIfInBounds_toArray, List.set_cons_zero, List.set_cons_succ]
  refine seq_two ?_ ?_
  · as_aux_lemma =>
      refine seq_one _ rfl fun K hK => ?_
      go_simp
      (with_reducible refine (of_any (-5) _ (by decide) (by decide)).mono ?_)
      rintro e vc1 ⟨gc1, Ac1, nc1, cc1, rfl, ic1, bc1⟩
      have Dc1 : Below W.heap.size W vc1 := Below.trans Dc0 (bc1.mono (Below.size Dc0))
      go_wp2_with fail
      refine hK.out _ _ (HS.out _ Dc1) (fun hHeld => ?_)
      clear hK K hHeld
      try simp only [Act.put, List.setIfInBounds_toArray, List.set_cons_zero, List.set_cons_succ]
      refine seq_one _ rfl fun K hK => ?_
      go_simp
      refine hK.out _ _ (HS.out _ (below_alloc Dc1 _)) (fun hHeld => ?_)
      clear hK K hHeld
      try simp only [Act.put, List.setIfInBounds_toArray, List.set_cons_zero, List.set_cons_succ]
      refine seq_take _ ?_ rfl (Or.inl ⟨by rfl, ?_⟩) ?_
      rotate_left
      · (intro w hSw; (try dsimp only at hSw); go_simp; (try with_reducible rfl))
      try simp only [Act.put, List.setIfInBounds_toArray, List.set_cons_zero, List.set_cons_succ]
      refine seq_one _ rfl fun K hK => ?_
      go_simp
      (with_reducible refine (same_true gc1 true Ac1 _ nc1 cc1 1 1 (-5) _ (ic1.below (below_new _ _)) (lit5 _)).mono ?_)
      rintro e vc2 ⟨rfl, bc2⟩
      have Dc2 : Below W.heap.size W vc2 := Below.trans (below_alloc Dc1 _) (bc2.mono (Below.size (below_alloc Dc1 _)))
      go_wp2_with fail
      refine hK.out _ _ (HS.out _ Dc2) (fun hHeld => ?_)
      clear hK K hHeld
      try simp only [Act.put, List.setIfInBounds_toArray, List.set_cons_zero, List.set_cons_succ]
      refine seq_take _ ?_ rfl (Or.inl ⟨by rfl, ?_⟩) ?_
      rotate_left
      · (intro w hSw; (try dsimp only at hSw); go_simp; (try with_reducible rfl))
      try simp only [Act.put, List.setIfInBounds_toArray, List.set_cons_zero, List.set_cons_succ]
      refine seq_take _ ?_ rfl (Or.inl ⟨by rfl, ?_⟩) ?_
      rotate_left
      · (intro w hSw; (try dsimp only at hSw); go_simp; (try with_reducible rfl))
      try simp only [Act.put, List.setIfInBounds_toArray, List.set_cons_zero, List.set_cons_succ]
      refine seq_take _ ?_ rfl (Or.inl ⟨by rfl, ?_⟩) ?_
      rotate_left
      · (intro w hSw; (try dsimp only at hSw); go_simp; (try with_reducible rfl))
      try simp only [Act.put, List.setIfInBounds_toArray, List.set_cons_zero, List.set_cons_succ]
      refine seq_one _ rfl fun K hK => ?_
      go_simp
      refine hK.out _ _ (HS.out _ (below_alloc Dc2 _)) (fun hHeld => ?_)
      clear hK K hHeld
      try simp only [Act.put, List.setIfInBounds_toArray, List.set_cons_zero, List.set_cons_succ]
      refine seq_take _ ?_ rfl (Or.inl ⟨by rfl, ?_⟩) ?_
      rotate_left
      · (intro w hSw; (try dsimp only at hSw); go_simp; (try with_reducible rfl))
      try simp only [Act.put, List.setIfInBounds_toArray, List.set_cons_zero, List.set_cons_succ]
      refine seq_one _ rfl fun K hK => ?_
      go_simp
      (with_reducible refine (same_true gp32 false Ap32 _ np32 cp32 2 2 4294967296 _ (Ip32.below (below_alloc Dc2 _)) (lit01 _)).mono ?_)
      rintro e vc3 ⟨rfl, bc3⟩
      have Dc3 : Below W.heap.size W vc3 := Below.trans (below_alloc Dc2 _) (bc3.mono (Below.size (below_alloc Dc2 _)))
      go_wp2_with fail
      refine hK.out _ _ (HS.out _ Dc3) (fun hHeld => ?_)
      clear hK K hHeld
      try simp only [Act.put, List.setIfInBounds_toArray, List.set_cons_zero, List.set_cons_succ]
      refine seq_take _ ?_ rfl (Or.inl ⟨by rfl, ?_⟩) ?_
      rotate_left
      · (intro w hSw; (try dsimp only at hSw); go_simp; (try with_reducible rfl))
      try simp only [Act.put, List.setIfInBounds_toArray, List.set_cons_zero, List.set_cons_succ]
      refine seq_take _ ?_ rfl (Or.inl ⟨by rfl, ?_⟩) ?_
      rotate_left
      · (intro w hSw; (try dsimp only at hSw); go_simp; (try with_reducible rfl))
      try simp only [Act.put, List.setIfInBounds_toArray, List.set_cons_zero, List.set_cons_succ]
      refine seq_take _ ?_ rfl (Or.inl ⟨by rfl, ?_⟩) ?_
      rotate_left
      · (intro w hSw; (try dsimp only at hSw); go_simp; (try with_reducible rfl))
      try simp only [Act.put, List.setIfInBounds_toArray, List.set_cons_zero, List.set_cons_succ]
      refine seq_one _ rfl fun K hK => ?_
      go_simp
      (with_reducible refine (rof_any (-7) _ (by decide) (by decide)).mono ?_)
      rintro e vc4 ⟨gc4, Ac4, nc4, cc4, rfl, ic4, bc4⟩
      have Dc4 : Below W.heap.size W vc4 := Below.trans Dc3 (bc4.mono (Below.size Dc3))
      go_wp2_with fail
      refine hK.out _ _ (HS.out _ Dc4) (fun hHeld => ?_)
      clear hK K hHeld
      try simp only [Act.put, List.setIfInBounds_toArray, List.set_cons_zero, List.set_cons_succ]
      refine seq_one _ rfl fun K hK => ?_
      go_simp
      (with_reducible refine (same_true gseven gc4 Aseven Ac4 nseven cseven nc4 cc4 _ _ (Iseven.below Dc4) ic4).mono ?_)
      rintro e vc5 ⟨rfl, bc5⟩
      have Dc5 : Below W.heap.size W vc5 := Below.trans Dc4 (bc5.mono (Below.size Dc4))
      go_wp2_with fail
      refine hK.out _ _ (HS.out _ Dc5) (fun hHeld => ?_)
      clear hK K hHeld
      try simp only [Act.put, List.setIfInBounds_toArray, List.set_cons_zero, List.set_cons_succ]
      refine seq_take _ ?_ rfl (Or.inl ⟨by rfl, ?_⟩) ?_
      rotate_left
      · (intro w hSw; (try dsimp only at hSw); go_simp; (try with_reducible rfl))
      try simp only [Act.put, List.setIfInBounds_toArray, List.set_cons_zero, List.set_cons_succ]
      as_aux_lemma =>
        refine seq_take _ ?_ rfl (Or.inl ⟨by rfl, ?_⟩) ?_
        rotate_left
        · (intro w hSw; (try dsimp only at hSw); go_simp; (try with_reducible rfl))
        try simp only [Act.put, List.setIfInBounds_toArray, List.set_cons_zero, List.set_cons_succ]
        refine seq_take _ ?_ rfl (Or.inl ⟨by rfl, ?_⟩) ?_
        rotate_left
        · (intro w hSw; (try dsimp only at hSw); go_simp; (try with_reducible rfl))
        try simp only [Act.put, List.setIfInBounds_toArray, List.set_cons_zero, List.set_cons_succ]
        refine seq_take _ ?_ rfl (Or.inl ⟨by rfl, ?_⟩) ?_
        rotate_left
        · (intro w hSw; (try dsimp only at hSw); go_simp; (try with_reducible rfl))
        try simp only [Act.put, List.setIfInBounds_toArray, List.set_cons_zero, List.set_cons_succ]
        refine seq_take _ ?_ rfl (Or.inl ⟨by rfl, ?_⟩) ?_
        rotate_left
        · (intro w hSw; (try dsimp only at hSw); go_simp; (try with_reducible rfl))
        try simp only [Act.put, List.setIfInBounds_toArray, List.set_cons_zero, List.set_cons_succ]
        refine seq_take _ ?_ rfl (Or.inl ⟨by rfl, ?_⟩) ?_
        rotate_left
        · (intro w hSw; (try dsimp only at hSw); go_simp; (try with_reducible rfl))
        try simp only [Act.put, List.setIfInBounds_toArray, List.set_cons_zero, List.set_cons_succ]
        refine seq_take _ ?_ rfl (Or.inl ⟨by rfl, ?_⟩) ?_
        rotate_left
        · (intro w hSw; (try dsimp only at hSw); go_simp; (try with_reducible rfl))
        try simp only [Act.put, List.setIfInBounds_toArray, List.set_cons_zero, List.set_cons_succ]
        refine seq_take _ ?_ rfl (Or.inl ⟨by rfl, ?_⟩) ?_
        rotate_left
        · (intro w hSw; (try dsimp only at hSw); go_simp; (try with_reducible rfl))
        try simp only [Act.put, List.setIfInBounds_toArray, List.set_cons_zero, List.set_cons_succ]
        refine seq_take _ ?_ rfl (Or.inl ⟨by rfl, ?_⟩) ?_
        rotate_left
        · (intro w hSw; (try dsimp only at hSw); go_simp; (try with_reducible rfl))
        try simp only [Act.put, List.setIfInBounds_toArray, List.set_cons_zero, List.set_cons_succ]
        refine seq_take _ ?_ rfl (Or.inl ⟨by rfl, ?_⟩) ?_
        rotate_left
        · (intro w hSw; (try dsimp only at hSw); go_simp; (try with_reducible rfl))
        try simp only [Act.put, List.setIfInBounds_toArray, List.set_cons_zero, List.set_cons_succ]
        refine seq_take _ ?_ rfl (Or.inl ⟨by rfl, ?_⟩) ?_
        rotate_left
        · (intro w hSw; (try dsimp only at hSw); go_simp; (try with_reducible rfl))
        try simp only [Act.put, List.setIfInBounds_toArray, List.set_cons_zero, List.set_cons_succ]
        refine seq_take _ ?_ rfl (Or.inl ⟨by rfl, ?_⟩) ?_
        rotate_left
        · (intro w hSw; (try dsimp only at hSw); go_simp; (try with_reducible rfl))
        try simp only [Act.put, List.setIfInBounds_toArray, List.set_cons_zero, List.set_cons_succ]
        refine seq_one _ rfl fun K hK => ?_
        go_simp
        (with_reducible refine (of_any (-12) _ (by decide) (by decide)).mono ?_)
        rintro e vc6 ⟨gc6, Ac6, nc6, cc6, rfl, ic6, bc6⟩
        have Dc6 : Below W.heap.size W vc6 := Below.trans Dc5 (bc6.mono (Below.size Dc5))
        go_wp2_with fail
        refine hK.out _ _ (HS.out _ Dc6) (fun hHeld => ?_)
        clear hK K hHeld
        try simp only [Act.put, List.setIfInBounds_toArray, List.set_cons_zero, List.set_cons_succ]
        refine seq_one _ rfl fun K hK => ?_
        go_simp
        (with_reducible refine (of_any (18) _ (by decide) (by decide)).mono ?_)
        rintro e vc7 ⟨gc7, Ac7, nc7, cc7, rfl, ic7, bc7⟩
        have Dc7 : Below W.heap.size W vc7 := Below.trans Dc6 (bc7.mono (Below.size Dc6))
        go_wp2_with fail
        refine hK.out _ _ (HS.out _ Dc7) (fun hHeld => ?_)
        clear hK K hHeld
        try simp only [Act.put, List.setIfInBounds_toArray, List.set_cons_zero, List.set_cons_succ]
        refine seq_one _ rfl fun K hK => ?_
        go_simp
        (with_reducible refine (gcd6 gc6 gc7 Ac6 Ac7 nc6 cc6 nc7 cc7 _ (ic6.below bc7) ic7).mono ?_)
        rintro e vc8 ⟨gc8, Ac8, nc8, cc8, rfl, ic8, bc8⟩
        have Dc8 : Below W.heap.size W vc8 := Below.trans Dc7 (bc8.mono (Below.size Dc7))
        go_wp2_with fail
        refine hK.out _ _ (HS.out _ Dc8) (fun hHeld => ?_)
        clear hK K hHeld
        try simp only [Act.put, List.setIfInBounds_toArray, List.set_cons_zero, List.set_cons_succ]
        refine seq_one _ rfl fun K hK => ?_
        go_simp
        (with_reducible refine (rof_any (6) _ (by decide) (by decide)).mono ?_)
        rintro e vc9 ⟨gc9, Ac9, nc9, cc9, rfl, ic9, bc9⟩
        have Dc9 : Below W.heap.size W vc9 := Below.trans Dc8 (bc9.mono (Below.size Dc8))
        go_wp2_with fail
        refine hK.out _ _ (HS.out _ Dc9) (fun hHeld => ?_)
        clear hK K hHeld
        try simp only [Act.put, List.setIfInBounds_toArray, List.set_cons_zero, List.set_cons_succ]
        refine seq_one _ rfl fun K hK => ?_
        go_simp
        (with_reducible refine (same_true gc8 gc9 Ac8 Ac9 nc8 cc8 nc9 cc9 6 _ (ic8.below bc9) ic9).mono ?_)
        rintro e vc10 ⟨rfl, bc10⟩
        have Dc10 : Below W.heap.size W vc10 := Below.trans Dc9 (bc10.mono (Below.size Dc9))
        go_wp2_with fail
        refine hK.out _ _ (HS.out _ Dc10) (fun hHeld => ?_)
        clear hK K hHeld
        try simp only [Act.put, List.setIfInBounds_toArray, List.set_cons_zero, List.set_cons_succ]
        refine seq_take _ ?_ rfl (Or.inl ⟨by rfl, ?_⟩) ?_
        rotate_left
        · (intro w hSw; (try dsimp only at hSw); go_simp; (try with_reducible rfl))
        try simp only [Act.put, List.setIfInBounds_toArray, List.set_cons_zero, List.set_cons_succ]
        as_aux_lemma =>
          refine seq_take _ ?_ rfl (Or.inl ⟨by rfl, ?_⟩) ?_
          rotate_left
          · (intro w hSw; (try dsimp only at hSw); go_simp; (try with_reducible rfl))
          try simp only [Act.put, List.setIfInBounds_toArray, List.set_cons_zero, List.set_cons_succ]
          refine seq_one _ rfl fun K hK => ?_
          go_simp
          (with_reducible refine (of_any (0) _ (by decide) (by decide)).mono ?_)
          rintro e vc11 ⟨gc11, Ac11, nc11, cc11, rfl, ic11, bc11⟩
          have Dc11 : Below W.heap.size W vc11 := Below.trans Dc10 (bc11.mono (Below.size Dc10))
          go_wp2_with fail
          refine hK.out _ _ (HS.out _ Dc11) (fun hHeld => ?_)
          clear hK K hHeld
          try simp only [Act.put, List.setIfInBounds_toArray, List.set_cons_zero, List.set_cons_succ]
          refine seq_one _ rfl fun K hK => ?_
          go_simp
          (with_reducible refine (of_any (0) _ (by decide) (by decide)).mono ?_)
          rintro e vc12 ⟨gc12, Ac12, nc12, cc12, rfl, ic12, bc12⟩
          have Dc12 : Below W.heap.size W vc12 := Below.trans Dc11 (bc12.mono (Below.size Dc11))
          go_wp2_with fail
          refine hK.out _ _ (HS.out _ Dc12) (fun hHeld => ?_)
          clear hK K hHeld
          try simp only [Act.put, List.setIfInBounds_toArray, List.set_cons_zero, List.set_cons_succ]
          refine seq_one _ rfl fun K hK => ?_
          go_simp
          (with_reducible refine (gcd00 gc11 gc12 Ac11 Ac12 nc11 cc11 nc12 cc12 _ (ic11.below bc12) ic12).mono ?_)
          rintro e vc13 ⟨gc13, Ac13, nc13, cc13, rfl, ic13, bc13⟩
          have Dc13 : Below W.heap.size W vc13 := Below.trans Dc12 (bc13.mono (Below.size Dc12))
          go_wp2_with fail
          refine hK.out _ _ (HS.out _ Dc13) (fun hHeld => ?_)
          clear hK K hHeld
          try simp only [Act.put, List.setIfInBounds_toArray, List.set_cons_zero, List.set_cons_succ]
          refine seq_one _ rfl fun K hK => ?_
          go_simp
          (with_reducible refine (sign0 gc13 Ac13 nc13 cc13 _ ic13).mono ?_)
          rintro e vc14 ⟨rfl, bc14⟩
          have Dc14 : Below W.heap.size W vc14 := Below.trans Dc13 (bc14.mono (Below.size Dc13))
          go_wp2_with fail
          refine hK.out _ _ (HS.out _ Dc14) (fun hHeld => ?_)
          clear hK K hHeld
          try simp only [Act.put, List.setIfInBounds_toArray, List.set_cons_zero, List.set_cons_succ]
          refine seq_take _ ?_ rfl (Or.inl ⟨by rfl, ?_⟩) ?_
          rotate_left
          · (intro w hSw; (try dsimp only at hSw); go_simp; (try with_reducible rfl))
          try simp only [Act.put, List.setIfInBounds_toArray, List.set_cons_zero, List.set_cons_succ]
          refine seq_take _ ?_ rfl (Or.inl ⟨by rfl, ?_⟩) ?_
          rotate_left
          · (intro w hSw; (try dsimp only at hSw); go_simp; (try with_reducible rfl))
          try simp only [Act.put, List.setIfInBounds_toArray, List.set_cons_zero, List.set_cons_succ]
          refine seq_take _ ?_ rfl (Or.inl ⟨by rfl, ?_⟩) ?_
          rotate_left
          · (intro w hSw; (try dsimp only at hSw); go_simp; (try with_reducible rfl))
          try simp only [Act.put, List.setIfInBounds_toArray, List.set_cons_zero, List.set_cons_succ]
          refine seq_one _ rfl fun K hK => ?_
          go_simp
          (with_reducible refine (of_any (-120) _ (by decide) (by decide)).mono ?_)
          rintro e vc15 ⟨gc15, Ac15, nc15, cc15, rfl, ic15, bc15⟩
          have Dc15 : Below W.heap.size W vc15 := Below.trans Dc14 (bc15.mono (Below.size Dc14))
          go_wp2_with fail
          refine hK.out _ _ (HS.out _ Dc15) (fun hHeld => ?_)
          clear hK K hHeld
          try simp only [Act.put, List.setIfInBounds_toArray, List.set_cons_zero, List.set_cons_succ]
          refine seq_one _ rfl fun K hK => ?_
          go_simp
          (with_reducible refine (text120 gc15 Ac15 nc15 cc15 _ ic15).mono ?_)
          rintro e vc16 ⟨rfl, bc16⟩
          have Dc16 : Below W.heap.size W vc16 := Below.trans Dc15 (bc16.mono (Below.size Dc15))
          go_wp2_with fail
          refine hK.out _ _ (HS.out _ Dc16) (fun hHeld => ?_)
          clear hK K hHeld
          try simp only [Act.put, List.setIfInBounds_toArray, List.set_cons_zero, List.set_cons_succ]
          refine seq_take _ ?_ rfl (Or.inl ⟨by rfl, ?_⟩) ?_
          rotate_left
          · (intro w hSw; (try dsimp only at hSw); go_simp; (try with_reducible rfl))
          try simp only [Act.put, List.setIfInBounds_toArray, List.set_cons_zero, List.set_cons_succ]
          refine seq_take _ ?_ rfl (Or.inl ⟨by rfl, ?_⟩) ?_
          rotate_left
          · (intro w hSw; (try dsimp only at hSw); go_simp; (try with_reducible rfl))
          try simp only [Act.put, List.setIfInBounds_toArray, List.set_cons_zero, List.set_cons_succ]
          refine seq_take _ ?_ rfl (Or.inl ⟨by rfl, ?_⟩) ?_
          rotate_left
          · (intro w hSw; (try dsimp only at hSw); go_simp; (try with_reducible rfl))
          try simp only [Act.put, List.setIfInBounds_toArray, List.set_cons_zero, List.set_cons_succ]
          refine seq_one _ rfl fun K hK => ?_
          go_simp
          (with_reducible refine (of_any (0) _ (by decide) (by decide)).mono ?_)
          rintro e vc17 ⟨gc17, Ac17, nc17, cc17, rfl, ic17, bc17⟩
          have Dc17 : Below W.heap.size W vc17 := Below.trans Dc16 (bc17.mono (Below.size Dc16))
          go_wp2_with fail
          refine hK.out _ _ (HS.out _ Dc17) (fun hHeld => ?_)
          clear hK K hHeld
          try simp only [Act.put, List.setIfInBounds_toArray, List.set_cons_zero, List.set_cons_succ]
          refine seq_one _ rfl fun K hK => ?_
          go_simp
          (with_reducible refine (text0 gc17 Ac17 nc17 cc17 _ ic17).mono ?_)
          rintro e vc18 ⟨rfl, bc18⟩
          have Dc18 : Below W.heap.size W vc18 := Below.trans Dc17 (bc18.mono (Below.size Dc17))
          go_wp2_with fail
          refine hK.out _ _ (HS.out _ Dc18) (fun hHeld => ?_)
          clear hK K hHeld
          try simp only [Act.put, List.setIfInBounds_toArray, List.set_cons_zero, List.set_cons_succ]
          refine seq_take _ ?_ rfl (Or.inl ⟨by rfl, ?_⟩) ?_
          rotate_left
          · (intro w hSw; (try dsimp only at hSw); go_simp; (try with_reducible rfl))
          try simp only [Act.put, List.setIfInBounds_toArray, List.set_cons_zero, List.set_cons_succ]
          refine seq_take _ ?_ rfl (Or.inl ⟨by rfl, ?_⟩) ?_
          rotate_left
          · (intro w hSw; (try dsimp only at hSw); go_simp; (try with_reducible rfl))
          try simp only [Act.put, List.setIfInBounds_toArray, List.set_cons_zero, List.set_cons_succ]
          as_aux_lemma =>
            refine seq_take _ ?_ rfl (Or.inl ⟨by rfl, ?_⟩) ?_
            rotate_left
            · (intro w hSw; (try dsimp only at hSw); go_simp; (try with_reducible rfl))
            try simp only [Act.put, List.setIfInBounds_toArray, List.set_cons_zero, List.set_cons_succ]
            refine seq_one _ rfl fun K hK => ?_
            go_simp
            (with_reducible refine (of_any (0) _ (by decide) (by decide)).mono ?_)
            rintro e vc19 ⟨gc19, Ac19, nc19, cc19, rfl, ic19, bc19⟩
            have Dc19 : Below W.heap.size W vc19 := Below.trans Dc18 (bc19.mono (Below.size Dc18))
            go_wp2_with fail
            refine hK.out _ _ (HS.out _ Dc19) (fun hHeld => ?_)
            clear hK K hHeld
            try simp only [Act.put, List.setIfInBounds_toArray, List.set_cons_zero, List.set_cons_succ]
            refine seq_one _ rfl fun K hK => ?_
            go_simp
            (with_reducible refine (valid0 gc19 Ac19 nc19 cc19 _ ic19).mono ?_)
            rintro e vc20 ⟨rfl, bc20⟩
            have Dc20 : Below W.heap.size W vc20 := Below.trans Dc19 (bc20.mono (Below.size Dc19))
            go_wp2_with fail
            refine hK.out _ _ (HS.out _ Dc20) (fun hHeld => ?_)
            clear hK K hHeld
            try simp only [Act.put, List.setIfInBounds_toArray, List.set_cons_zero, List.set_cons_succ]
            refine seq_take _ ?_ rfl (Or.inl ⟨by rfl, ?_⟩) ?_
            rotate_left
            · (intro w hSw; (try dsimp only at hSw); go_simp; (try with_reducible rfl))
            try simp only [Act.put, List.setIfInBounds_toArray, List.set_cons_zero, List.set_cons_succ]
            refine seq_take _ ?_ rfl (Or.inl ⟨by rfl, ?_⟩) ?_
            rotate_left
            · (intro w hSw; (try dsimp only at hSw); go_simp; (try with_reducible rfl))
            try simp only [Act.put, List.setIfInBounds_toArray, List.set_cons_zero, List.set_cons_succ]
            refine seq_take _ ?_ rfl (Or.inl ⟨by rfl, ?_⟩) ?_
            rotate_left
            · (intro w hSw; (try dsimp only at hSw); go_simp; (try with_reducible rfl))
            try simp only [Act.put, List.setIfInBounds_toArray, List.set_cons_zero, List.set_cons_succ]
            refine seq_one _ rfl fun K hK => ?_
            go_simp
            (with_reducible refine (validN _).mono ?_)
            rintro e vc21 ⟨rfl, bc21⟩
            have Dc21 : Below W.heap.size W vc21 := Below.trans Dc20 (bc21.mono (Below.size Dc20))
            go_wp2_with fail
            refine hK.out _ _ (HS.out _ Dc21) (fun hHeld => ?_)
            clear hK K hHeld
            try simp only [Act.put, List.setIfInBounds_toArray, List.set_cons_zero, List.set_cons_succ]
            refine seq_take _ ?_ rfl (Or.inl ⟨by rfl, ?_⟩) ?_
            rotate_left
            · (intro w hSw; (try dsimp only at hSw); go_simp; (try with_reducible rfl))
            try simp only [Act.put, List.setIfInBounds_toArray, List.set_cons_zero, List.set_cons_succ]
            refine seq_take _ ?_ rfl (Or.inl ⟨by rfl, ?_⟩) ?_
            rotate_left
            · (intro w hSw; (try dsimp only at hSw); go_simp; (try with_reducible rfl))
            try simp only [Act.put, List.setIfInBounds_toArray, List.set_cons_zero, List.set_cons_succ]
            refine seq_take _ ?_ rfl (Or.inl ⟨by rfl, ?_⟩) ?_
            rotate_left
            · (intro w hSw; (try dsimp only at hSw); go_simp; (try with_reducible rfl))
            try simp only [Act.put, List.setIfInBounds_toArray, List.set_cons_zero, List.set_cons_succ]
            refine seq_one _ rfl fun K hK => ?_
            go_simp
            refine hK.out _ _ (HS.out _ (below_alloc Dc21 _)) (fun hHeld => ?_)
            clear hK K hHeld
            try simp only [Act.put, List.setIfInBounds_toArray, List.set_cons_zero, List.set_cons_succ]
            refine seq_take _ ?_ rfl (Or.inl ⟨by rfl, ?_⟩) ?_
            rotate_left
            · (intro w hSw; (try dsimp only at hSw); go_simp; (try with_reducible rfl))
            try simp only [Act.put, List.setIfInBounds_toArray, List.set_cons_zero, List.set_cons_succ]
            refine seq_one _ rfl fun K hK => ?_
            go_simp
            (with_reducible refine (validZ _ _ (lit0 _)).mono ?_)
            rintro e vc22 ⟨rfl, bc22⟩
            have Dc22 : Below W.heap.size W vc22 := Below.trans (below_alloc Dc21 _) (bc22.mono (Below.size (below_alloc Dc21 _)))
            go_wp2_with fail
            refine hK.out _ _ (HS.out _ Dc22) (fun hHeld => ?_)
            clear hK K hHeld
            try simp only [Act.put, List.setIfInBounds_toArray, List.set_cons_zero, List.set_cons_succ]
            refine seq_take _ ?_ rfl (Or.inl ⟨by rfl, ?_⟩) ?_
            rotate_left
            · (intro w hSw; (try dsimp only at hSw); go_simp; (try with_reducible rfl))
            try simp only [Act.put, List.setIfInBounds_toArray, List.set_cons_zero, List.set_cons_succ]
            refine seq_take _ ?_ rfl (Or.inl ⟨by rfl, ?_⟩) ?_
            rotate_left
            · (intro w hSw; (try dsimp only at hSw); go_simp; (try with_reducible rfl))
            try simp only [Act.put, List.setIfInBounds_toArray, List.set_cons_zero, List.set_cons_succ]
            refine seq_take _ ?_ rfl (Or.inl ⟨by rfl, ?_⟩) ?_
            rotate_left
            · (intro w hSw; (try dsimp only at hSw); go_simp; (try with_reducible rfl))
            try simp only [Act.put, List.setIfInBounds_toArray, List.set_cons_zero]
            refine NoPanic.normal ?_
            exact hK _ _ _ _ _ _ _ _ _ _ _ _ _ _ _ _ _ _ _ _ _ _ _ _ _ _ _ _ _ _ _ _ _ _ _ _ _ _ _ _ _ _ _ _ _ _ _ _ _ _ _ _ _ _ _ _ _ _ _ _ _ _ _ _ _ _ _ _ _ _ _ Dc22
  · as_aux_lemma =>
      refine seq_one _ rfl fun K hK => ?_
      go_simp
      refine hK.out _ _ (HS.out _ (below_alloc (Below.refl _ _) _).drew) (fun hHeld => ?_)
      clear hK K hHeld
      try simp only [Act.put, List.setIfInBounds_toArray, List.set_cons_zero, List.set_cons_succ]
      refine seq_take _ ?_ rfl (Or.inl ⟨by rfl, ?_⟩) ?_
      rotate_left
      · (intro w hSw; (try dsimp only at hSw); go_simp; (try with_reducible rfl))
      try simp only [Act.put, List.setIfInBounds_toArray, List.set_cons_zero, List.set_cons_succ]
      refine seq_one _ rfl fun K hK => ?_
      go_simp
      (with_reducible refine (of_any (-5) _ (by decide) (by decide)).mono ?_)
      rintro e vc1 ⟨gc1, Ac1, nc1, cc1, rfl, ic1, bc1⟩
      have Dc1 : Below W.heap.size W vc1 := Below.trans (below_alloc (Below.refl _ _) _).drew (bc1.mono (Below.size (below_alloc (Below.refl _ _) _).drew))
      go_wp2_with fail
      refine hK.out _ _ (HS.out _ Dc1) (fun hHeld => ?_)
      clear hK K hHeld
      try simp only [Act.put, List.setIfInBounds_toArray, List.set_cons_zero, List.set_cons_succ]
      refine seq_one _ rfl fun K hK => ?_
      go_simp
      (with_reducible refine (same_true gc1 true Ac1 _ nc1 cc1 1 1 (-5) _ ic1 (L5.below bc1)).mono ?_)
      rintro e vc2 ⟨rfl, bc2⟩
      have Dc2 : Below W.heap.size W vc2 := Below.trans Dc1 (bc2.mono (Below.size Dc1))
      go_wp2_with fail
      refine hK.out _ _ (HS.out _ Dc2) (fun hHeld => ?_)
      clear hK K hHeld
      try simp only [Act.put, List.setIfInBounds_toArray, List.set_cons_zero, List.set_cons_succ]
      refine seq_take _ ?_ rfl (Or.inl ⟨by rfl, ?_⟩) ?_
      rotate_left
      · (intro w hSw; (try dsimp only at hSw); go_simp; (try with_reducible rfl))
      try simp only [Act.put, List.setIfInBounds_toArray, List.set_cons_zero, List.set_cons_succ]
      refine seq_take _ ?_ rfl (Or.inl ⟨by rfl, ?_⟩) ?_
      rotate_left
      · (intro w hSw; (try dsimp only at hSw); go_simp; (try with_reducible rfl))
      try simp only [Act.put, List.setIfInBounds_toArray, List.set_cons_zero, List.set_cons_succ]
      refine seq_take _ ?_ rfl (Or.inl ⟨by rfl, ?_⟩) ?_
      rotate_left
      · (intro w hSw; (try dsimp only at hSw); go_simp; (try with_reducible rfl))
      try simp only [Act.put, List.setIfInBounds_toArray, List.set_cons_zero, List.set_cons_succ]
      refine seq_one _ rfl fun K hK => ?_
      go_simp
      refine hK.out _ _ (HS.out _ (below_alloc Dc2 _)) (fun hHeld => ?_)
      clear hK K hHeld
      try simp only [Act.put, List.setIfInBounds_toArray, List.set_cons_zero, List.set_cons_succ]
      refine seq_take _ ?_ rfl (Or.inl ⟨by rfl, ?_⟩) ?_
      rotate_left
      · (intro w hSw; (try dsimp only at hSw); go_simp; (try with_reducible rfl))
      try simp only [Act.put, List.setIfInBounds_toArray, List.set_cons_zero, List.set_cons_succ]
      refine seq_one _ rfl fun K hK => ?_
      go_simp
      (with_reducible refine (same_true gp32 false Ap32 _ np32 cp32 2 2 4294967296 _ (Ip32.below (below_alloc Dc2 _)) (lit01 _)).mono ?_)
      rintro e vc3 ⟨rfl, bc3⟩
      have Dc3 : Below W.heap.size W vc3 := Below.trans (below_alloc Dc2 _) (bc3.mono (Below.size (below_alloc Dc2 _)))
      go_wp2_with fail
      refine hK.out _ _ (HS.out _ Dc3) (fun hHeld => ?_)
      clear hK K hHeld
      try simp only [Act.put, List.setIfInBounds_toArray, List.set_cons_zero, List.set_cons_succ]
      refine seq_take _ ?_ rfl (Or.inl ⟨by rfl, ?_⟩) ?_
      rotate_left
      · (intro w hSw; (try dsimp only at hSw); go_simp; (try with_reducible rfl))
      try simp only [Act.put, List.setIfInBounds_toArray, List.set_cons_zero, List.set_cons_succ]
      refine seq_take _ ?_ rfl (Or.inl ⟨by rfl, ?_⟩) ?_
      rotate_left
      · (intro w hSw; (try dsimp only at hSw); go_simp; (try with_reducible rfl))
      try simp only [Act.put, List.setIfInBounds_toArray, List.set_cons_zero, List.set_cons_succ]
      refine seq_take _ ?_ rfl (Or.inl ⟨by rfl, ?_⟩) ?_
      rotate_left
      · (intro w hSw; (try dsimp only at hSw); go_simp; (try with_reducible rfl))
      try simp only [Act.put, List.setIfInBounds_toArray, List.set_cons_zero, List.set_cons_succ]
      refine seq_one _ rfl fun K hK => ?_
      go_simp
      (with_reducible refine (rof_any (-7) _ (by decide) (by decide)).mono ?_)
      rintro e vc4 ⟨gc4, Ac4, nc4, cc4, rfl, ic4, bc4⟩
      have Dc4 : Below W.heap.size W vc4 := Below.trans Dc3 (bc4.mono (Below.size Dc3))
      go_wp2_with fail
      refine hK.out _ _ (HS.out _ Dc4) (fun hHeld => ?_)
      clear hK K hHeld
      try simp only [Act.put, List.setIfInBounds_toArray, List.set_cons_zero, List.set_cons_succ]
      refine seq_one _ rfl fun K hK => ?_
      go_simp
      (with_reducible refine (same_true gseven gc4 Aseven Ac4 nseven cseven nc4 cc4 _ _ (Iseven.below Dc4) ic4).mono ?_)
      rintro e vc5 ⟨rfl, bc5⟩
      have Dc5 : Below W.heap.size W vc5 := Below.trans Dc4 (bc5.mono (Below.size Dc4))
      go_wp2_with fail
      refine hK.out _ _ (HS.out _ Dc5) (fun hHeld => ?_)
      clear hK K hHeld
      try simp only [Act.put, List.setIfInBounds_toArray, List.set_cons_zero, List.set_cons_succ]
      refine seq_take _ ?_ rfl (Or.inl ⟨by rfl, ?_⟩) ?_
      rotate_left
      · (intro w hSw; (try dsimp only at hSw); go_simp; (try with_reducible rfl))
      try simp only [Act.put, List.setIfInBounds_toArray, List.set_cons_zero, List.set_cons_succ]
      as_aux_lemma =>
        refine seq_take _ ?_ rfl (Or.inl ⟨by rfl, ?_⟩) ?_
        rotate_left
        · (intro w hSw; (try dsimp only at hSw); go_simp; (try with_reducible rfl))
        try simp only [Act.put, List.setIfInBounds_toArray, List.set_cons_zero, List.set_cons_succ]
        refine seq_take _ ?_ rfl (Or.inl ⟨by rfl, ?_⟩) ?_
        rotate_left
        · (intro w hSw; (try dsimp only at hSw); go_simp; (try with_reducible rfl))
        try simp only [Act.put, List.setIfInBounds_toArray, List.set_cons_zero, List.set_cons_succ]
        refine seq_take _ ?_ rfl (Or.inl ⟨by rfl, ?_⟩) ?_
        rotate_left
        · (intro w hSw; (try dsimp only at hSw); go_simp; (try with_reducible rfl))
        try simp only [Act.put, List.setIfInBounds_toArray, List.set_cons_zero, List.set_cons_succ]
        refine seq_take _ ?_ rfl (Or.inl ⟨by rfl, ?_⟩) ?_
        rotate_left
        · (intro w hSw; (try dsimp only at hSw); go_simp; (try with_reducible rfl))
        try simp only [Act.put, List.setIfInBounds_toArray, List.set_cons_zero, List.set_cons_succ]
        refine seq_take _ ?_ rfl (Or.inl ⟨by rfl, ?_⟩) ?_
        rotate_left
        · (intro w hSw; (try dsimp only at hSw); go_simp; (try with_reducible rfl))
        try simp only [Act.put, List.setIfInBounds_toArray, List.set_cons_zero, List.set_cons_succ]
        refine seq_take _ ?_ rfl (Or.inl ⟨by rfl, ?_⟩) ?_
        rotate_left
        · (intro w hSw; (try dsimp only at hSw); go_simp; (try with_reducible rfl))
        try simp only [Act.put, List.setIfInBounds_toArray, List.set_cons_zero, List.set_cons_succ]
        refine seq_take _ ?_ rfl (Or.inl ⟨by rfl, ?_⟩) ?_
        rotate_left
        · (intro w hSw; (try dsimp only at hSw); go_simp; (try with_reducible rfl))
        try simp only [Act.put, List.setIfInBounds_toArray, List.set_cons_zero, List.set_cons_succ]
        refine seq_take _ ?_ rfl (Or.inl ⟨by rfl, ?_⟩) ?_
        rotate_left
        · (intro w hSw; (try dsimp only at hSw); go_simp; (try with_reducible rfl))
        try simp only [Act.put, List.setIfInBounds_toArray, List.set_cons_zero, List.set_cons_succ]
        refine seq_take _ ?_ rfl (Or.inl ⟨by rfl, ?_⟩) ?_
        rotate_left
        · (intro w hSw; (try dsimp only at hSw); go_simp; (try with_reducible rfl))
        try simp only [Act.put, List.setIfInBounds_toArray, List.set_cons_zero, List.set_cons_succ]
        refine seq_take _ ?_ rfl (Or.inl ⟨by rfl, ?_⟩) ?_
        rotate_left
        · (intro w hSw; (try dsimp only at hSw); go_simp; (try with_reducible rfl))
        try simp only [Act.put, List.setIfInBounds_toArray, List.set_cons_zero, List.set_cons_succ]
        refine seq_take _ ?_ rfl (Or.inl ⟨by rfl, ?_⟩) ?_
        rotate_left
        · (intro w hSw; (try dsimp only at hSw); go_simp; (try with_reducible rfl))
        try simp only [Act.put, List.setIfInBounds_toArray, List.set_cons_zero, List.set_cons_succ]
        refine seq_one _ rfl fun K hK => ?_
        go_simp
        (with_reducible refine (of_any (-12) _ (by decide) (by decide)).mono ?_)
        rintro e vc6 ⟨gc6, Ac6, nc6, cc6, rfl, ic6, bc6⟩
        have Dc6 : Below W.heap.size W vc6 := Below.trans Dc5 (bc6.mono (Below.size Dc5))
        go_wp2_with fail
        refine hK.out _ _ (HS.out _ Dc6) (fun hHeld => ?_)
        clear hK K hHeld
        try simp only [Act.put, List.setIfInBounds_toArray, List.set_cons_zero, List.set_cons_succ]
        refine seq_one _ rfl fun K hK => ?_
        go_simp
        (with_reducible refine (of_any (18) _ (by decide) (by decide)).mono ?_)
        rintro e vc7 ⟨gc7, Ac7, nc7, cc7, rfl, ic7, bc7⟩
        have Dc7 : Below W.heap.size W vc7 := Below.trans Dc6 (bc7.mono (Below.size Dc6))
        go_wp2_with fail
        refine hK.out _ _ (HS.out _ Dc7) (fun hHeld => ?_)
        clear hK K hHeld
        try simp only [Act.put, List.setIfInBounds_toArray, List.set_cons_zero, List.set_cons_succ]
        refine seq_one _ rfl fun K hK => ?_
        go_simp
        (with_reducible refine (gcd6 gc6 gc7 Ac6 Ac7 nc6 cc6 nc7 cc7 _ (ic6.below bc7) ic7).mono ?_)
        rintro e vc8 ⟨gc8, Ac8, nc8, cc8, rfl, ic8, bc8⟩
        have Dc8 : Below W.heap.size W vc8 := Below.trans Dc7 (bc8.mono (Below.size Dc7))
        go_wp2_with fail
        refine hK.out _ _ (HS.out _ Dc8) (fun hHeld => ?_)
        clear hK K hHeld
        try simp only [Act.put, List.setIfInBounds_toArray, List.set_cons_zero, List.set_cons_succ]
        refine seq_one _ rfl fun K hK => ?_
        go_simp
        (with_reducible refine (rof_any (6) _ (by decide) (by decide)).mono ?_)
        rintro e vc9 ⟨gc9, Ac9, nc9, cc9, rfl, ic9, bc9⟩
        have Dc9 : Below W.heap.size W vc9 := Below.trans Dc8 (bc9.mono (Below.size Dc8))
        go_wp2_with fail
        refine hK.out _ _ (HS.out _ Dc9) (fun hHeld => ?_)
        clear hK K hHeld
        try simp only [Act.put, List.setIfInBounds_toArray, List.set_cons_zero, List.set_cons_succ]
        refine seq_one _ rfl fun K hK => ?_
        go_simp
        (with_reducible refine (same_true gc8 gc9 Ac8 Ac9 nc8 cc8 nc9 cc9 6 _ (ic8.below bc9) ic9).mono ?_)
        rintro e vc10 ⟨rfl, bc10⟩
        have Dc10 : Below W.heap.size W vc10 := Below.trans Dc9 (bc10.mono (Below.size Dc9))
        go_wp2_with fail
        refine hK.out _ _ (HS.out _ Dc10) (fun hHeld => ?_)
        clear hK K hHeld
        try simp only [Act.put, List.setIfInBounds_toArray, List.set_cons_zero, List.set_cons_succ]
        refine seq_take _ ?_ rfl (Or.inl ⟨by rfl, ?_⟩) ?_
        rotate_left
        · (intro w hSw; (try dsimp only at hSw); go_simp; (try with_reducible rfl))
        try simp only [Act.put, List.setIfInBounds_toArray, List.set_cons_zero, List.set_cons_succ]
        as_aux_lemma =>
          refine seq_take _ ?_ rfl (Or.inl ⟨by rfl, ?_⟩) ?_
          rotate_left
          · (intro w hSw; (try dsimp only at hSw); go_simp; (try with_reducible rfl))
          try simp only [Act.put, List.setIfInBounds_toArray, List.set_cons_zero, List.set_cons_succ]
          refine seq_one _ rfl fun K hK => ?_
          go_simp
          (with_reducible refine (of_any (0) _ (by decide) (by decide)).mono ?_)
          rintro e vc11 ⟨gc11, Ac11, nc11, cc11, rfl, ic11, bc11⟩
          have Dc11 : Below W.heap.size W vc11 := Below.trans Dc10 (bc11.mono (Below.size Dc10))
          go_wp2_with fail
          refine hK.out _ _ (HS.out _ Dc11) (fun hHeld => ?_)
          clear hK K hHeld
          try simp only [Act.put, List.setIfInBounds_toArray, List.set_cons_zero, List.set_cons_succ]
          refine seq_one _ rfl fun K hK => ?_
          go_simp
          (with_reducible refine (of_any (0) _ (by decide) (by decide)).mono ?_)
          rintro e vc12 ⟨gc12, Ac12, nc12, cc12, rfl, ic12, bc12⟩
          have Dc12 : Below W.heap.size W vc12 := Below.trans Dc11 (bc12.mono (Below.size Dc11))
          go_wp2_with fail
          refine hK.out _ _ (HS.out _ Dc12) (fun hHeld => ?_)
          clear hK K hHeld
          try simp only [Act.put, List.setIfInBounds_toArray, List.set_cons_zero, List.set_cons_succ]
          refine seq_one _ rfl fun K hK => ?_
          go_simp
          (with_reducible refine (gcd00 gc11 gc12 Ac11 Ac12 nc11 cc11 nc12 cc12 _ (ic11.below bc12) ic12).mono ?_)
          rintro e vc13 ⟨gc13, Ac13, nc13, cc13, rfl, ic13, bc13⟩
          have Dc13 : Below W.heap.size W vc13 := Below.trans Dc12 (bc13.mono (Below.size Dc12))
          go_wp2_with fail
          refine hK.out _ _ (HS.out _ Dc13) (fun hHeld => ?_)
          clear hK K hHeld
          try simp only [Act.put, List.setIfInBounds_toArray, List.set_cons_zero, List.set_cons_succ]
          refine seq_one _ rfl fun K hK => ?_
          go_simp
          (with_reducible refine (sign0 gc13 Ac13 nc13 cc13 _ ic13).mono ?_)
          rintro e vc14 ⟨rfl, bc14⟩
          have Dc14 : Below W.heap.size W vc14 := Below.trans Dc13 (bc14.mono (Below.size Dc13))
          go_wp2_with fail
          refine hK.out _ _ (HS.out _ Dc14) (fun hHeld => ?_)
          clear hK K hHeld
          try simp only [Act.put, List.setIfInBounds_toArray, List.set_cons_zero, List.set_cons_succ]
          refine seq_take _ ?_ rfl (Or.inl ⟨by rfl, ?_⟩) ?_
          rotate_left
          · (intro w hSw; (try dsimp only at hSw); go_simp; (try with_reducible rfl))
          try simp only [Act.put, List.setIfInBounds_toArray, List.set_cons_zero, List.set_cons_succ]
          refine seq_take _ ?_ rfl (Or.inl ⟨by rfl, ?_⟩) ?_
          rotate_left
          · (intro w hSw; (try dsimp only at hSw); go_simp; (try with_reducible rfl))
          try simp only [Act.put, List.setIfInBounds_toArray, List.set_cons_zero, List.set_cons_succ]
          refine seq_take _ ?_ rfl (Or.inl ⟨by rfl, ?_⟩) ?_
          rotate_left
          · (intro w hSw; (try dsimp only at hSw); go_simp; (try with_reducible rfl))
          try simp only [Act.put, List.setIfInBounds_toArray, List.set_cons_zero, List.set_cons_succ]
          refine seq_one _ rfl fun K hK => ?_
          go_simp
          (with_reducible refine (of_any (-120) _ (by decide) (by decide)).mono ?_)
          rintro e vc15 ⟨gc15, Ac15, nc15, cc15, rfl, ic15, bc15⟩
          have Dc15 : Below W.heap.size W vc15 := Below.trans Dc14 (bc15.mono (Below.size Dc14))
          go_wp2_with fail
          refine hK.out _ _ (HS.out _ Dc15) (fun hHeld => ?_)
          clear hK K hHeld
          try simp only [Act.put, List.setIfInBounds_toArray, List.set_cons_zero, List.set_cons_succ]
          refine seq_one _ rfl fun K hK => ?_
          go_simp
          (with_reducible refine (text120 gc15 Ac15 nc15 cc15 _ ic15).mono ?_)
          rintro e vc16 ⟨rfl, bc16⟩
          have Dc16 : Below W.heap.size W vc16 := Below.trans Dc15 (bc16.mono (Below.size Dc15))
          go_wp2_with fail
          refine hK.out _ _ (HS.out _ Dc16) (fun hHeld => ?_)
          clear hK K hHeld
          try simp only [Act.put, List.setIfInBounds_toArray, List.set_cons_zero, List.set_cons_succ]
          refine seq_take _ ?_ rfl (Or.inl ⟨by rfl, ?_⟩) ?_
          rotate_left
          · (intro w hSw; (try dsimp only at hSw); go_simp; (try with_reducible rfl))
          try simp only [Act.put, List.setIfInBounds_toArray, List.set_cons_zero, List.set_cons_succ]
          refine seq_take _ ?_ rfl (Or.inl ⟨by rfl, ?_⟩) ?_
          rotate_left
          · (intro w hSw; (try dsimp only at hSw); go_simp; (try with_reducible rfl))
          try simp only [Act.put, List.setIfInBounds_toArray, List.set_cons_zero, List.set_cons_succ]
          refine seq_take _ ?_ rfl (Or.inl ⟨by rfl, ?_⟩) ?_
          rotate_left
          · (intro w hSw; (try dsimp only at hSw); go_simp; (try with_reducible rfl))
          try simp only [Act.put, List.setIfInBounds_toArray, List.set_cons_zero, List.set_cons_succ]
          refine seq_one _ rfl fun K hK => ?_
          go_simp
          (with_reducible refine (of_any (0) _ (by decide) (by decide)).mono ?_)
          rintro e vc17 ⟨gc17, Ac17, nc17, cc17, rfl, ic17, bc17⟩
          have Dc17 : Below W.heap.size W vc17 := Below.trans Dc16 (bc17.mono (Below.size Dc16))
          go_wp2_with fail
          refine hK.out _ _ (HS.out _ Dc17) (fun hHeld => ?_)
          clear hK K hHeld
          try simp only [Act.put, List.setIfInBounds_toArray, List.set_cons_zero, List.set_cons_succ]
          refine seq_one _ rfl fun K hK => ?_
          go_simp
          (with_reducible refine (text0 gc17 Ac17 nc17 cc17 _ ic17).mono ?_)
          rintro e vc18 ⟨rfl, bc18⟩
          have Dc18 : Below W.heap.size W vc18 := Below.trans Dc17 (bc18.mono (Below.size Dc17))
          go_wp2_with fail
          refine hK.out _ _ (HS.out _ Dc18) (fun hHeld => ?_)
          clear hK K hHeld
          try simp only [Act.put, List.setIfInBounds_toArray, List.set_cons_zero, List.set_cons_succ]
          refine seq_take _ ?_ rfl (Or.inl ⟨by rfl, ?_⟩) ?_
          rotate_left
          · (intro w hSw; (try dsimp only at hSw); go_simp; (try with_reducible rfl))
          try simp only [Act.put, List.setIfInBounds_toArray, List.set_cons_zero, List.set_cons_succ]
          refine seq_take _ ?_ rfl (Or.inl ⟨by rfl, ?_⟩) ?_
          rotate_left
          · (intro w hSw; (try dsimp only at hSw); go_simp; (try with_reducible rfl))
          try simp only [Act.put, List.setIfInBounds_toArray, List.set_cons_zero, List.set_cons_succ]
          as_aux_lemma =>
            refine seq_take _ ?_ rfl (Or.inl ⟨by rfl, ?_⟩) ?_
            rotate_left
            · (intro w hSw; (try dsimp only at hSw); go_simp; (try with_reducible rfl))
            try simp only [Act.put, List.setIfInBounds_toArray, List.set_cons_zero, List.set_cons_succ]
            refine seq_one _ rfl fun K hK => ?_
            go_simp
            (with_reducible refine (of_any (0) _ (by decide) (by decide)).mono ?_)
            rintro e vc19 ⟨gc19, Ac19, nc19, cc19, rfl, ic19, bc19⟩
            have Dc19 : Below W.heap.size W vc19 := Below.trans Dc18 (bc19.mono (Below.size Dc18))
            go_wp2_with fail
            refine hK.out _ _ (HS.out _ Dc19) (fun hHeld => ?_)
            clear hK K hHeld
            try simp only [Act.put, List.setIfInBounds_toArray, List.set_cons_zero, List.set_cons_succ]
            refine seq_one _ rfl fun K hK => ?_
            go_simp
            (with_reducible refine (valid0 gc19 Ac19 nc19 cc19 _ ic19).mono ?_)
            rintro e vc20 ⟨rfl, bc20⟩
            have Dc20 : Below W.heap.size W vc20 := Below.trans Dc19 (bc20.mono (Below.size Dc19))
            go_wp2_with fail
            refine hK.out _ _ (HS.out _ Dc20) (fun hHeld => ?_)
            clear hK K hHeld
            try simp only [Act.put, List.setIfInBounds_toArray, List.set_cons_zero, List.set_cons_succ]
            refine seq_take _ ?_ rfl (Or.inl ⟨by rfl, ?_⟩) ?_
            rotate_left
            · (intro w hSw; (try dsimp only at hSw); go_simp; (try with_reducible rfl))
            try simp only [Act.put, List.setIfInBounds_toArray, List.set_cons_zero, List.set_cons_succ]
            refine seq_take _ ?_ rfl (Or.inl ⟨by rfl, ?_⟩) ?_
            rotate_left
            · (intro w hSw; (try dsimp only at hSw); go_simp; (try with_reducible rfl))
            try simp only [Act.put, List.setIfInBounds_toArray, List.set_cons_zero, List.set_cons_succ]
            refine seq_take _ ?_ rfl (Or.inl ⟨by rfl, ?_⟩) ?_
            rotate_left
            · (intro w hSw; (try dsimp only at hSw); go_simp; (try with_reducible rfl))
            try simp only [Act.put, List.setIfInBounds_toArray, List.set_cons_zero, List.set_cons_succ]
            refine seq_one _ rfl fun K hK => ?_
            go_simp
            (with_reducible refine (validN _).mono ?_)
            rintro e vc21 ⟨rfl, bc21⟩
            have Dc21 : Below W.heap.size W vc21 := Below.trans Dc20 (bc21.mono (Below.size Dc20))
            go_wp2_with fail
            refine hK.out _ _ (HS.out _ Dc21) (fun hHeld => ?_)
            clear hK K hHeld
            try simp only [Act.put, List.setIfInBounds_toArray, List.set_cons_zero, List.set_cons_succ]
            refine seq_take _ ?_ rfl (Or.inl ⟨by rfl, ?_⟩) ?_
            rotate_left
            · (intro w hSw; (try dsimp only at hSw); go_simp; (try with_reducible rfl))
            try simp only [Act.put, List.setIfInBounds_toArray, List.set_cons_zero, List.set_cons_succ]
            refine seq_take _ ?_ rfl (Or.inl ⟨by rfl, ?_⟩) ?_
            rotate_left
            · (intro w hSw; (try dsimp only at hSw); go_simp; (try with_reducible rfl))
            try simp only [Act.put, List.setIfInBounds_toArray, List.set_cons_zero, List.set_cons_succ]
            refine seq_take _ ?_ rfl (Or.inl ⟨by rfl, ?_⟩) ?_
            rotate_left
            · (intro w hSw; (try dsimp only at hSw); go_simp; (try with_reducible rfl))
            try simp only [Act.put, List.setIfInBounds_toArray, List.set_cons_zero, List.set_cons_succ]
            refine seq_one _ rfl fun K hK => ?_
            go_simp
            refine hK.out _ _ (HS.out _ (below_alloc Dc21 _)) (fun hHeld => ?_)
            clear hK K hHeld
            try simp only [Act.put, List.setIfInBounds_toArray, List.set_cons_zero, List.set_cons_succ]
            refine seq_take _ ?_ rfl (Or.inl ⟨by rfl, ?_⟩) ?_
            rotate_left
            · (intro w hSw; (try dsimp only at hSw); go_simp; (try with_reducible rfl))
            try simp only [Act.put, List.setIfInBounds_toArray, List.set_cons_zero, List.set_cons_succ]
            refine seq_one _ rfl fun K hK => ?_
            go_simp
            (with_reducible refine (validZ _ _ (lit0 _)).mono ?_)
            rintro e vc22 ⟨rfl, bc22⟩
            have Dc22 : Below W.heap.size W vc22 := Below.trans (below_alloc Dc21 _) (bc22.mono (Below.size (below_alloc Dc21 _)))
            go_wp2_with fail
            refine hK.out _ _ (HS.out _ Dc22) (fun hHeld => ?_)
            clear hK K hHeld
            try simp only [Act.put, List.setIfInBounds_toArray, List.set_cons_zero, List.set_cons_succ]
            refine seq_take _ ?_ rfl (Or.inl ⟨by rfl, ?_⟩) ?_
            rotate_left
            · (intro w hSw; (try dsimp only at hSw); go_simp; (try with_reducible rfl))
            try simp only [Act.put, List.setIfInBounds_toArray, List.set_cons_zero, List.set_cons_succ]
            refine seq_take _ ?_ rfl (Or.inl ⟨by rfl, ?_⟩) ?_
            rotate_left
            · (intro w hSw; (try dsimp only at hSw); go_simp; (try with_reducible rfl))
            try simp only [Act.put, List.setIfInBounds_toArray, List.set_cons_zero, List.set_cons_succ]
            refine seq_take _ ?_ rfl (Or.inl ⟨by rfl, ?_⟩) ?_
            rotate_left
            · (intro w hSw; (try dsimp only at hSw); go_simp; (try with_reducible rfl))
            try simp only [Act.put, List.setIfInBounds_toArray, List.set_cons_zero]
            refine NoPanic.normal ?_
            exact hK _ _ _ _ _ _ _ _ _ _ _ _ _ _ _ _ _ _ _ _ _ _ _ _ _ _ _ _ _ _ _ _ _ _ _ _ _ _ _ _ _ _ _ _ _ _ _ _ _ _ _ _ _ _ _ _ _ _ _ _ _ _ _ _ _ _ _ _ _ _ _ Dc22
end Go.Proofs.YtnlmdjbakcjhbaaDoor
