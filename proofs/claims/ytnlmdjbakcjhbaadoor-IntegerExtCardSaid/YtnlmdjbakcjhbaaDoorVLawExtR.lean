/- Words and regions for the law IntegerExt. -/
import Derived.Test.YtnlmdjbakcjhbaaDoorVLawGcdR
import Derived.Test.YtnlmdjbakcjhbaaDoorVExtG
namespace Go.Proofs.YtnlmdjbakcjhbaaDoor
open Go.RowKit
/-- What the law asks of the coefficients. -/
def ExtFacts (a b s t : Int) : Prop := ((Nat.gcd a.natAbs b.natAbs = 0) → s = 0 ∧ t = 0) ∧ (Nat.gcd a.natAbs b.natAbs ≠ 0 → s * a + t * b = ((Nat.gcd a.natAbs b.natAbs : Nat) : Int) ∧
  (s.natAbs ≤ b.natAbs / Nat.gcd a.natAbs b.natAbs ∨ s.natAbs ≤ 1) ∧ (t.natAbs ≤ a.natAbs / Nat.gcd a.natAbs b.natAbs ∨ t.natAbs ≤ 1))
theorem sgn_mul (a s : Int) : (if decide (a < 0) then -s else s) * a = s * (a.natAbs : Int) := by
  by_cases h : a < 0
  · rw [if_pos (by simpa using h), show (a.natAbs : Int) = -a by omega, Int.neg_mul, Int.mul_neg]
  · rw [if_neg (by simpa using h), show (a.natAbs : Int) = a by omega]
theorem abs_if (c : Bool) (s : Int) : (if c then -s else s).natAbs = s.natAbs := by
  cases c
  · rfl
  · exact Int.natAbs_neg s
theorem sz_bound {k : Nat} {b : Int} {s : Int} {g : Nat} (hb : Sz k b) (hk : 1 ≤ k) (h : s.natAbs ≤ b.natAbs / g ∨ s.natAbs ≤ 1) : Sz k s := by
  refine Sz.of ?_ hb.le
  have h1 := hb.lt
  have h2 : 4294967296 ^ 1 ≤ 4294967296 ^ k := Nat.pow_le_pow_right (by decide) hk
  have h3 := Nat.div_le_self b.natAbs g
  rcases h with h | h <;> omega
theorem extL (ga gb : Bool) (Aa Ab : Option Addr) (na ca nb cb : Nat) (a b : Int) (w : World) (ha : IsInt w ga Aa na ca a) (hb : IsInt w gb Ab nb cb b) (sa : Sz 6 a) (sb : Sz 6 b) :
    Calls Tryd.prog 23 #[.agg #[.bool ga, .slice Aa na ca], .agg #[.bool gb, .slice Ab nb cb]] w fun e w' => ∃ s t : Int, Ret3 w ((Nat.gcd a.natAbs b.natAbs : Nat) : Int) s t e w' ∧ Hid (ExtFacts a b s t) ∧ Sz 6 s ∧ Sz 6 t := by
  by_cases h0 : a = 0 ∧ b = 0
  · obtain ⟨rfl, rfl⟩ := h0
    refine (extz_any ga gb Aa Ab na ca nb cb w ha hb).mono ?_
    intro e w' hr
    exact ⟨0, 0, hr, ⟨fun _ => ⟨rfl, rfl⟩, fun h => absurd rfl h⟩, sa, sb⟩
  · refine (ext_z ga gb Aa Ab na ca nb cb a b w ha hb sa sb (by decide) (by decide) (by omega)).mono ?_
    rintro e w' ⟨s, t, s', t', hr, inv⟩
    have hG : 0 < Nat.gcd a.natAbs b.natAbs := by
      rcases Nat.eq_zero_or_pos (Nat.gcd a.natAbs b.natAbs) with h | h
      · have h1 := Nat.eq_zero_of_gcd_eq_zero_left h
        have h2 := Nat.eq_zero_of_gcd_eq_zero_right h
        omega
      · exact h
    have e1 := inv.e1
    have a1 := inv.a1
    have a2 := inv.a2
    rw [Nat.mul_zero, Nat.add_zero] at a1 a2
    have q1 : b.natAbs / Nat.gcd a.natAbs b.natAbs = s'.natAbs := Nat.div_eq_of_eq_mul_left hG a1.symm
    have q2 : a.natAbs / Nat.gcd a.natAbs b.natAbs = t'.natAbs := Nat.div_eq_of_eq_mul_left hG a2.symm
    have o1 := inv.o1
    have o2 := inv.o2
    have b1 : (if ga then -s else s).natAbs ≤ b.natAbs / Nat.gcd a.natAbs b.natAbs ∨ (if ga then -s else s).natAbs ≤ 1 := by rw [abs_if, q1]; omega
    have b2 : (if gb then -t else t).natAbs ≤ a.natAbs / Nat.gcd a.natAbs b.natAbs ∨ (if gb then -t else t).natAbs ≤ 1 := by rw [abs_if, q2]; omega
    refine ⟨_, _, hr, ⟨fun h => by omega, fun _ => ⟨?_, b1, b2⟩⟩, sz_bound sb (by decide) b1, sz_bound sa (by decide) b2⟩
    rw [ha.sign, hb.sign, sgn_mul, sgn_mul]
    exact e1
theorem three_new {w : World} {g1 g2 g3 : Bool} {A1 A2 A3 : Option Addr} {n1 c1 n2 c2 n3 c3 : Nat} {x y z : Int} (h1 : IsInt w g1 A1 n1 c1 x) (h2 : IsInt w g2 A2 n2 c2 y) (h3 : IsInt w g3 A3 n3 c3 z) :
    Bag (((w.alloc (.cells #[.bool g1, .slice A1 n1 c1] 27)).alloc (.cells #[.bool g2, .slice A2 n2 c2] 27)).alloc (.cells #[.bool g3, .slice A3 n3 c3] 27)) [(w.heap.size, x), (w.heap.size + 1, y), (w.heap.size + 1 + 1, z)] ∧
    Below w.heap.size w (((w.alloc (.cells #[.bool g1, .slice A1 n1 c1] 27)).alloc (.cells #[.bool g2, .slice A2 n2 c2] 27)).alloc (.cells #[.bool g3, .slice A3 n3 c3] 27)) := by
  obtain ⟨B2, D2⟩ := two_new h1 h2
  have e3 := IntAt.new (h3.below D2)
  rw [World.size_alloc, World.size_alloc] at e3
  have L := (Below.refl ((w.alloc (.cells #[.bool g1, .slice A1 n1 c1] 27)).alloc (.cells #[.bool g2, .slice A2 n2 c2] 27)).heap.size ((w.alloc (.cells #[.bool g1, .slice A1 n1 c1] 27)).alloc (.cells #[.bool g2, .slice A2 n2 c2] 27))).alloc (Nat.le_refl _) (.cells #[.bool g3, .slice A3 n3 c3] 27)
  exact ⟨Bag.cons ((B2 (w.heap.size, x) (by simp)).after L) (Bag.cons ((B2 (w.heap.size + 1, y) (by simp)).after L) (Bag.cons e3 (bag_nil _))), D2.trans (L.mono D2.size)⟩
set_option maxRecDepth 1000000 in
set_option maxHeartbeats 4000000 in
theorem ext_r5 {u0 u1 u2 u3 u4 u5 u11 u12 u13 u14 u15 u16 u17 u18 u19 u20 u21 u22 u23 u24 u25 u26 u27 u28 u29 u30 u31 u32 u33 u34 u35 u36 u37 u38 u39 u40 u41 u42 u43 u44 u45 u46 u47 u48 u49 u50 u51 u52 u53 u54 u55 u56 u57 u58 u59 u60 u61 u62 u63 u64 u65 u66 u67 u68 u69 u70 u71 u72 u73 u74 u75 u76 u77 u78 u79 u80 u81 u82 u83 u84 u85 u86 u87 u88 u89 u90 u91 u92 u93 u94 u95 u96 u97 u98 u99 u100 u101 u102 u103 u104 u105 u106 u107 u108 u109 u110 u111 u112 u113 u114 u115 u116 u117 u118 u119 u120 u121 u122 u123 u124 u125 u126 u127 u128 u129 u130 u131 u132 u133 u134 u135 u136 u137 : Value} {W : World} {K : Act → World → Prop} {Q : Exit → Act → World → Prop} {bg bs bt ba bb : Nat} {zg zs zt za zb : Int} (Hg : IntAt W bg (zg)) (Hs : IntAt W bs (zs)) (Ht : IntAt W bt (zt)) (Ha : IntAt W ba (za)) (Hb : IntAt W bb (zb)) (Za : Sz 6 (za)) (Zb : Sz 6 (zb)) (h8 : 6 + 1 + 1 ≤ 10000) (e1 : Hid (zg = ((Nat.gcd za.natAbs zb.natAbs : Nat) : Int)))
    (hK : ∀ (v46 v47 v48 v49 v50 v51 v52 v53 v54 v55 v56 v57 v58 v59 v60 v61 v62 v63 v64 v65 : Value) (w' : World), Below W.heap.size W w' → K ⟨#[u0, u1, u2, u3, u4, u5, .pointer (some ⟨ba, 0, none⟩), .pointer (some ⟨bb, 0, none⟩), .pointer (some ⟨bg, 0, none⟩), .pointer (some ⟨bs, 0, none⟩), .pointer (some ⟨bt, 0, none⟩), u11, u12, u13, u14, u15, u16, u17, u18, u19, u20, u21, u22, u23, u24, u25, u26, u27, u28, u29, u30, u31, u32, u33, u34, u35, u36, u37, u38, u39, u40, u41, u42, u43, u44, u45, v46, v47, v48, v49, v50, v51, v52, v53, v54, v55, v56, v57, v58, v59, v60, v61, v62, v63, v64, v65, .bool false, u67, u68, u69, u70, u71, u72, u73, u74, u75, u76, u77, u78, u79, u80, u81, u82, u83, u84, u85, u86, u87, u88, u89, u90, u91, u92, u93, u94, u95, u96, u97, u98, u99, u100, u101, u102, u103, u104, u105, u106, u107, u108, u109, u110, u111, u112, u113, u114, u115, u116, u117, u118, u119, u120, u121, u122, u123, u124, u125, u126, u127, u128, u129, u130, u131, u132, u133, u134, u135, u136, u137], []⟩ w') :
    Code.wp Tryd.prog (regionOf 5 Tryd.f5) (Exit.then K Q) ⟨#[u0, u1, u2, u3, u4, u5, .pointer (some ⟨ba, 0, none⟩), .pointer (some ⟨bb, 0, none⟩), .pointer (some ⟨bg, 0, none⟩), .pointer (some ⟨bs, 0, none⟩), .pointer (some ⟨bt, 0, none⟩), u11, u12, u13, u14, u15, u16, u17, u18, u19, u20, u21, u22, u23, u24, u25, u26, u27, u28, u29, u30, u31, u32, u33, u34, u35, u36, u37, u38, u39, u40, u41, u42, u43, u44, u45, u46, u47, u48, u49, u50, u51, u52, u53, u54, u55, u56, u57, u58, u59, u60, u61, u62, u63, u64, u65, u66, u67, u68, u69, u70, u71, u72, u73, u74, u75, u76, u77, u78, u79, u80, u81, u82, u83, u84, u85, u86, u87, u88, u89, u90, u91, u92, u93, u94, u95, u96, u97, u98, u99, u100, u101, u102, u103, u104, u105, u106, u107, u108, u109, u110, u111, u112, u113, u114, u115, u116, u117, u118, u119, u120, u121, u122, u123, u124, u125, u126, u127, u128, u129, u130, u131, u132, u133, u134, u135, u136, u137], []⟩ W := by
  conv => arg 2; whnf
  obtain ⟨gg, Ag, ng, cg, Sg, Ig⟩ := Hg
  obtain ⟨gs, As, ns, cs, Ss, Is⟩ := Hs
  obtain ⟨gt, At, nt, ct, St, It⟩ := Ht
  obtain ⟨ga, Aa, na, ca, Sa, Ia⟩ := Ha
  obtain ⟨gb, Ab, nb, cb, Sb, Ib⟩ := Hb
  have HS : Hid (∀ V, Below W.heap.size W V → V.cell? ⟨bg, 0, none⟩ = some (.bool gg) ∧ V.cell? ⟨bg, 1, none⟩ = some (.slice Ag ng cg) ∧ V.cell? ⟨bs, 0, none⟩ = some (.bool gs) ∧ V.cell? ⟨bs, 1, none⟩ = some (.slice As ns cs) ∧ V.cell? ⟨bt, 0, none⟩ = some (.bool gt) ∧ V.cell? ⟨bt, 1, none⟩ = some (.slice At nt ct) ∧ V.cell? ⟨ba, 0, none⟩ = some (.bool ga) ∧ V.cell? ⟨ba, 1, none⟩ = some (.slice Aa na ca) ∧ V.cell? ⟨bb, 0, none⟩ = some (.bool gb) ∧ V.cell? ⟨bb, 1, none⟩ = some (.slice Ab nb cb)) := fun V hW => ⟨(Sg.after hW).1, (Sg.after hW).2.1, (Ss.after hW).1, (Ss.after hW).2.1, (St.after hW).1, (St.after hW).2.1, (Sa.after hW).1, (Sa.after hW).2.1, (Sb.after hW).1, (Sb.after hW).2.1⟩
  have Dt0 : Below W.heap.size W W.drew := (Below.refl _ _).drew
  refine wp_region_seq (.pre [(0, true), (1, false), (2, true), (3, true), (4, true), (5, false), (6, true), (7, true), (8, true), (9, true), (10, false), (11, true), (12, true), (13, true), (14, true), (15, true), (16, true), (17, false), (18, false), (19, true), (20, true)] .done) (fun W => W.cell? ⟨bg, 0, none⟩ = some (.bool gg) ∧ W.cell? ⟨bg, 1, none⟩ = some (.slice Ag ng cg) ∧ W.cell? ⟨bs, 0, none⟩ = some (.bool gs) ∧ W.cell? ⟨bs, 1, none⟩ = some (.slice As ns cs) ∧ W.cell? ⟨bt, 0, none⟩ = some (.bool gt) ∧ W.cell? ⟨bt, 1, none⟩ = some (.slice At nt ct) ∧ W.cell? ⟨ba, 0, none⟩ = some (.bool ga) ∧ W.cell? ⟨ba, 1, none⟩ = some (.slice Aa na ca) ∧ W.cell? ⟨bb, 0, none⟩ = some (.bool gb) ∧ W.cell? ⟨bb, 1, none⟩ = some (.slice Ab nb cb)) (by kernel_rfl) (by kernel_rfl) ?_ (by kernel_rfl) (HS.out _ Dt0) ?_
  · refine chk_pre _ _ _ (by as_aux_lemma => kernel_rfl) ?_
    exact (by as_aux_lemma => kernel_rfl)
  refine seq_take _ ?_ rfl (Or.inl ⟨by rfl, ?_⟩) ?_
  rotate_left
  · (intro w hSw; (try dsimp only at hSw); go_simp; (try with_reducible rfl))
  try simp only [Act.put, List.setIfInBounds_toArray, List.set_cons_zero, List.set_cons_succ]
  refine seq_one _ rfl fun K hK => ?_
  go_simp
  (with_reducible refine (rvalid_z gg Ag ng cg _ (Ig.below Dt0)).mono ?_)
  rintro e vt1 ⟨rfl, bt1⟩
  have Dt1 : Below W.heap.size W vt1 := Below.trans Dt0 (bt1.mono (Below.size Dt0))
  go_wp2_with fail
  refine hK.out _ _ (HS.out _ Dt1) (fun hHeld => ?_)
  clear hK K hHeld
  try simp only [Act.put, List.setIfInBounds_toArray, List.set_cons_zero, List.set_cons_succ]
  refine seq_take _ ?_ rfl (Or.inl ⟨by rfl, ?_⟩) ?_
  rotate_left
  · (intro w hSw; (try dsimp only at hSw); go_simp; (try with_reducible rfl))
  try simp only [Act.put, List.setIfInBounds_toArray, List.set_cons_zero, List.set_cons_succ]
  refine seq_take _ ?_ rfl (Or.inl ⟨by rfl, ?_⟩) ?_
  rotate_left
  · (intro w hSw; (try dsimp only at hSw); go_simp; (try with_reducible rfl))
  try simp only [Act.put, List.setIfInBounds_toArray, List.set_cons_zero, List.set_cons_succ]
  refine seq_take _ ?_ rfl (Or.inl ⟨by rfl, ?_⟩) ?_
  rotate_left
  · (intro w hSw; (try dsimp only at hSw); go_simp; (try with_reducible rfl))
  try simp only [Act.put, List.setIfInBounds_toArray, List.set_cons_zero, List.set_cons_succ]
  refine seq_one _ rfl fun K hK => ?_
  go_simp
  (with_reducible refine (rvalid_z gs As ns cs _ (Is.below Dt1)).mono ?_)
  rintro e vt2 ⟨rfl, bt2⟩
  have Dt2 : Below W.heap.size W vt2 := Below.trans Dt1 (bt2.mono (Below.size Dt1))
  go_wp2_with fail
  refine hK.out _ _ (HS.out _ Dt2) (fun hHeld => ?_)
  clear hK K hHeld
  try simp only [Act.put, List.setIfInBounds_toArray, List.set_cons_zero, List.set_cons_succ]
  refine seq_take _ ?_ rfl (Or.inl ⟨by rfl, ?_⟩) ?_
  rotate_left
  · (intro w hSw; (try dsimp only at hSw); go_simp; (try with_reducible rfl))
  try simp only [Act.put, List.setIfInBounds_toArray, List.set_cons_zero, List.set_cons_succ]
  refine seq_take _ ?_ rfl (Or.inl ⟨by rfl, ?_⟩) ?_
  rotate_left
  · (intro w hSw; (try dsimp only at hSw); go_simp; (try with_reducible rfl))
  try simp only [Act.put, List.setIfInBounds_toArray, List.set_cons_zero, List.set_cons_succ]
  refine seq_take _ ?_ rfl (Or.inl ⟨by rfl, ?_⟩) ?_
  rotate_left
  · (intro w hSw; (try dsimp only at hSw); go_simp; (try with_reducible rfl))
  try simp only [Act.put, List.setIfInBounds_toArray, List.set_cons_zero, List.set_cons_succ]
  refine seq_take _ ?_ rfl (Or.inl ⟨by rfl, ?_⟩) ?_
  rotate_left
  · (intro w hSw; (try dsimp only at hSw); go_simp; (try with_reducible rfl))
  try simp only [Act.put, List.setIfInBounds_toArray, List.set_cons_zero, List.set_cons_succ]
  refine seq_one _ rfl fun K hK => ?_
  go_simp
  (with_reducible refine (rvalid_z gt At nt ct _ (It.below Dt2)).mono ?_)
  rintro e vt3 ⟨rfl, bt3⟩
  have Dt3 : Below W.heap.size W vt3 := Below.trans Dt2 (bt3.mono (Below.size Dt2))
  go_wp2_with fail
  refine hK.out _ _ (HS.out _ Dt3) (fun hHeld => ?_)
  clear hK K hHeld
  try simp only [Act.put, List.setIfInBounds_toArray, List.set_cons_zero, List.set_cons_succ]
  refine seq_take _ ?_ rfl (Or.inl ⟨by rfl, ?_⟩) ?_
  rotate_left
  · (intro w hSw; (try dsimp only at hSw); go_simp; (try with_reducible rfl))
  try simp only [Act.put, List.setIfInBounds_toArray, List.set_cons_zero, List.set_cons_succ]
  refine seq_take _ ?_ rfl (Or.inl ⟨by rfl, ?_⟩) ?_
  rotate_left
  · (intro w hSw; (try dsimp only at hSw); go_simp; (try with_reducible rfl))
  try simp only [Act.put, List.setIfInBounds_toArray, List.set_cons_zero, List.set_cons_succ]
  refine seq_take _ ?_ rfl (Or.inl ⟨by rfl, ?_⟩) ?_
  rotate_left
  · (intro w hSw; (try dsimp only at hSw); go_simp; (try with_reducible rfl))
  try simp only [Act.put, List.setIfInBounds_toArray, List.set_cons_zero, List.set_cons_succ]
  refine seq_take _ ?_ rfl (Or.inl ⟨by rfl, ?_⟩) ?_
  rotate_left
  · (intro w hSw; (try dsimp only at hSw); go_simp; (try with_reducible rfl))
  try simp only [Act.put, List.setIfInBounds_toArray, List.set_cons_zero, List.set_cons_succ]
  refine seq_take _ ?_ rfl (Or.inl ⟨by rfl, ?_⟩) ?_
  rotate_left
  · (intro w hSw; (try dsimp only at hSw); go_simp; (try with_reducible rfl))
  try simp only [Act.put, List.setIfInBounds_toArray, List.set_cons_zero, List.set_cons_succ]
  as_aux_lemma =>
    refine seq_take _ ?_ rfl (Or.inl ⟨by rfl, ?_⟩) ?_
    rotate_left
    · (intro w hSw; (try dsimp only at hSw); go_simp; (try with_reducible rfl))
    try simp only [Act.put, List.setIfInBounds_toArray, List.set_cons_zero, List.set_cons_succ]
    refine seq_one _ rfl fun K hK => ?_
    go_simp
    (with_reducible refine (rgcd_z ga gb Aa Ab na ca nb cb _ (Ia.below Dt3) (Ib.below Dt3) Za Zb h8).mono ?_)
    rintro e vt4 ⟨gt4, At4, nt4, ct4, rfl, it4, bt4⟩
    have Dt4 : Below W.heap.size W vt4 := Below.trans Dt3 (bt4.mono (Below.size Dt3))
    go_wp2_with fail
    refine hK.out _ _ (HS.out _ Dt4) (fun hHeld => ?_)
    clear hK K hHeld
    try simp only [Act.put, List.setIfInBounds_toArray, List.set_cons_zero, List.set_cons_succ]
    refine seq_one _ rfl fun K hK => ?_
    go_simp
    (with_reducible refine (same_z gg gt4 Ag At4 ng cg nt4 ct4 _ (Ig.below Dt4) it4 e1.out).mono ?_)
    rintro e vt5 ⟨rfl, bt5⟩
    have Dt5 : Below W.heap.size W vt5 := Below.trans Dt4 (bt5.mono (Below.size Dt4))
    go_wp2_with fail
    refine hK.out _ _ (HS.out _ Dt5) (fun hHeld => ?_)
    clear hK K hHeld
    try simp only [Act.put, List.setIfInBounds_toArray, List.set_cons_zero, List.set_cons_succ]
    refine seq_take _ ?_ rfl (Or.inl ⟨by rfl, ?_⟩) ?_
    rotate_left
    · (intro w hSw; (try dsimp only at hSw); go_simp; (try with_reducible rfl))
    try simp only [Act.put, List.setIfInBounds_toArray, List.set_cons_zero, List.set_cons_succ]
    refine seq_take _ ?_ rfl (Or.inl ⟨by rfl, ?_⟩) ?_
    rotate_left
    · (intro w hSw; (try dsimp only at hSw); go_simp; (try with_reducible rfl))
    try simp only [Act.put, List.setIfInBounds_toArray, List.set_cons_zero, List.set_cons_succ]
    refine NoPanic.normal ?_
    exact hK _ _ _ _ _ _ _ _ _ _ _ _ _ _ _ _ _ _ _ _ _ Dt5
set_option maxRecDepth 1000000 in
set_option maxHeartbeats 4000000 in
theorem ext_r11aa {u0 u1 u2 u3 u4 u5 u6 u7 u8 u12 u13 u15 u16 u17 u18 u19 u20 u21 u22 u23 u24 u25 u26 u27 u28 u29 u30 u31 u32 u33 u34 u35 u36 u37 u38 u39 u40 u41 u42 u43 u44 u45 u46 u47 u48 u49 u50 u51 u52 u53 u54 u55 u56 u57 u58 u59 u60 u61 u62 u63 u64 u65 u66 u67 u68 u69 u70 u71 u72 u73 u74 u75 u76 u77 u78 u79 u80 u81 u82 u83 u84 u85 u86 u87 u88 u89 u90 u91 u92 u93 u94 u95 u96 u97 u98 u99 u100 u101 u102 u103 u104 u105 u106 u107 u108 u109 u110 u111 u112 u113 u114 u115 u116 u117 u118 u119 u120 u121 u122 u123 u124 u125 u126 u127 u128 u129 u130 u131 u132 u133 u134 u135 u136 u137 : Value} {W : World} {K : Act → World → Prop} {Q : Exit → Act → World → Prop} {bs bp bt bq : Nat} {zs zp zt zq : Int} (Hs : IntAt W bs (zs)) (Hp : IntAt W bp (zp)) (Ht : IntAt W bt (zt)) (Hq : IntAt W bq (zq)) (Zs : Sz 6 (zs)) (Zp : Sz 7 (zp)) (Zt : Sz 6 (zt)) (Zq : Sz 7 (zq)) {v1 v3 : Int} (es1 : Hid (cmpN ((zs.natAbs : Nat) : Int) zp = v1)) (hv1 : v1 ≤ 0) (et1 : Hid (cmpN ((zt.natAbs : Nat) : Int) zq = v3)) (hv3 : v3 ≤ 0)
    (hK : ∀ (v97 v98 v99 v100 v101 v102 v103 v104 v105 v106 v107 v108 v109 v110 v111 v112 v113 v114 v115 v116 v117 v118 v119 v120 v121 v122 : Value) (w' : World), Below W.heap.size W w' → K ⟨#[u0, u1, u2, u3, u4, u5, u6, u7, u8, .pointer (some ⟨bs, 0, none⟩), .pointer (some ⟨bt, 0, none⟩), .pointer (some ⟨bp, 0, none⟩), u12, u13, .pointer (some ⟨bq, 0, none⟩), u15, u16, .bool true, u18, u19, u20, u21, u22, u23, u24, u25, u26, u27, u28, u29, u30, u31, u32, u33, u34, u35, u36, u37, u38, u39, u40, u41, u42, u43, u44, u45, u46, u47, u48, u49, u50, u51, u52, u53, u54, u55, u56, u57, u58, u59, u60, u61, u62, u63, u64, u65, u66, u67, u68, u69, u70, u71, u72, u73, u74, u75, u76, u77, u78, u79, u80, u81, u82, u83, u84, u85, u86, u87, u88, u89, u90, u91, u92, u93, u94, u95, u96, v97, v98, v99, v100, v101, v102, v103, v104, v105, v106, v107, v108, v109, v110, v111, v112, v113, v114, v115, v116, v117, v118, v119, v120, v121, v122, u123, u124, u125, u126, u127, u128, u129, u130, u131, u132, u133, u134, u135, u136, u137], []⟩ w') :
    Code.wp Tryd.prog (regionOf 11 Tryd.f5) (Exit.then K Q) ⟨#[u0, u1, u2, u3, u4, u5, u6, u7, u8, .pointer (some ⟨bs, 0, none⟩), .pointer (some ⟨bt, 0, none⟩), .pointer (some ⟨bp, 0, none⟩), u12, u13, .pointer (some ⟨bq, 0, none⟩), u15, u16, u17, u18, u19, u20, u21, u22, u23, u24, u25, u26, u27, u28, u29, u30, u31, u32, u33, u34, u35, u36, u37, u38, u39, u40, u41, u42, u43, u44, u45, u46, u47, u48, u49, u50, u51, u52, u53, u54, u55, u56, u57, u58, u59, u60, u61, u62, u63, u64, u65, u66, u67, u68, u69, u70, u71, u72, u73, u74, u75, u76, u77, u78, u79, u80, u81, u82, u83, u84, u85, u86, u87, u88, u89, u90, u91, u92, u93, u94, u95, u96, u97, u98, u99, u100, u101, u102, u103, u104, u105, u106, u107, u108, u109, u110, u111, u112, u113, u114, u115, u116, u117, u118, u119, u120, u121, u122, u123, u124, u125, u126, u127, u128, u129, u130, u131, u132, u133, u134, u135, u136, u137], []⟩ W := by
  conv => arg 2; whnf
  obtain ⟨gs, As, ns, cs, Ss, Is⟩ := Hs
  obtain ⟨gp, Ap, np, cp, Sp, Ip⟩ := Hp
  obtain ⟨gt, At, nt, ct, St, It⟩ := Ht
  obtain ⟨gq, Aq, nq, cq, Sq, Iq⟩ := Hq
  have Zu1 : Sz 6 (((zs.natAbs : Nat) : Int)) := Sz.abs Zs
  have Zu3 : Sz 6 (((zt.natAbs : Nat) : Int)) := Sz.abs Zt
  have HS : Hid (∀ V, Below W.heap.size W V → V.cell? ⟨bs, 0, none⟩ = some (.bool gs) ∧ V.cell? ⟨bs, 1, none⟩ = some (.slice As ns cs) ∧ V.cell? ⟨bp, 0, none⟩ = some (.bool gp) ∧ V.cell? ⟨bp, 1, none⟩ = some (.slice Ap np cp) ∧ V.cell? ⟨bt, 0, none⟩ = some (.bool gt) ∧ V.cell? ⟨bt, 1, none⟩ = some (.slice At nt ct) ∧ V.cell? ⟨bq, 0, none⟩ = some (.bool gq) ∧ V.cell? ⟨bq, 1, none⟩ = some (.slice Aq nq cq)) := fun V hW => ⟨(Ss.after hW).1, (Ss.after hW).2.1, (Sp.after hW).1, (Sp.after hW).2.1, (St.after hW).1, (St.after hW).2.1, (Sq.after hW).1, (Sq.after hW).2.1⟩
  have Du0 : Below W.heap.size W W.drew := (Below.refl _ _).drew
  refine wp_region_seq (.pre [(0, true), (2, true), (1, false), (3, false), (4, true), (5, true), (6, true), (7, true), (8, true), (9, true), (10, true), (11, true), (12, true), (13, true), (15, true), (14, false), (16, false), (17, true), (18, true), (19, true), (20, true), (21, true), (22, true), (23, true), (24, true)] (.pre [(25, true), (26, true)] .done)) (fun W => W.cell? ⟨bs, 0, none⟩ = some (.bool gs) ∧ W.cell? ⟨bs, 1, none⟩ = some (.slice As ns cs) ∧ W.cell? ⟨bp, 0, none⟩ = some (.bool gp) ∧ W.cell? ⟨bp, 1, none⟩ = some (.slice Ap np cp) ∧ W.cell? ⟨bt, 0, none⟩ = some (.bool gt) ∧ W.cell? ⟨bt, 1, none⟩ = some (.slice At nt ct) ∧ W.cell? ⟨bq, 0, none⟩ = some (.bool gq) ∧ W.cell? ⟨bq, 1, none⟩ = some (.slice Aq nq cq)) (by kernel_rfl) (by kernel_rfl) ?_ (by kernel_rfl) (HS.out _ Du0) ?_
  · refine chk_pre _ _ _ (by as_aux_lemma => kernel_rfl) ?_
    refine chk_pre _ _ _ (by as_aux_lemma => kernel_rfl) ?_
    exact (by as_aux_lemma => kernel_rfl)
  refine seq_take _ ?_ rfl (Or.inl ⟨by rfl, ?_⟩) ?_
  rotate_left
  · (intro w hSw; (try dsimp only at hSw); go_simp; (try with_reducible rfl))
  try simp only [Act.put, List.setIfInBounds_toArray, List.set_cons_zero, List.set_cons_succ]
  refine seq_take _ ?_ rfl (Or.inl ⟨by rfl, ?_⟩) ?_
  rotate_left
  · (intro w hSw; (try dsimp only at hSw); go_simp; (try with_reducible rfl))
  try simp only [Act.put, List.setIfInBounds_toArray, List.set_cons_zero, List.set_cons_succ]
  refine seq_one _ rfl fun K hK => ?_
  go_simp
  (with_reducible refine (rabs_z gs As ns cs _ (Is.below Du0) Zs).mono ?_)
  rintro e vu1 ⟨gu1, Au1, nu1, cu1, rfl, iu1, bu1⟩
  have Du1 : Below W.heap.size W vu1 := Below.trans Du0 (bu1.mono (Below.size Du0))
  go_wp2_with fail
  refine hK.out _ _ (HS.out _ Du1) (fun hHeld => ?_)
  clear hK K hHeld
  try simp only [Act.put, List.setIfInBounds_toArray, List.set_cons_zero, List.set_cons_succ]
  refine seq_one _ rfl fun K hK => ?_
  go_simp
  (with_reducible refine (rcmp_z gu1 gp Au1 Ap nu1 cu1 np cp _ (v1) iu1 (Ip.below Du1) Zu1 Zp es1.out).mono ?_)
  rintro e vu2 ⟨rfl, bu2⟩
  have Du2 : Below W.heap.size W vu2 := Below.trans Du1 (bu2.mono (Below.size Du1))
  go_wp2_with fail
  refine hK.out _ _ (HS.out _ Du2) (fun hHeld => ?_)
  clear hK K hHeld
  try simp only [Act.put, List.setIfInBounds_toArray, List.set_cons_zero, List.set_cons_succ]
  refine seq_take _ ?_ rfl (Or.inl ⟨by rfl, ?_⟩) ?_
  rotate_left
  · (intro w hSw; (try dsimp only at hSw); go_simp; (try with_reducible rfl))
  try simp only [Act.put, List.setIfInBounds_toArray, List.set_cons_zero, List.set_cons_succ]
  refine seq_take _ ?_ rfl (Or.inl ⟨by rfl, ?_⟩) ?_
  rotate_left
  · (intro w hSw; (try dsimp only at hSw); go_simp; (try with_reducible rfl))
  try simp only [Act.put, List.setIfInBounds_toArray, List.set_cons_zero, List.set_cons_succ]
  refine seq_take _ _ rfl (Or.inr ⟨by rfl, rfl⟩) ?_
  try simp only [Act.put, List.setIfInBounds_toArray, List.set_cons_zero, List.set_cons_succ]
  refine seq_take _ _ rfl (Or.inr ⟨by rfl, rfl⟩) ?_
  try simp only [Act.put, List.setIfInBounds_toArray, List.set_cons_zero, List.set_cons_succ]
  refine seq_take _ _ rfl (Or.inr ⟨by rfl, rfl⟩) ?_
  try simp only [Act.put, List.setIfInBounds_toArray, List.set_cons_zero, List.set_cons_succ]
  refine seq_take _ _ rfl (Or.inr ⟨by rfl, rfl⟩) ?_
  try simp only [Act.put, List.setIfInBounds_toArray, List.set_cons_zero, List.set_cons_succ]
  refine seq_take _ _ rfl (Or.inr ⟨by rfl, rfl⟩) ?_
  try simp only [Act.put, List.setIfInBounds_toArray, List.set_cons_zero, List.set_cons_succ]
  refine seq_take _ ?_ rfl (Or.inl ⟨by rfl, ?_⟩) ?_
  rotate_left
  · (intro w hSw; (try dsimp only at hSw); go_simp; (try with_reducible rfl))
  try simp only [Act.put, List.setIfInBounds_toArray, List.set_cons_zero, List.set_cons_succ]
  refine seq_take _ ?_ rfl (Or.inl ⟨by rfl, ?_⟩) ?_
  rotate_left
  · (intro w hSw; (try dsimp only at hSw); go_simp; (try with_reducible rfl))
  try simp only [Act.put, List.setIfInBounds_toArray, List.set_cons_zero, List.set_cons_succ]
  refine seq_take _ ?_ rfl (Or.inl ⟨by rfl, ?_⟩) ?_
  rotate_left
  · (intro w hSw; (try dsimp only at hSw); go_simp; (try with_reducible rfl))
  try simp only [Act.put, List.setIfInBounds_toArray, List.set_cons_zero, List.set_cons_succ]
  refine seq_take _ ?_ rfl (Or.inl ⟨by rfl, ?_⟩) ?_
  rotate_left
  · (intro w hSw; (try dsimp only at hSw); go_simp; (try with_reducible rfl))
  try simp only [Act.put, List.setIfInBounds_toArray, List.set_cons_zero, List.set_cons_succ]
  refine seq_one _ rfl fun K hK => ?_
  go_simp
  (with_reducible refine (rabs_z gt At nt ct _ (It.below Du2) Zt).mono ?_)
  rintro e vu3 ⟨gu3, Au3, nu3, cu3, rfl, iu3, bu3⟩
  have Du3 : Below W.heap.size W vu3 := Below.trans Du2 (bu3.mono (Below.size Du2))
  go_wp2_with fail
  refine hK.out _ _ (HS.out _ Du3) (fun hHeld => ?_)
  clear hK K hHeld
  try simp only [Act.put, List.setIfInBounds_toArray, List.set_cons_zero, List.set_cons_succ]
  as_aux_lemma =>
    refine seq_one _ rfl fun K hK => ?_
    go_simp
    (with_reducible refine (rcmp_z gu3 gq Au3 Aq nu3 cu3 nq cq _ (v3) iu3 (Iq.below Du3) Zu3 Zq et1.out).mono ?_)
    rintro e vu4 ⟨rfl, bu4⟩
    have Du4 : Below W.heap.size W vu4 := Below.trans Du3 (bu4.mono (Below.size Du3))
    go_wp2_with fail
    refine hK.out _ _ (HS.out _ Du4) (fun hHeld => ?_)
    clear hK K hHeld
    try simp only [Act.put, List.setIfInBounds_toArray, List.set_cons_zero, List.set_cons_succ]
    refine seq_take _ ?_ rfl (Or.inl ⟨by rfl, ?_⟩) ?_
    rotate_left
    · (intro w hSw; (try dsimp only at hSw); go_simp; (try with_reducible rfl))
    try simp only [Act.put, List.setIfInBounds_toArray, List.set_cons_zero, List.set_cons_succ]
    refine seq_take _ ?_ rfl (Or.inl ⟨by rfl, ?_⟩) ?_
    rotate_left
    · (intro w hSw; (try dsimp only at hSw); go_simp; (try with_reducible rfl))
    try simp only [Act.put, List.setIfInBounds_toArray, List.set_cons_zero, List.set_cons_succ]
    refine seq_take _ _ rfl (Or.inr ⟨by rfl, rfl⟩) ?_
    try simp only [Act.put, List.setIfInBounds_toArray, List.set_cons_zero, List.set_cons_succ]
    refine seq_take _ _ rfl (Or.inr ⟨by rfl, rfl⟩) ?_
    try simp only [Act.put, List.setIfInBounds_toArray, List.set_cons_zero, List.set_cons_succ]
    refine seq_take _ _ rfl (Or.inr ⟨by rfl, rfl⟩) ?_
    try simp only [Act.put, List.setIfInBounds_toArray, List.set_cons_zero, List.set_cons_succ]
    refine seq_take _ _ rfl (Or.inr ⟨by rfl, rfl⟩) ?_
    try simp only [Act.put, List.setIfInBounds_toArray, List.set_cons_zero, List.set_cons_succ]
    refine seq_take _ _ rfl (Or.inr ⟨by rfl, rfl⟩) ?_
    try simp only [Act.put, List.setIfInBounds_toArray, List.set_cons_zero, List.set_cons_succ]
    refine seq_take _ ?_ rfl (Or.inl ⟨by rfl, ?_⟩) ?_
    rotate_left
    · (intro w hSw; (try dsimp only at hSw); go_simp; (try with_reducible rfl))
    try simp only [Act.put, List.setIfInBounds_toArray, List.set_cons_zero, List.set_cons_succ]
    refine seq_take _ ?_ rfl (Or.inl ⟨by rfl, ?_⟩) ?_
    rotate_left
    · (intro w hSw; (try dsimp only at hSw); go_simp; (try with_reducible rfl))
    try simp only [Act.put, List.setIfInBounds_toArray, List.set_cons_zero, List.set_cons_succ]
    refine seq_take _ ?_ rfl (Or.inl ⟨by rfl, ?_⟩) ?_
    rotate_left
    · (intro w hSw; (try dsimp only at hSw); go_simp; (try with_reducible rfl))
    try simp only [Act.put, List.setIfInBounds_toArray, List.set_cons_zero, List.set_cons_succ]
    refine NoPanic.normal ?_
    exact hK _ _ _ _ _ _ _ _ _ _ _ _ _ _ _ _ _ _ _ _ _ _ _ _ _ _ _ Du4
set_option maxRecDepth 1000000 in
set_option maxHeartbeats 4000000 in
theorem ext_r11ab {u0 u1 u2 u3 u4 u5 u6 u7 u8 u12 u13 u15 u16 u17 u18 u19 u20 u21 u22 u23 u24 u25 u26 u27 u28 u29 u30 u31 u32 u33 u34 u35 u36 u37 u38 u39 u40 u41 u42 u43 u44 u45 u46 u47 u48 u49 u50 u51 u52 u53 u54 u55 u56 u57 u58 u59 u60 u61 u62 u63 u64 u65 u66 u67 u68 u69 u70 u71 u72 u73 u74 u75 u76 u77 u78 u79 u80 u81 u82 u83 u84 u85 u86 u87 u88 u89 u90 u91 u92 u93 u94 u95 u96 u97 u98 u99 u100 u101 u102 u103 u104 u105 u106 u107 u108 u109 u110 u111 u112 u113 u114 u115 u116 u117 u118 u119 u120 u121 u122 u123 u124 u125 u126 u127 u128 u129 u130 u131 u132 u133 u134 u135 u136 u137 : Value} {W : World} {K : Act → World → Prop} {Q : Exit → Act → World → Prop} {bs bp bt bq : Nat} {zs zp zt zq : Int} (Hs : IntAt W bs (zs)) (Hp : IntAt W bp (zp)) (Ht : IntAt W bt (zt)) (Hq : IntAt W bq (zq)) (Zs : Sz 6 (zs)) (Zp : Sz 7 (zp)) (Zt : Sz 6 (zt)) (Zq : Sz 7 (zq)) {v1 v3 v4 : Int} (es1 : Hid (cmpN ((zs.natAbs : Nat) : Int) zp = v1)) (hv1 : v1 ≤ 0) (et1 : Hid (cmpN ((zt.natAbs : Nat) : Int) zq = v3)) (hv3 : decide (v3 ≤ 0) = false) (et2 : Hid (cmpN ((zt.natAbs : Nat) : Int) 1 = v4)) (hv4 : v4 ≤ 0)
    (hK : ∀ (v97 v98 v99 v100 v101 v102 v103 v104 v105 v106 v107 v108 v109 v110 v111 v112 v113 v114 v115 v116 v117 v118 v119 v120 v121 v122 : Value) (w' : World), Below W.heap.size W w' → K ⟨#[u0, u1, u2, u3, u4, u5, u6, u7, u8, .pointer (some ⟨bs, 0, none⟩), .pointer (some ⟨bt, 0, none⟩), .pointer (some ⟨bp, 0, none⟩), u12, u13, .pointer (some ⟨bq, 0, none⟩), u15, u16, .bool true, u18, u19, u20, u21, u22, u23, u24, u25, u26, u27, u28, u29, u30, u31, u32, u33, u34, u35, u36, u37, u38, u39, u40, u41, u42, u43, u44, u45, u46, u47, u48, u49, u50, u51, u52, u53, u54, u55, u56, u57, u58, u59, u60, u61, u62, u63, u64, u65, u66, u67, u68, u69, u70, u71, u72, u73, u74, u75, u76, u77, u78, u79, u80, u81, u82, u83, u84, u85, u86, u87, u88, u89, u90, u91, u92, u93, u94, u95, u96, v97, v98, v99, v100, v101, v102, v103, v104, v105, v106, v107, v108, v109, v110, v111, v112, v113, v114, v115, v116, v117, v118, v119, v120, v121, v122, u123, u124, u125, u126, u127, u128, u129, u130, u131, u132, u133, u134, u135, u136, u137], []⟩ w') :
    Code.wp Tryd.prog (regionOf 11 Tryd.f5) (Exit.then K Q) ⟨#[u0, u1, u2, u3, u4, u5, u6, u7, u8, .pointer (some ⟨bs, 0, none⟩), .pointer (some ⟨bt, 0, none⟩), .pointer (some ⟨bp, 0, none⟩), u12, u13, .pointer (some ⟨bq, 0, none⟩), u15, u16, u17, u18, u19, u20, u21, u22, u23, u24, u25, u26, u27, u28, u29, u30, u31, u32, u33, u34, u35, u36, u37, u38, u39, u40, u41, u42, u43, u44, u45, u46, u47, u48, u49, u50, u51, u52, u53, u54, u55, u56, u57, u58, u59, u60, u61, u62, u63, u64, u65, u66, u67, u68, u69, u70, u71, u72, u73, u74, u75, u76, u77, u78, u79, u80, u81, u82, u83, u84, u85, u86, u87, u88, u89, u90, u91, u92, u93, u94, u95, u96, u97, u98, u99, u100, u101, u102, u103, u104, u105, u106, u107, u108, u109, u110, u111, u112, u113, u114, u115, u116, u117, u118, u119, u120, u121, u122, u123, u124, u125, u126, u127, u128, u129, u130, u131, u132, u133, u134, u135, u136, u137], []⟩ W := by
  conv => arg 2; whnf
  obtain ⟨gs, As, ns, cs, Ss, Is⟩ := Hs
  obtain ⟨gp, Ap, np, cp, Sp, Ip⟩ := Hp
  obtain ⟨gt, At, nt, ct, St, It⟩ := Ht
  obtain ⟨gq, Aq, nq, cq, Sq, Iq⟩ := Hq
  have Zu1 : Sz 6 (((zs.natAbs : Nat) : Int)) := Sz.abs Zs
  have Zu3 : Sz 6 (((zt.natAbs : Nat) : Int)) := Sz.abs Zt
  have Z1t : Sz 1 (1 : Int) := Sz.of (by decide) (by decide)
  have HS : Hid (∀ V, Below W.heap.size W V → V.cell? ⟨bs, 0, none⟩ = some (.bool gs) ∧ V.cell? ⟨bs, 1, none⟩ = some (.slice As ns cs) ∧ V.cell? ⟨bp, 0, none⟩ = some (.bool gp) ∧ V.cell? ⟨bp, 1, none⟩ = some (.slice Ap np cp) ∧ V.cell? ⟨bt, 0, none⟩ = some (.bool gt) ∧ V.cell? ⟨bt, 1, none⟩ = some (.slice At nt ct) ∧ V.cell? ⟨bq, 0, none⟩ = some (.bool gq) ∧ V.cell? ⟨bq, 1, none⟩ = some (.slice Aq nq cq)) := fun V hW => ⟨(Ss.after hW).1, (Ss.after hW).2.1, (Sp.after hW).1, (Sp.after hW).2.1, (St.after hW).1, (St.after hW).2.1, (Sq.after hW).1, (Sq.after hW).2.1⟩
  have Du0 : Below W.heap.size W W.drew := (Below.refl _ _).drew
  refine wp_region_seq (.pre [(0, true), (2, true), (1, false), (3, false), (4, true), (5, true), (6, true), (7, true), (8, true), (9, true), (10, true), (11, true), (12, true), (13, true), (15, true), (14, false), (16, false), (17, true), (18, true), (19, true), (20, false), (21, false), (22, false), (23, true), (24, true)] (.pre [(25, true), (26, true)] .done)) (fun W => W.cell? ⟨bs, 0, none⟩ = some (.bool gs) ∧ W.cell? ⟨bs, 1, none⟩ = some (.slice As ns cs) ∧ W.cell? ⟨bp, 0, none⟩ = some (.bool gp) ∧ W.cell? ⟨bp, 1, none⟩ = some (.slice Ap np cp) ∧ W.cell? ⟨bt, 0, none⟩ = some (.bool gt) ∧ W.cell? ⟨bt, 1, none⟩ = some (.slice At nt ct) ∧ W.cell? ⟨bq, 0, none⟩ = some (.bool gq) ∧ W.cell? ⟨bq, 1, none⟩ = some (.slice Aq nq cq)) (by kernel_rfl) (by kernel_rfl) ?_ (by kernel_rfl) (HS.out _ Du0) ?_
  · refine chk_pre _ _ _ (by as_aux_lemma => kernel_rfl) ?_
    refine chk_pre _ _ _ (by as_aux_lemma => kernel_rfl) ?_
    exact (by as_aux_lemma => kernel_rfl)
  refine seq_take _ ?_ rfl (Or.inl ⟨by rfl, ?_⟩) ?_
  rotate_left
  · (intro w hSw; (try dsimp only at hSw); go_simp; (try with_reducible rfl))
  try simp only [Act.put, List.setIfInBounds_toArray, List.set_cons_zero, List.set_cons_succ]
  refine seq_take _ ?_ rfl (Or.inl ⟨by rfl, ?_⟩) ?_
  rotate_left
  · (intro w hSw; (try dsimp only at hSw); go_simp; (try with_reducible rfl))
  try simp only [Act.put, List.setIfInBounds_toArray, List.set_cons_zero, List.set_cons_succ]
  refine seq_one _ rfl fun K hK => ?_
  go_simp
  (with_reducible refine (rabs_z gs As ns cs _ (Is.below Du0) Zs).mono ?_)
  rintro e vu1 ⟨gu1, Au1, nu1, cu1, rfl, iu1, bu1⟩
  have Du1 : Below W.heap.size W vu1 := Below.trans Du0 (bu1.mono (Below.size Du0))
  go_wp2_with fail
  refine hK.out _ _ (HS.out _ Du1) (fun hHeld => ?_)
  clear hK K hHeld
  try simp only [Act.put, List.setIfInBounds_toArray, List.set_cons_zero, List.set_cons_succ]
  refine seq_one _ rfl fun K hK => ?_
  go_simp
  (with_reducible refine (rcmp_z gu1 gp Au1 Ap nu1 cu1 np cp _ (v1) iu1 (Ip.below Du1) Zu1 Zp es1.out).mono ?_)
  rintro e vu2 ⟨rfl, bu2⟩
  have Du2 : Below W.heap.size W vu2 := Below.trans Du1 (bu2.mono (Below.size Du1))
  go_wp2_with fail
  refine hK.out _ _ (HS.out _ Du2) (fun hHeld => ?_)
  clear hK K hHeld
  try simp only [Act.put, List.setIfInBounds_toArray, List.set_cons_zero, List.set_cons_succ]
  refine seq_take _ ?_ rfl (Or.inl ⟨by rfl, ?_⟩) ?_
  rotate_left
  · (intro w hSw; (try dsimp only at hSw); go_simp; (try with_reducible rfl))
  try simp only [Act.put, List.setIfInBounds_toArray, List.set_cons_zero, List.set_cons_succ]
  refine seq_take _ ?_ rfl (Or.inl ⟨by rfl, ?_⟩) ?_
  rotate_left
  · (intro w hSw; (try dsimp only at hSw); go_simp; (try with_reducible rfl))
  try simp only [Act.put, List.setIfInBounds_toArray, List.set_cons_zero, List.set_cons_succ]
  refine seq_take _ _ rfl (Or.inr ⟨by rfl, rfl⟩) ?_
  try simp only [Act.put, List.setIfInBounds_toArray, List.set_cons_zero, List.set_cons_succ]
  refine seq_take _ _ rfl (Or.inr ⟨by rfl, rfl⟩) ?_
  try simp only [Act.put, List.setIfInBounds_toArray, List.set_cons_zero, List.set_cons_succ]
  refine seq_take _ _ rfl (Or.inr ⟨by rfl, rfl⟩) ?_
  try simp only [Act.put, List.setIfInBounds_toArray, List.set_cons_zero, List.set_cons_succ]
  refine seq_take _ _ rfl (Or.inr ⟨by rfl, rfl⟩) ?_
  try simp only [Act.put, List.setIfInBounds_toArray, List.set_cons_zero, List.set_cons_succ]
  refine seq_take _ _ rfl (Or.inr ⟨by rfl, rfl⟩) ?_
  try simp only [Act.put, List.setIfInBounds_toArray, List.set_cons_zero, List.set_cons_succ]
  refine seq_take _ ?_ rfl (Or.inl ⟨by rfl, ?_⟩) ?_
  rotate_left
  · (intro w hSw; (try dsimp only at hSw); go_simp; (try with_reducible rfl))
  try simp only [Act.put, List.setIfInBounds_toArray, List.set_cons_zero, List.set_cons_succ]
  refine seq_take _ ?_ rfl (Or.inl ⟨by rfl, ?_⟩) ?_
  rotate_left
  · (intro w hSw; (try dsimp only at hSw); go_simp; (try with_reducible rfl))
  try simp only [Act.put, List.setIfInBounds_toArray, List.set_cons_zero, List.set_cons_succ]
  refine seq_take _ ?_ rfl (Or.inl ⟨by rfl, ?_⟩) ?_
  rotate_left
  · (intro w hSw; (try dsimp only at hSw); go_simp; (try with_reducible rfl))
  try simp only [Act.put, List.setIfInBounds_toArray, List.set_cons_zero, List.set_cons_succ]
  refine seq_take _ ?_ rfl (Or.inl ⟨by rfl, ?_⟩) ?_
  rotate_left
  · (intro w hSw; (try dsimp only at hSw); go_simp; (try with_reducible rfl))
  try simp only [Act.put, List.setIfInBounds_toArray, List.set_cons_zero, List.set_cons_succ]
  refine seq_one _ rfl fun K hK => ?_
  go_simp
  (with_reducible refine (rabs_z gt At nt ct _ (It.below Du2) Zt).mono ?_)
  rintro e vu3 ⟨gu3, Au3, nu3, cu3, rfl, iu3, bu3⟩
  have Du3 : Below W.heap.size W vu3 := Below.trans Du2 (bu3.mono (Below.size Du2))
  go_wp2_with fail
  refine hK.out _ _ (HS.out _ Du3) (fun hHeld => ?_)
  clear hK K hHeld
  try simp only [Act.put, List.setIfInBounds_toArray, List.set_cons_zero, List.set_cons_succ]
  as_aux_lemma =>
    refine seq_one _ rfl fun K hK => ?_
    go_simp
    (with_reducible refine (rcmp_z gu3 gq Au3 Aq nu3 cu3 nq cq _ (v3) iu3 (Iq.below Du3) Zu3 Zq et1.out).mono ?_)
    rintro e vu4 ⟨rfl, bu4⟩
    have Du4 : Below W.heap.size W vu4 := Below.trans Du3 (bu4.mono (Below.size Du3))
    go_wp2_with fail
    refine hK.out _ _ (HS.out _ Du4) (fun hHeld => ?_)
    clear hK K hHeld
    try simp only [Act.put, List.setIfInBounds_toArray, List.set_cons_zero, List.set_cons_succ]
    refine seq_take _ ?_ rfl (Or.inl ⟨by rfl, ?_⟩) ?_
    rotate_left
    · (intro w hSw; (try dsimp only at hSw); go_simp; (try with_reducible rfl))
    try simp only [Act.put, List.setIfInBounds_toArray, List.set_cons_zero, List.set_cons_succ]
    refine seq_take _ ?_ rfl (Or.inl ⟨by rfl, ?_⟩) ?_
    rotate_left
    · (intro w hSw; (try dsimp only at hSw); go_simp; (try with_reducible rfl))
    try simp only [Act.put, List.setIfInBounds_toArray, List.set_cons_zero, List.set_cons_succ]
    refine seq_take _ ?_ rfl (Or.inl ⟨by rfl, ?_⟩) ?_
    rotate_left
    · (intro w hSw; (try dsimp only at hSw); go_simp; (try with_reducible rfl))
    try simp only [Act.put, List.setIfInBounds_toArray, List.set_cons_zero, List.set_cons_succ]
    refine seq_one _ rfl fun K hK => ?_
    go_simp
    (with_reducible refine (rabs_z gt At nt ct _ (It.below Du4) Zt).mono ?_)
    rintro e vu5 ⟨gu5, Au5, nu5, cu5, rfl, iu5, bu5⟩
    have Du5 : Below W.heap.size W vu5 := Below.trans Du4 (bu5.mono (Below.size Du4))
    go_wp2_with fail
    refine hK.out _ _ (HS.out _ Du5) (fun hHeld => ?_)
    clear hK K hHeld
    try simp only [Act.put, List.setIfInBounds_toArray, List.set_cons_zero, List.set_cons_succ]
    refine seq_one _ rfl fun K hK => ?_
    go_simp
    (with_reducible refine (rof_any (1) _ (by decide) (by decide)).mono ?_)
    rintro e vu6 ⟨gu6, Au6, nu6, cu6, rfl, iu6, bu6⟩
    have Du6 : Below W.heap.size W vu6 := Below.trans Du5 (bu6.mono (Below.size Du5))
    go_wp2_with fail
    refine hK.out _ _ (HS.out _ Du6) (fun hHeld => ?_)
    clear hK K hHeld
    try simp only [Act.put, List.setIfInBounds_toArray, List.set_cons_zero, List.set_cons_succ]
    refine seq_one _ rfl fun K hK => ?_
    go_simp
    (with_reducible refine (rcmp_z gu5 gu6 Au5 Au6 nu5 cu5 nu6 cu6 _ (v4) (iu5.below bu6) iu6 (Sz.abs Zt) Z1t et2.out).mono ?_)
    rintro e vu7 ⟨rfl, bu7⟩
    have Du7 : Below W.heap.size W vu7 := Below.trans Du6 (bu7.mono (Below.size Du6))
    go_wp2_with fail
    refine hK.out _ _ (HS.out _ Du7) (fun hHeld => ?_)
    clear hK K hHeld
    try simp only [Act.put, List.setIfInBounds_toArray, List.set_cons_zero, List.set_cons_succ]
    refine seq_take _ ?_ rfl (Or.inl ⟨by rfl, ?_⟩) ?_
    rotate_left
    · (intro w hSw; (try dsimp only at hSw); go_simp; (try with_reducible rfl))
    try simp only [Act.put, List.setIfInBounds_toArray, List.set_cons_zero, List.set_cons_succ]
    refine seq_take _ ?_ rfl (Or.inl ⟨by rfl, ?_⟩) ?_
    rotate_left
    · (intro w hSw; (try dsimp only at hSw); go_simp; (try with_reducible rfl))
    try simp only [Act.put, List.setIfInBounds_toArray, List.set_cons_zero, List.set_cons_succ]
    refine seq_take _ ?_ rfl (Or.inl ⟨by rfl, ?_⟩) ?_
    rotate_left
    · (intro w hSw; (try dsimp only at hSw); go_simp; (try with_reducible rfl))
    try simp only [Act.put, List.setIfInBounds_toArray, List.set_cons_zero, List.set_cons_succ]
    refine seq_take _ ?_ rfl (Or.inl ⟨by rfl, ?_⟩) ?_
    rotate_left
    · (intro w hSw; (try dsimp only at hSw); go_simp; (try with_reducible rfl))
    try simp only [Act.put, List.setIfInBounds_toArray, List.set_cons_zero, List.set_cons_succ]
    refine NoPanic.normal ?_
    exact hK _ _ _ _ _ _ _ _ _ _ _ _ _ _ _ _ _ _ _ _ _ _ _ _ _ _ _ Du7
set_option maxRecDepth 1000000 in
set_option maxHeartbeats 4000000 in
theorem ext_r11ba {u0 u1 u2 u3 u4 u5 u6 u7 u8 u12 u13 u15 u16 u17 u18 u19 u20 u21 u22 u23 u24 u25 u26 u27 u28 u29 u30 u31 u32 u33 u34 u35 u36 u37 u38 u39 u40 u41 u42 u43 u44 u45 u46 u47 u48 u49 u50 u51 u52 u53 u54 u55 u56 u57 u58 u59 u60 u61 u62 u63 u64 u65 u66 u67 u68 u69 u70 u71 u72 u73 u74 u75 u76 u77 u78 u79 u80 u81 u82 u83 u84 u85 u86 u87 u88 u89 u90 u91 u92 u93 u94 u95 u96 u97 u98 u99 u100 u101 u102 u103 u104 u105 u106 u107 u108 u109 u110 u111 u112 u113 u114 u115 u116 u117 u118 u119 u120 u121 u122 u123 u124 u125 u126 u127 u128 u129 u130 u131 u132 u133 u134 u135 u136 u137 : Value} {W : World} {K : Act → World → Prop} {Q : Exit → Act → World → Prop} {bs bp bt bq : Nat} {zs zp zt zq : Int} (Hs : IntAt W bs (zs)) (Hp : IntAt W bp (zp)) (Ht : IntAt W bt (zt)) (Hq : IntAt W bq (zq)) (Zs : Sz 6 (zs)) (Zp : Sz 7 (zp)) (Zt : Sz 6 (zt)) (Zq : Sz 7 (zq)) {v1 v2 v3 : Int} (es1 : Hid (cmpN ((zs.natAbs : Nat) : Int) zp = v1)) (hv1 : decide (v1 ≤ 0) = false) (es2 : Hid (cmpN ((zs.natAbs : Nat) : Int) 1 = v2)) (hv2 : v2 ≤ 0) (et1 : Hid (cmpN ((zt.natAbs : Nat) : Int) zq = v3)) (hv3 : v3 ≤ 0)
    (hK : ∀ (v97 v98 v99 v100 v101 v102 v103 v104 v105 v106 v107 v108 v109 v110 v111 v112 v113 v114 v115 v116 v117 v118 v119 v120 v121 v122 : Value) (w' : World), Below W.heap.size W w' → K ⟨#[u0, u1, u2, u3, u4, u5, u6, u7, u8, .pointer (some ⟨bs, 0, none⟩), .pointer (some ⟨bt, 0, none⟩), .pointer (some ⟨bp, 0, none⟩), u12, u13, .pointer (some ⟨bq, 0, none⟩), u15, u16, .bool true, u18, u19, u20, u21, u22, u23, u24, u25, u26, u27, u28, u29, u30, u31, u32, u33, u34, u35, u36, u37, u38, u39, u40, u41, u42, u43, u44, u45, u46, u47, u48, u49, u50, u51, u52, u53, u54, u55, u56, u57, u58, u59, u60, u61, u62, u63, u64, u65, u66, u67, u68, u69, u70, u71, u72, u73, u74, u75, u76, u77, u78, u79, u80, u81, u82, u83, u84, u85, u86, u87, u88, u89, u90, u91, u92, u93, u94, u95, u96, v97, v98, v99, v100, v101, v102, v103, v104, v105, v106, v107, v108, v109, v110, v111, v112, v113, v114, v115, v116, v117, v118, v119, v120, v121, v122, u123, u124, u125, u126, u127, u128, u129, u130, u131, u132, u133, u134, u135, u136, u137], []⟩ w') :
    Code.wp Tryd.prog (regionOf 11 Tryd.f5) (Exit.then K Q) ⟨#[u0, u1, u2, u3, u4, u5, u6, u7, u8, .pointer (some ⟨bs, 0, none⟩), .pointer (some ⟨bt, 0, none⟩), .pointer (some ⟨bp, 0, none⟩), u12, u13, .pointer (some ⟨bq, 0, none⟩), u15, u16, u17, u18, u19, u20, u21, u22, u23, u24, u25, u26, u27, u28, u29, u30, u31, u32, u33, u34, u35, u36, u37, u38, u39, u40, u41, u42, u43, u44, u45, u46, u47, u48, u49, u50, u51, u52, u53, u54, u55, u56, u57, u58, u59, u60, u61, u62, u63, u64, u65, u66, u67, u68, u69, u70, u71, u72, u73, u74, u75, u76, u77, u78, u79, u80, u81, u82, u83, u84, u85, u86, u87, u88, u89, u90, u91, u92, u93, u94, u95, u96, u97, u98, u99, u100, u101, u102, u103, u104, u105, u106, u107, u108, u109, u110, u111, u112, u113, u114, u115, u116, u117, u118, u119, u120, u121, u122, u123, u124, u125, u126, u127, u128, u129, u130, u131, u132, u133, u134, u135, u136, u137], []⟩ W := by
  conv => arg 2; whnf
  obtain ⟨gs, As, ns, cs, Ss, Is⟩ := Hs
  obtain ⟨gp, Ap, np, cp, Sp, Ip⟩ := Hp
  obtain ⟨gt, At, nt, ct, St, It⟩ := Ht
  obtain ⟨gq, Aq, nq, cq, Sq, Iq⟩ := Hq
  have Zu1 : Sz 6 (((zs.natAbs : Nat) : Int)) := Sz.abs Zs
  have Z1s : Sz 1 (1 : Int) := Sz.of (by decide) (by decide)
  have Zu6 : Sz 6 (((zt.natAbs : Nat) : Int)) := Sz.abs Zt
  have HS : Hid (∀ V, Below W.heap.size W V → V.cell? ⟨bs, 0, none⟩ = some (.bool gs) ∧ V.cell? ⟨bs, 1, none⟩ = some (.slice As ns cs) ∧ V.cell? ⟨bp, 0, none⟩ = some (.bool gp) ∧ V.cell? ⟨bp, 1, none⟩ = some (.slice Ap np cp) ∧ V.cell? ⟨bt, 0, none⟩ = some (.bool gt) ∧ V.cell? ⟨bt, 1, none⟩ = some (.slice At nt ct) ∧ V.cell? ⟨bq, 0, none⟩ = some (.bool gq) ∧ V.cell? ⟨bq, 1, none⟩ = some (.slice Aq nq cq)) := fun V hW => ⟨(Ss.after hW).1, (Ss.after hW).2.1, (Sp.after hW).1, (Sp.after hW).2.1, (St.after hW).1, (St.after hW).2.1, (Sq.after hW).1, (Sq.after hW).2.1⟩
  have Du0 : Below W.heap.size W W.drew := (Below.refl _ _).drew
  refine wp_region_seq (.pre [(0, true), (2, true), (1, false), (3, false), (4, true), (5, true), (6, true), (7, false), (8, false), (9, false), (10, true), (11, true), (12, true), (13, true), (15, true), (14, false), (16, false), (17, true), (18, true), (19, true), (20, true), (21, true), (22, true), (23, true), (24, true)] (.pre [(25, true), (26, true)] .done)) (fun W => W.cell? ⟨bs, 0, none⟩ = some (.bool gs) ∧ W.cell? ⟨bs, 1, none⟩ = some (.slice As ns cs) ∧ W.cell? ⟨bp, 0, none⟩ = some (.bool gp) ∧ W.cell? ⟨bp, 1, none⟩ = some (.slice Ap np cp) ∧ W.cell? ⟨bt, 0, none⟩ = some (.bool gt) ∧ W.cell? ⟨bt, 1, none⟩ = some (.slice At nt ct) ∧ W.cell? ⟨bq, 0, none⟩ = some (.bool gq) ∧ W.cell? ⟨bq, 1, none⟩ = some (.slice Aq nq cq)) (by kernel_rfl) (by kernel_rfl) ?_ (by kernel_rfl) (HS.out _ Du0) ?_
  · refine chk_pre _ _ _ (by as_aux_lemma => kernel_rfl) ?_
    refine chk_pre _ _ _ (by as_aux_lemma => kernel_rfl) ?_
    exact (by as_aux_lemma => kernel_rfl)
  refine seq_take _ ?_ rfl (Or.inl ⟨by rfl, ?_⟩) ?_
  rotate_left
  · (intro w hSw; (try dsimp only at hSw); go_simp; (try with_reducible rfl))
  try simp only [Act.put, List.setIfInBounds_toArray, List.set_cons_zero, List.set_cons_succ]
  refine seq_take _ ?_ rfl (Or.inl ⟨by rfl, ?_⟩) ?_
  rotate_left
  · (intro w hSw; (try dsimp only at hSw); go_simp; (try with_reducible rfl))
  try simp only [Act.put, List.setIfInBounds_toArray, List.set_cons_zero, List.set_cons_succ]
  refine seq_one _ rfl fun K hK => ?_
  go_simp
  (with_reducible refine (rabs_z gs As ns cs _ (Is.below Du0) Zs).mono ?_)
  rintro e vu1 ⟨gu1, Au1, nu1, cu1, rfl, iu1, bu1⟩
  have Du1 : Below W.heap.size W vu1 := Below.trans Du0 (bu1.mono (Below.size Du0))
  go_wp2_with fail
  refine hK.out _ _ (HS.out _ Du1) (fun hHeld => ?_)
  clear hK K hHeld
  try simp only [Act.put, List.setIfInBounds_toArray, List.set_cons_zero, List.set_cons_succ]
  refine seq_one _ rfl fun K hK => ?_
  go_simp
  (with_reducible refine (rcmp_z gu1 gp Au1 Ap nu1 cu1 np cp _ (v1) iu1 (Ip.below Du1) Zu1 Zp es1.out).mono ?_)
  rintro e vu2 ⟨rfl, bu2⟩
  have Du2 : Below W.heap.size W vu2 := Below.trans Du1 (bu2.mono (Below.size Du1))
  go_wp2_with fail
  refine hK.out _ _ (HS.out _ Du2) (fun hHeld => ?_)
  clear hK K hHeld
  try simp only [Act.put, List.setIfInBounds_toArray, List.set_cons_zero, List.set_cons_succ]
  refine seq_take _ ?_ rfl (Or.inl ⟨by rfl, ?_⟩) ?_
  rotate_left
  · (intro w hSw; (try dsimp only at hSw); go_simp; (try with_reducible rfl))
  try simp only [Act.put, List.setIfInBounds_toArray, List.set_cons_zero, List.set_cons_succ]
  refine seq_take _ ?_ rfl (Or.inl ⟨by rfl, ?_⟩) ?_
  rotate_left
  · (intro w hSw; (try dsimp only at hSw); go_simp; (try with_reducible rfl))
  try simp only [Act.put, List.setIfInBounds_toArray, List.set_cons_zero, List.set_cons_succ]
  refine seq_take _ ?_ rfl (Or.inl ⟨by rfl, ?_⟩) ?_
  rotate_left
  · (intro w hSw; (try dsimp only at hSw); go_simp; (try with_reducible rfl))
  try simp only [Act.put, List.setIfInBounds_toArray, List.set_cons_zero, List.set_cons_succ]
  refine seq_one _ rfl fun K hK => ?_
  go_simp
  (with_reducible refine (rabs_z gs As ns cs _ (Is.below Du2) Zs).mono ?_)
  rintro e vu3 ⟨gu3, Au3, nu3, cu3, rfl, iu3, bu3⟩
  have Du3 : Below W.heap.size W vu3 := Below.trans Du2 (bu3.mono (Below.size Du2))
  go_wp2_with fail
  refine hK.out _ _ (HS.out _ Du3) (fun hHeld => ?_)
  clear hK K hHeld
  try simp only [Act.put, List.setIfInBounds_toArray, List.set_cons_zero, List.set_cons_succ]
  refine seq_one _ rfl fun K hK => ?_
  go_simp
  (with_reducible refine (rof_any (1) _ (by decide) (by decide)).mono ?_)
  rintro e vu4 ⟨gu4, Au4, nu4, cu4, rfl, iu4, bu4⟩
  have Du4 : Below W.heap.size W vu4 := Below.trans Du3 (bu4.mono (Below.size Du3))
  go_wp2_with fail
  refine hK.out _ _ (HS.out _ Du4) (fun hHeld => ?_)
  clear hK K hHeld
  try simp only [Act.put, List.setIfInBounds_toArray, List.set_cons_zero, List.set_cons_succ]
  refine seq_one _ rfl fun K hK => ?_
  go_simp
  (with_reducible refine (rcmp_z gu3 gu4 Au3 Au4 nu3 cu3 nu4 cu4 _ (v2) (iu3.below bu4) iu4 (Sz.abs Zs) Z1s es2.out).mono ?_)
  rintro e vu5 ⟨rfl, bu5⟩
  have Du5 : Below W.heap.size W vu5 := Below.trans Du4 (bu5.mono (Below.size Du4))
  go_wp2_with fail
  refine hK.out _ _ (HS.out _ Du5) (fun hHeld => ?_)
  clear hK K hHeld
  try simp only [Act.put, List.setIfInBounds_toArray, List.set_cons_zero, List.set_cons_succ]
  refine seq_take _ ?_ rfl (Or.inl ⟨by rfl, ?_⟩) ?_
  rotate_left
  · (intro w hSw; (try dsimp only at hSw); go_simp; (try with_reducible rfl))
  try simp only [Act.put, List.setIfInBounds_toArray, List.set_cons_zero, List.set_cons_succ]
  refine seq_take _ ?_ rfl (Or.inl ⟨by rfl, ?_⟩) ?_
  rotate_left
  · (intro w hSw; (try dsimp only at hSw); go_simp; (try with_reducible rfl))
  try simp only [Act.put, List.setIfInBounds_toArray, List.set_cons_zero, List.set_cons_succ]
  refine seq_take _ ?_ rfl (Or.inl ⟨by rfl, ?_⟩) ?_
  rotate_left
  · (intro w hSw; (try dsimp only at hSw); go_simp; (try with_reducible rfl))
  try simp only [Act.put, List.setIfInBounds_toArray, List.set_cons_zero, List.set_cons_succ]
  refine seq_take _ ?_ rfl (Or.inl ⟨by rfl, ?_⟩) ?_
  rotate_left
  · (intro w hSw; (try dsimp only at hSw); go_simp; (try with_reducible rfl))
  try simp only [Act.put, List.setIfInBounds_toArray, List.set_cons_zero, List.set_cons_succ]
  refine seq_take _ ?_ rfl (Or.inl ⟨by rfl, ?_⟩) ?_
  rotate_left
  · (intro w hSw; (try dsimp only at hSw); go_simp; (try with_reducible rfl))
  try simp only [Act.put, List.setIfInBounds_toArray, List.set_cons_zero, List.set_cons_succ]
  refine seq_one _ rfl fun K hK => ?_
  go_simp
  (with_reducible refine (rabs_z gt At nt ct _ (It.below Du5) Zt).mono ?_)
  rintro e vu6 ⟨gu6, Au6, nu6, cu6, rfl, iu6, bu6⟩
  have Du6 : Below W.heap.size W vu6 := Below.trans Du5 (bu6.mono (Below.size Du5))
  go_wp2_with fail
  refine hK.out _ _ (HS.out _ Du6) (fun hHeld => ?_)
  clear hK K hHeld
  try simp only [Act.put, List.setIfInBounds_toArray, List.set_cons_zero, List.set_cons_succ]
  as_aux_lemma =>
    refine seq_one _ rfl fun K hK => ?_
    go_simp
    (with_reducible refine (rcmp_z gu6 gq Au6 Aq nu6 cu6 nq cq _ (v3) iu6 (Iq.below Du6) Zu6 Zq et1.out).mono ?_)
    rintro e vu7 ⟨rfl, bu7⟩
    have Du7 : Below W.heap.size W vu7 := Below.trans Du6 (bu7.mono (Below.size Du6))
    go_wp2_with fail
    refine hK.out _ _ (HS.out _ Du7) (fun hHeld => ?_)
    clear hK K hHeld
    try simp only [Act.put, List.setIfInBounds_toArray, List.set_cons_zero, List.set_cons_succ]
    refine seq_take _ ?_ rfl (Or.inl ⟨by rfl, ?_⟩) ?_
    rotate_left
    · (intro w hSw; (try dsimp only at hSw); go_simp; (try with_reducible rfl))
    try simp only [Act.put, List.setIfInBounds_toArray, List.set_cons_zero, List.set_cons_succ]
    refine seq_take _ ?_ rfl (Or.inl ⟨by rfl, ?_⟩) ?_
    rotate_left
    · (intro w hSw; (try dsimp only at hSw); go_simp; (try with_reducible rfl))
    try simp only [Act.put, List.setIfInBounds_toArray, List.set_cons_zero, List.set_cons_succ]
    refine seq_take _ _ rfl (Or.inr ⟨by rfl, rfl⟩) ?_
    try simp only [Act.put, List.setIfInBounds_toArray, List.set_cons_zero, List.set_cons_succ]
    refine seq_take _ _ rfl (Or.inr ⟨by rfl, rfl⟩) ?_
    try simp only [Act.put, List.setIfInBounds_toArray, List.set_cons_zero, List.set_cons_succ]
    refine seq_take _ _ rfl (Or.inr ⟨by rfl, rfl⟩) ?_
    try simp only [Act.put, List.setIfInBounds_toArray, List.set_cons_zero, List.set_cons_succ]
    refine seq_take _ _ rfl (Or.inr ⟨by rfl, rfl⟩) ?_
    try simp only [Act.put, List.setIfInBounds_toArray, List.set_cons_zero, List.set_cons_succ]
    refine seq_take _ _ rfl (Or.inr ⟨by rfl, rfl⟩) ?_
    try simp only [Act.put, List.setIfInBounds_toArray, List.set_cons_zero, List.set_cons_succ]
    refine seq_take _ ?_ rfl (Or.inl ⟨by rfl, ?_⟩) ?_
    rotate_left
    · (intro w hSw; (try dsimp only at hSw); go_simp; (try with_reducible rfl))
    try simp only [Act.put, List.setIfInBounds_toArray, List.set_cons_zero, List.set_cons_succ]
    refine seq_take _ ?_ rfl (Or.inl ⟨by rfl, ?_⟩) ?_
    rotate_left
    · (intro w hSw; (try dsimp only at hSw); go_simp; (try with_reducible rfl))
    try simp only [Act.put, List.setIfInBounds_toArray, List.set_cons_zero, List.set_cons_succ]
    refine seq_take _ ?_ rfl (Or.inl ⟨by rfl, ?_⟩) ?_
    rotate_left
    · (intro w hSw; (try dsimp only at hSw); go_simp; (try with_reducible rfl))
    try simp only [Act.put, List.setIfInBounds_toArray, List.set_cons_zero, List.set_cons_succ]
    refine NoPanic.normal ?_
    exact hK _ _ _ _ _ _ _ _ _ _ _ _ _ _ _ _ _ _ _ _ _ _ _ _ _ _ _ Du7
set_option maxRecDepth 1000000 in
set_option maxHeartbeats 4000000 in
theorem ext_r11bb {u0 u1 u2 u3 u4 u5 u6 u7 u8 u12 u13 u15 u16 u17 u18 u19 u20 u21 u22 u23 u24 u25 u26 u27 u28 u29 u30 u31 u32 u33 u34 u35 u36 u37 u38 u39 u40 u41 u42 u43 u44 u45 u46 u47 u48 u49 u50 u51 u52 u53 u54 u55 u56 u57 u58 u59 u60 u61 u62 u63 u64 u65 u66 u67 u68 u69 u70 u71 u72 u73 u74 u75 u76 u77 u78 u79 u80 u81 u82 u83 u84 u85 u86 u87 u88 u89 u90 u91 u92 u93 u94 u95 u96 u97 u98 u99 u100 u101 u102 u103 u104 u105 u106 u107 u108 u109 u110 u111 u112 u113 u114 u115 u116 u117 u118 u119 u120 u121 u122 u123 u124 u125 u126 u127 u128 u129 u130 u131 u132 u133 u134 u135 u136 u137 : Value} {W : World} {K : Act → World → Prop} {Q : Exit → Act → World → Prop} {bs bp bt bq : Nat} {zs zp zt zq : Int} (Hs : IntAt W bs (zs)) (Hp : IntAt W bp (zp)) (Ht : IntAt W bt (zt)) (Hq : IntAt W bq (zq)) (Zs : Sz 6 (zs)) (Zp : Sz 7 (zp)) (Zt : Sz 6 (zt)) (Zq : Sz 7 (zq)) {v1 v2 v3 v4 : Int} (es1 : Hid (cmpN ((zs.natAbs : Nat) : Int) zp = v1)) (hv1 : decide (v1 ≤ 0) = false) (es2 : Hid (cmpN ((zs.natAbs : Nat) : Int) 1 = v2)) (hv2 : v2 ≤ 0) (et1 : Hid (cmpN ((zt.natAbs : Nat) : Int) zq = v3)) (hv3 : decide (v3 ≤ 0) = false) (et2 : Hid (cmpN ((zt.natAbs : Nat) : Int) 1 = v4)) (hv4 : v4 ≤ 0)
    (hK : ∀ (v97 v98 v99 v100 v101 v102 v103 v104 v105 v106 v107 v108 v109 v110 v111 v112 v113 v114 v115 v116 v117 v118 v119 v120 v121 v122 : Value) (w' : World), Below W.heap.size W w' → K ⟨#[u0, u1, u2, u3, u4, u5, u6, u7, u8, .pointer (some ⟨bs, 0, none⟩), .pointer (some ⟨bt, 0, none⟩), .pointer (some ⟨bp, 0, none⟩), u12, u13, .pointer (some ⟨bq, 0, none⟩), u15, u16, .bool true, u18, u19, u20, u21, u22, u23, u24, u25, u26, u27, u28, u29, u30, u31, u32, u33, u34, u35, u36, u37, u38, u39, u40, u41, u42, u43, u44, u45, u46, u47, u48, u49, u50, u51, u52, u53, u54, u55, u56, u57, u58, u59, u60, u61, u62, u63, u64, u65, u66, u67, u68, u69, u70, u71, u72, u73, u74, u75, u76, u77, u78, u79, u80, u81, u82, u83, u84, u85, u86, u87, u88, u89, u90, u91, u92, u93, u94, u95, u96, v97, v98, v99, v100, v101, v102, v103, v104, v105, v106, v107, v108, v109, v110, v111, v112, v113, v114, v115, v116, v117, v118, v119, v120, v121, v122, u123, u124, u125, u126, u127, u128, u129, u130, u131, u132, u133, u134, u135, u136, u137], []⟩ w') :
    Code.wp Tryd.prog (regionOf 11 Tryd.f5) (Exit.then K Q) ⟨#[u0, u1, u2, u3, u4, u5, u6, u7, u8, .pointer (some ⟨bs, 0, none⟩), .pointer (some ⟨bt, 0, none⟩), .pointer (some ⟨bp, 0, none⟩), u12, u13, .pointer (some ⟨bq, 0, none⟩), u15, u16, u17, u18, u19, u20, u21, u22, u23, u24, u25, u26, u27, u28, u29, u30, u31, u32, u33, u34, u35, u36, u37, u38, u39, u40, u41, u42, u43, u44, u45, u46, u47, u48, u49, u50, u51, u52, u53, u54, u55, u56, u57, u58, u59, u60, u61, u62, u63, u64, u65, u66, u67, u68, u69, u70, u71, u72, u73, u74, u75, u76, u77, u78, u79, u80, u81, u82, u83, u84, u85, u86, u87, u88, u89, u90, u91, u92, u93, u94, u95, u96, u97, u98, u99, u100, u101, u102, u103, u104, u105, u106, u107, u108, u109, u110, u111, u112, u113, u114, u115, u116, u117, u118, u119, u120, u121, u122, u123, u124, u125, u126, u127, u128, u129, u130, u131, u132, u133, u134, u135, u136, u137], []⟩ W := by
  conv => arg 2; whnf
  obtain ⟨gs, As, ns, cs, Ss, Is⟩ := Hs
  obtain ⟨gp, Ap, np, cp, Sp, Ip⟩ := Hp
  obtain ⟨gt, At, nt, ct, St, It⟩ := Ht
  obtain ⟨gq, Aq, nq, cq, Sq, Iq⟩ := Hq
  have Zu1 : Sz 6 (((zs.natAbs : Nat) : Int)) := Sz.abs Zs
  have Z1s : Sz 1 (1 : Int) := Sz.of (by decide) (by decide)
  have Zu6 : Sz 6 (((zt.natAbs : Nat) : Int)) := Sz.abs Zt
  have Z1t : Sz 1 (1 : Int) := Sz.of (by decide) (by decide)
  have HS : Hid (∀ V, Below W.heap.size W V → V.cell? ⟨bs, 0, none⟩ = some (.bool gs) ∧ V.cell? ⟨bs, 1, none⟩ = some (.slice As ns cs) ∧ V.cell? ⟨bp, 0, none⟩ = some (.bool gp) ∧ V.cell? ⟨bp, 1, none⟩ = some (.slice Ap np cp) ∧ V.cell? ⟨bt, 0, none⟩ = some (.bool gt) ∧ V.cell? ⟨bt, 1, none⟩ = some (.slice At nt ct) ∧ V.cell? ⟨bq, 0, none⟩ = some (.bool gq) ∧ V.cell? ⟨bq, 1, none⟩ = some (.slice Aq nq cq)) := fun V hW => ⟨(Ss.after hW).1, (Ss.after hW).2.1, (Sp.after hW).1, (Sp.after hW).2.1, (St.after hW).1, (St.after hW).2.1, (Sq.after hW).1, (Sq.after hW).2.1⟩
  have Du0 : Below W.heap.size W W.drew := (Below.refl _ _).drew
  refine wp_region_seq (.pre [(0, true), (2, true), (1, false), (3, false), (4, true), (5, true), (6, true), (7, false), (8, false), (9, false), (10, true), (11, true), (12, true), (13, true), (15, true), (14, false), (16, false), (17, true), (18, true), (19, true), (20, false), (21, false), (22, false), (23, true), (24, true)] (.pre [(25, true), (26, true)] .done)) (fun W => W.cell? ⟨bs, 0, none⟩ = some (.bool gs) ∧ W.cell? ⟨bs, 1, none⟩ = some (.slice As ns cs) ∧ W.cell? ⟨bp, 0, none⟩ = some (.bool gp) ∧ W.cell? ⟨bp, 1, none⟩ = some (.slice Ap np cp) ∧ W.cell? ⟨bt, 0, none⟩ = some (.bool gt) ∧ W.cell? ⟨bt, 1, none⟩ = some (.slice At nt ct) ∧ W.cell? ⟨bq, 0, none⟩ = some (.bool gq) ∧ W.cell? ⟨bq, 1, none⟩ = some (.slice Aq nq cq)) (by kernel_rfl) (by kernel_rfl) ?_ (by kernel_rfl) (HS.out _ Du0) ?_
  · refine chk_pre _ _ _ (by as_aux_lemma => kernel_rfl) ?_
    refine chk_pre _ _ _ (by as_aux_lemma => kernel_rfl) ?_
    exact (by as_aux_lemma => kernel_rfl)
  refine seq_take _ ?_ rfl (Or.inl ⟨by rfl, ?_⟩) ?_
  rotate_left
  · (intro w hSw; (try dsimp only at hSw); go_simp; (try with_reducible rfl))
  try simp only [Act.put, List.setIfInBounds_toArray, List.set_cons_zero, List.set_cons_succ]
  refine seq_take _ ?_ rfl (Or.inl ⟨by rfl, ?_⟩) ?_
  rotate_left
  · (intro w hSw; (try dsimp only at hSw); go_simp; (try with_reducible rfl))
  try simp only [Act.put, List.setIfInBounds_toArray, List.set_cons_zero, List.set_cons_succ]
  refine seq_one _ rfl fun K hK => ?_
  go_simp
  (with_reducible refine (rabs_z gs As ns cs _ (Is.below Du0) Zs).mono ?_)
  rintro e vu1 ⟨gu1, Au1, nu1, cu1, rfl, iu1, bu1⟩
  have Du1 : Below W.heap.size W vu1 := Below.trans Du0 (bu1.mono (Below.size Du0))
  go_wp2_with fail
  refine hK.out _ _ (HS.out _ Du1) (fun hHeld => ?_)
  clear hK K hHeld
  try simp only [Act.put, List.setIfInBounds_toArray, List.set_cons_zero, List.set_cons_succ]
  refine seq_one _ rfl fun K hK => ?_
  go_simp
  (with_reducible refine (rcmp_z gu1 gp Au1 Ap nu1 cu1 np cp _ (v1) iu1 (Ip.below Du1) Zu1 Zp es1.out).mono ?_)
  rintro e vu2 ⟨rfl, bu2⟩
  have Du2 : Below W.heap.size W vu2 := Below.trans Du1 (bu2.mono (Below.size Du1))
  go_wp2_with fail
  refine hK.out _ _ (HS.out _ Du2) (fun hHeld => ?_)
  clear hK K hHeld
  try simp only [Act.put, List.setIfInBounds_toArray, List.set_cons_zero, List.set_cons_succ]
  refine seq_take _ ?_ rfl (Or.inl ⟨by rfl, ?_⟩) ?_
  rotate_left
  · (intro w hSw; (try dsimp only at hSw); go_simp; (try with_reducible rfl))
  try simp only [Act.put, List.setIfInBounds_toArray, List.set_cons_zero, List.set_cons_succ]
  refine seq_take _ ?_ rfl (Or.inl ⟨by rfl, ?_⟩) ?_
  rotate_left
  · (intro w hSw; (try dsimp only at hSw); go_simp; (try with_reducible rfl))
  try simp only [Act.put, List.setIfInBounds_toArray, List.set_cons_zero, List.set_cons_succ]
  refine seq_take _ ?_ rfl (Or.inl ⟨by rfl, ?_⟩) ?_
  rotate_left
  · (intro w hSw; (try dsimp only at hSw); go_simp; (try with_reducible rfl))
  try simp only [Act.put, List.setIfInBounds_toArray, List.set_cons_zero, List.set_cons_succ]
  refine seq_one _ rfl fun K hK => ?_
  go_simp
  (with_reducible refine (rabs_z gs As ns cs _ (Is.below Du2) Zs).mono ?_)
  rintro e vu3 ⟨gu3, Au3, nu3, cu3, rfl, iu3, bu3⟩
  have Du3 : Below W.heap.size W vu3 := Below.trans Du2 (bu3.mono (Below.size Du2))
  go_wp2_with fail
  refine hK.out _ _ (HS.out _ Du3) (fun hHeld => ?_)
  clear hK K hHeld
  try simp only [Act.put, List.setIfInBounds_toArray, List.set_cons_zero, List.set_cons_succ]
  refine seq_one _ rfl fun K hK => ?_
  go_simp
  (with_reducible refine (rof_any (1) _ (by decide) (by decide)).mono ?_)
  rintro e vu4 ⟨gu4, Au4, nu4, cu4, rfl, iu4, bu4⟩
  have Du4 : Below W.heap.size W vu4 := Below.trans Du3 (bu4.mono (Below.size Du3))
  go_wp2_with fail
  refine hK.out _ _ (HS.out _ Du4) (fun hHeld => ?_)
  clear hK K hHeld
  try simp only [Act.put, List.setIfInBounds_toArray, List.set_cons_zero, List.set_cons_succ]
  refine seq_one _ rfl fun K hK => ?_
  go_simp
  (with_reducible refine (rcmp_z gu3 gu4 Au3 Au4 nu3 cu3 nu4 cu4 _ (v2) (iu3.below bu4) iu4 (Sz.abs Zs) Z1s es2.out).mono ?_)
  rintro e vu5 ⟨rfl, bu5⟩
  have Du5 : Below W.heap.size W vu5 := Below.trans Du4 (bu5.mono (Below.size Du4))
  go_wp2_with fail
  refine hK.out _ _ (HS.out _ Du5) (fun hHeld => ?_)
  clear hK K hHeld
  try simp only [Act.put, List.setIfInBounds_toArray, List.set_cons_zero, List.set_cons_succ]
  refine seq_take _ ?_ rfl (Or.inl ⟨by rfl, ?_⟩) ?_
  rotate_left
  · (intro w hSw; (try dsimp only at hSw); go_simp; (try with_reducible rfl))
  try simp only [Act.put, List.setIfInBounds_toArray, List.set_cons_zero, List.set_cons_succ]
  refine seq_take _ ?_ rfl (Or.inl ⟨by rfl, ?_⟩) ?_
  rotate_left
  · (intro w hSw; (try dsimp only at hSw); go_simp; (try with_reducible rfl))
  try simp only [Act.put, List.setIfInBounds_toArray, List.set_cons_zero, List.set_cons_succ]
  refine seq_take _ ?_ rfl (Or.inl ⟨by rfl, ?_⟩) ?_
  rotate_left
  · (intro w hSw; (try dsimp only at hSw); go_simp; (try with_reducible rfl))
  try simp only [Act.put, List.setIfInBounds_toArray, List.set_cons_zero, List.set_cons_succ]
  refine seq_take _ ?_ rfl (Or.inl ⟨by rfl, ?_⟩) ?_
  rotate_left
  · (intro w hSw; (try dsimp only at hSw); go_simp; (try with_reducible rfl))
  try simp only [Act.put, List.setIfInBounds_toArray, List.set_cons_zero, List.set_cons_succ]
  refine seq_take _ ?_ rfl (Or.inl ⟨by rfl, ?_⟩) ?_
  rotate_left
  · (intro w hSw; (try dsimp only at hSw); go_simp; (try with_reducible rfl))
  try simp only [Act.put, List.setIfInBounds_toArray, List.set_cons_zero, List.set_cons_succ]
  refine seq_one _ rfl fun K hK => ?_
  go_simp
  (with_reducible refine (rabs_z gt At nt ct _ (It.below Du5) Zt).mono ?_)
  rintro e vu6 ⟨gu6, Au6, nu6, cu6, rfl, iu6, bu6⟩
  have Du6 : Below W.heap.size W vu6 := Below.trans Du5 (bu6.mono (Below.size Du5))
  go_wp2_with fail
  refine hK.out _ _ (HS.out _ Du6) (fun hHeld => ?_)
  clear hK K hHeld
  try simp only [Act.put, List.setIfInBounds_toArray, List.set_cons_zero, List.set_cons_succ]
  as_aux_lemma =>
    refine seq_one _ rfl fun K hK => ?_
    go_simp
    (with_reducible refine (rcmp_z gu6 gq Au6 Aq nu6 cu6 nq cq _ (v3) iu6 (Iq.below Du6) Zu6 Zq et1.out).mono ?_)
    rintro e vu7 ⟨rfl, bu7⟩
    have Du7 : Below W.heap.size W vu7 := Below.trans Du6 (bu7.mono (Below.size Du6))
    go_wp2_with fail
    refine hK.out _ _ (HS.out _ Du7) (fun hHeld => ?_)
    clear hK K hHeld
    try simp only [Act.put, List.setIfInBounds_toArray, List.set_cons_zero, List.set_cons_succ]
    refine seq_take _ ?_ rfl (Or.inl ⟨by rfl, ?_⟩) ?_
    rotate_left
    · (intro w hSw; (try dsimp only at hSw); go_simp; (try with_reducible rfl))
    try simp only [Act.put, List.setIfInBounds_toArray, List.set_cons_zero, List.set_cons_succ]
    refine seq_take _ ?_ rfl (Or.inl ⟨by rfl, ?_⟩) ?_
    rotate_left
    · (intro w hSw; (try dsimp only at hSw); go_simp; (try with_reducible rfl))
    try simp only [Act.put, List.setIfInBounds_toArray, List.set_cons_zero, List.set_cons_succ]
    refine seq_take _ ?_ rfl (Or.inl ⟨by rfl, ?_⟩) ?_
    rotate_left
    · (intro w hSw; (try dsimp only at hSw); go_simp; (try with_reducible rfl))
    try simp only [Act.put, List.setIfInBounds_toArray, List.set_cons_zero, List.set_cons_succ]
    refine seq_one _ rfl fun K hK => ?_
    go_simp
    (with_reducible refine (rabs_z gt At nt ct _ (It.below Du7) Zt).mono ?_)
    rintro e vu8 ⟨gu8, Au8, nu8, cu8, rfl, iu8, bu8⟩
    have Du8 : Below W.heap.size W vu8 := Below.trans Du7 (bu8.mono (Below.size Du7))
    go_wp2_with fail
    refine hK.out _ _ (HS.out _ Du8) (fun hHeld => ?_)
    clear hK K hHeld
    try simp only [Act.put, List.setIfInBounds_toArray, List.set_cons_zero, List.set_cons_succ]
    refine seq_one _ rfl fun K hK => ?_
    go_simp
    (with_reducible refine (rof_any (1) _ (by decide) (by decide)).mono ?_)
    rintro e vu9 ⟨gu9, Au9, nu9, cu9, rfl, iu9, bu9⟩
    have Du9 : Below W.heap.size W vu9 := Below.trans Du8 (bu9.mono (Below.size Du8))
    go_wp2_with fail
    refine hK.out _ _ (HS.out _ Du9) (fun hHeld => ?_)
    clear hK K hHeld
    try simp only [Act.put, List.setIfInBounds_toArray, List.set_cons_zero, List.set_cons_succ]
    refine seq_one _ rfl fun K hK => ?_
    go_simp
    (with_reducible refine (rcmp_z gu8 gu9 Au8 Au9 nu8 cu8 nu9 cu9 _ (v4) (iu8.below bu9) iu9 (Sz.abs Zt) Z1t et2.out).mono ?_)
    rintro e vu10 ⟨rfl, bu10⟩
    have Du10 : Below W.heap.size W vu10 := Below.trans Du9 (bu10.mono (Below.size Du9))
    go_wp2_with fail
    refine hK.out _ _ (HS.out _ Du10) (fun hHeld => ?_)
    clear hK K hHeld
    try simp only [Act.put, List.setIfInBounds_toArray, List.set_cons_zero, List.set_cons_succ]
    refine seq_take _ ?_ rfl (Or.inl ⟨by rfl, ?_⟩) ?_
    rotate_left
    · (intro w hSw; (try dsimp only at hSw); go_simp; (try with_reducible rfl))
    try simp only [Act.put, List.setIfInBounds_toArray, List.set_cons_zero, List.set_cons_succ]
    refine seq_take _ ?_ rfl (Or.inl ⟨by rfl, ?_⟩) ?_
    rotate_left
    · (intro w hSw; (try dsimp only at hSw); go_simp; (try with_reducible rfl))
    try simp only [Act.put, List.setIfInBounds_toArray, List.set_cons_zero, List.set_cons_succ]
    refine seq_take _ ?_ rfl (Or.inl ⟨by rfl, ?_⟩) ?_
    rotate_left
    · (intro w hSw; (try dsimp only at hSw); go_simp; (try with_reducible rfl))
    try simp only [Act.put, List.setIfInBounds_toArray, List.set_cons_zero, List.set_cons_succ]
    refine seq_take _ ?_ rfl (Or.inl ⟨by rfl, ?_⟩) ?_
    rotate_left
    · (intro w hSw; (try dsimp only at hSw); go_simp; (try with_reducible rfl))
    try simp only [Act.put, List.setIfInBounds_toArray, List.set_cons_zero, List.set_cons_succ]
    refine NoPanic.normal ?_
    exact hK _ _ _ _ _ _ _ _ _ _ _ _ _ _ _ _ _ _ _ _ _ _ _ _ _ _ _ Du10
set_option maxRecDepth 1000000 in
set_option maxHeartbeats 4000000 in
theorem ext_r12 {u0 u1 u2 u3 u4 u11 u12 u13 u14 u15 u16 u18 u19 u20 u21 u22 u23 u24 u25 u26 u27 u28 u29 u30 u31 u32 u33 u34 u35 u36 u37 u38 u39 u40 u41 u42 u43 u44 u45 u46 u47 u48 u49 u50 u51 u52 u53 u54 u55 u56 u57 u58 u59 u60 u61 u62 u63 u64 u65 u66 u67 u68 u69 u70 u71 u72 u73 u74 u75 u76 u77 u78 u79 u80 u81 u82 u83 u84 u85 u86 u87 u88 u89 u90 u91 u92 u93 u94 u95 u96 u97 u98 u99 u100 u101 u102 u103 u104 u105 u106 u107 u108 u109 u110 u111 u112 u113 u114 u115 u116 u117 u118 u119 u120 u121 u122 u123 u124 u125 u126 u127 u128 u129 u130 u131 u132 u133 u134 u135 u136 u137 : Value} {W : World} {K : Act → World → Prop} {Q : Exit → Act → World → Prop} {bs bt ba bb bg : Nat} {zs zt za zb zg : Int} (Hs : IntAt W bs (zs)) (Ht : IntAt W bt (zt)) (Ha : IntAt W ba (za)) (Hb : IntAt W bb (zb)) (Hg : IntAt W bg (zg)) (Zs : Sz 6 (zs)) (Zt : Sz 6 (zt)) (Za : Sz 6 (za)) (Zb : Sz 6 (zb)) (e1 : Hid (zs * za + zt * zb = zg))
    (hK : ∀ (v123 v124 v125 v126 v127 v128 v129 v130 v131 v132 v133 v134 v135 v136 v137 : Value) (w' : World), Below W.heap.size W w' → K ⟨#[u0, u1, u2, u3, .bool true, .bool true, .pointer (some ⟨ba, 0, none⟩), .pointer (some ⟨bb, 0, none⟩), .pointer (some ⟨bg, 0, none⟩), .pointer (some ⟨bs, 0, none⟩), .pointer (some ⟨bt, 0, none⟩), u11, u12, u13, u14, u15, u16, .bool true, u18, u19, u20, u21, u22, u23, u24, u25, u26, u27, u28, u29, u30, u31, u32, u33, u34, u35, u36, u37, u38, u39, u40, u41, u42, u43, u44, u45, u46, u47, u48, u49, u50, u51, u52, u53, u54, u55, u56, u57, u58, u59, u60, u61, u62, u63, u64, u65, u66, u67, u68, u69, u70, u71, u72, u73, u74, u75, u76, u77, u78, u79, u80, u81, u82, u83, u84, u85, u86, u87, u88, u89, u90, u91, u92, u93, u94, u95, u96, u97, u98, u99, u100, u101, u102, u103, u104, u105, u106, u107, u108, u109, u110, u111, u112, u113, u114, u115, u116, u117, u118, u119, u120, u121, u122, v123, v124, v125, v126, v127, v128, v129, v130, v131, v132, v133, v134, v135, v136, v137], []⟩ w') :
    Code.wp Tryd.prog (regionOf 12 Tryd.f5) (Exit.then K Q) ⟨#[u0, u1, u2, u3, u4, .bool true, .pointer (some ⟨ba, 0, none⟩), .pointer (some ⟨bb, 0, none⟩), .pointer (some ⟨bg, 0, none⟩), .pointer (some ⟨bs, 0, none⟩), .pointer (some ⟨bt, 0, none⟩), u11, u12, u13, u14, u15, u16, .bool true, u18, u19, u20, u21, u22, u23, u24, u25, u26, u27, u28, u29, u30, u31, u32, u33, u34, u35, u36, u37, u38, u39, u40, u41, u42, u43, u44, u45, u46, u47, u48, u49, u50, u51, u52, u53, u54, u55, u56, u57, u58, u59, u60, u61, u62, u63, u64, u65, u66, u67, u68, u69, u70, u71, u72, u73, u74, u75, u76, u77, u78, u79, u80, u81, u82, u83, u84, u85, u86, u87, u88, u89, u90, u91, u92, u93, u94, u95, u96, u97, u98, u99, u100, u101, u102, u103, u104, u105, u106, u107, u108, u109, u110, u111, u112, u113, u114, u115, u116, u117, u118, u119, u120, u121, u122, u123, u124, u125, u126, u127, u128, u129, u130, u131, u132, u133, u134, u135, u136, u137], []⟩ W := by
  conv => arg 2; whnf
  obtain ⟨gs, As, ns, cs, Ss, Is⟩ := Hs
  obtain ⟨gt, At, nt, ct, St, It⟩ := Ht
  obtain ⟨ga, Aa, na, ca, Sa, Ia⟩ := Ha
  obtain ⟨gb, Ab, nb, cb, Sb, Ib⟩ := Hb
  obtain ⟨gg, Ag, ng, cg, Sg, Ig⟩ := Hg
  have Zsa := Sz.mul Zs Za (by decide)
  have Ztb := Sz.mul Zt Zb (by decide)
  have HS : Hid (∀ V, Below W.heap.size W V → V.cell? ⟨bs, 0, none⟩ = some (.bool gs) ∧ V.cell? ⟨bs, 1, none⟩ = some (.slice As ns cs) ∧ V.cell? ⟨bt, 0, none⟩ = some (.bool gt) ∧ V.cell? ⟨bt, 1, none⟩ = some (.slice At nt ct) ∧ V.cell? ⟨ba, 0, none⟩ = some (.bool ga) ∧ V.cell? ⟨ba, 1, none⟩ = some (.slice Aa na ca) ∧ V.cell? ⟨bb, 0, none⟩ = some (.bool gb) ∧ V.cell? ⟨bb, 1, none⟩ = some (.slice Ab nb cb) ∧ V.cell? ⟨bg, 0, none⟩ = some (.bool gg) ∧ V.cell? ⟨bg, 1, none⟩ = some (.slice Ag ng cg)) := fun V hW => ⟨(Ss.after hW).1, (Ss.after hW).2.1, (St.after hW).1, (St.after hW).2.1, (Sa.after hW).1, (Sa.after hW).2.1, (Sb.after hW).1, (Sb.after hW).2.1, (Sg.after hW).1, (Sg.after hW).2.1⟩
  have Dv0 : Below W.heap.size W W.drew := (Below.refl _ _).drew
  refine wp_region_seq (.pre [(0, true), (1, true), (2, true), (3, true), (5, true), (6, true), (9, true), (4, false), (7, false), (8, false), (10, false), (11, true), (12, true), (13, true), (14, true), (15, true)] .done) (fun W => W.cell? ⟨bs, 0, none⟩ = some (.bool gs) ∧ W.cell? ⟨bs, 1, none⟩ = some (.slice As ns cs) ∧ W.cell? ⟨bt, 0, none⟩ = some (.bool gt) ∧ W.cell? ⟨bt, 1, none⟩ = some (.slice At nt ct) ∧ W.cell? ⟨ba, 0, none⟩ = some (.bool ga) ∧ W.cell? ⟨ba, 1, none⟩ = some (.slice Aa na ca) ∧ W.cell? ⟨bb, 0, none⟩ = some (.bool gb) ∧ W.cell? ⟨bb, 1, none⟩ = some (.slice Ab nb cb) ∧ W.cell? ⟨bg, 0, none⟩ = some (.bool gg) ∧ W.cell? ⟨bg, 1, none⟩ = some (.slice Ag ng cg)) (by kernel_rfl) (by kernel_rfl) ?_ (by kernel_rfl) (HS.out _ Dv0) ?_
  · refine chk_pre _ _ _ (by as_aux_lemma => kernel_rfl) ?_
    exact (by as_aux_lemma => kernel_rfl)
  refine seq_take _ ?_ rfl (Or.inl ⟨by rfl, ?_⟩) ?_
  rotate_left
  · (intro w hSw; (try dsimp only at hSw); go_simp; (try with_reducible rfl))
  try simp only [Act.put, List.setIfInBounds_toArray, List.set_cons_zero, List.set_cons_succ]
  refine seq_take _ ?_ rfl (Or.inl ⟨by rfl, ?_⟩) ?_
  rotate_left
  · (intro w hSw; (try dsimp only at hSw); go_simp; (try with_reducible rfl))
  try simp only [Act.put, List.setIfInBounds_toArray, List.set_cons_zero, List.set_cons_succ]
  refine seq_take _ ?_ rfl (Or.inl ⟨by rfl, ?_⟩) ?_
  rotate_left
  · (intro w hSw; (try dsimp only at hSw); go_simp; (try with_reducible rfl))
  try simp only [Act.put, List.setIfInBounds_toArray, List.set_cons_zero, List.set_cons_succ]
  refine seq_take _ ?_ rfl (Or.inl ⟨by rfl, ?_⟩) ?_
  rotate_left
  · (intro w hSw; (try dsimp only at hSw); go_simp; (try with_reducible rfl))
  try simp only [Act.put, List.setIfInBounds_toArray, List.set_cons_zero, List.set_cons_succ]
  refine seq_take _ ?_ rfl (Or.inl ⟨by rfl, ?_⟩) ?_
  rotate_left
  · (intro w hSw; (try dsimp only at hSw); go_simp; (try with_reducible rfl))
  try simp only [Act.put, List.setIfInBounds_toArray, List.set_cons_zero, List.set_cons_succ]
  refine seq_take _ ?_ rfl (Or.inl ⟨by rfl, ?_⟩) ?_
  rotate_left
  · (intro w hSw; (try dsimp only at hSw); go_simp; (try with_reducible rfl))
  try simp only [Act.put, List.setIfInBounds_toArray, List.set_cons_zero, List.set_cons_succ]
  refine seq_take _ ?_ rfl (Or.inl ⟨by rfl, ?_⟩) ?_
  rotate_left
  · (intro w hSw; (try dsimp only at hSw); go_simp; (try with_reducible rfl))
  try simp only [Act.put, List.setIfInBounds_toArray, List.set_cons_zero, List.set_cons_succ]
  refine seq_one _ rfl fun K hK => ?_
  go_simp
  (with_reducible refine (rmul_z gs ga As Aa ns cs na ca _ (Is.below Dv0) (Ia.below Dv0) Zs Za).mono ?_)
  rintro e vv1 ⟨gv1, Av1, nv1, cv1, rfl, iv1, bv1⟩
  have Dv1 : Below W.heap.size W vv1 := Below.trans Dv0 (bv1.mono (Below.size Dv0))
  go_wp2_with fail
  refine hK.out _ _ (HS.out _ Dv1) (fun hHeld => ?_)
  clear hK K hHeld
  try simp only [Act.put, List.setIfInBounds_toArray, List.set_cons_zero, List.set_cons_succ]
  refine seq_one _ rfl fun K hK => ?_
  go_simp
  (with_reducible refine (rmul_z gt gb At Ab nt ct nb cb _ (It.below Dv1) (Ib.below Dv1) Zt Zb).mono ?_)
  rintro e vv2 ⟨gv2, Av2, nv2, cv2, rfl, iv2, bv2⟩
  have Dv2 : Below W.heap.size W vv2 := Below.trans Dv1 (bv2.mono (Below.size Dv1))
  go_wp2_with fail
  refine hK.out _ _ (HS.out _ Dv2) (fun hHeld => ?_)
  clear hK K hHeld
  try simp only [Act.put, List.setIfInBounds_toArray, List.set_cons_zero, List.set_cons_succ]
  refine seq_one _ rfl fun K hK => ?_
  go_simp
  (with_reducible refine (radd_z gv1 gv2 Av1 Av2 nv1 cv1 nv2 cv2 _ (iv1.below bv2) iv2 Zsa Ztb).mono ?_)
  rintro e vv3 ⟨gv3, Av3, nv3, cv3, rfl, iv3, bv3⟩
  have Dv3 : Below W.heap.size W vv3 := Below.trans Dv2 (bv3.mono (Below.size Dv2))
  go_wp2_with fail
  refine hK.out _ _ (HS.out _ Dv3) (fun hHeld => ?_)
  clear hK K hHeld
  try simp only [Act.put, List.setIfInBounds_toArray, List.set_cons_zero, List.set_cons_succ]
  refine seq_one _ rfl fun K hK => ?_
  go_simp
  (with_reducible refine (same_z gv3 gg Av3 Ag nv3 cv3 ng cg _ iv3 (Ig.below Dv3) e1.out).mono ?_)
  rintro e vv4 ⟨rfl, bv4⟩
  have Dv4 : Below W.heap.size W vv4 := Below.trans Dv3 (bv4.mono (Below.size Dv3))
  go_wp2_with fail
  refine hK.out _ _ (HS.out _ Dv4) (fun hHeld => ?_)
  clear hK K hHeld
  try simp only [Act.put, List.setIfInBounds_toArray, List.set_cons_zero, List.set_cons_succ]
  refine seq_take _ ?_ rfl (Or.inl ⟨by rfl, ?_⟩) ?_
  rotate_left
  · (intro w hSw; (try dsimp only at hSw); go_simp; (try with_reducible rfl))
  try simp only [Act.put, List.setIfInBounds_toArray, List.set_cons_zero, List.set_cons_succ]
  refine seq_take _ ?_ rfl (Or.inl ⟨by rfl, ?_⟩) ?_
  rotate_left
  · (intro w hSw; (try dsimp only at hSw); go_simp; (try with_reducible rfl))
  try simp only [Act.put, List.setIfInBounds_toArray, List.set_cons_zero, List.set_cons_succ]
  refine seq_take _ ?_ rfl (Or.inl ⟨by rfl, ?_⟩) ?_
  rotate_left
  · (intro w hSw; (try dsimp only at hSw); go_simp; (try with_reducible rfl))
  try simp only [Act.put, List.setIfInBounds_toArray, List.set_cons_zero, List.set_cons_succ]
  refine seq_take _ ?_ rfl (Or.inl ⟨by rfl, ?_⟩) ?_
  rotate_left
  · (intro w hSw; (try dsimp only at hSw); go_simp; (try with_reducible rfl))
  try simp only [Act.put, List.setIfInBounds_toArray, List.set_cons_zero, List.set_cons_succ]
  refine seq_take _ ?_ rfl (Or.inl ⟨by rfl, ?_⟩) ?_
  rotate_left
  · (intro w hSw; (try dsimp only at hSw); go_simp; (try with_reducible rfl))
  try simp only [Act.put, List.setIfInBounds_toArray, List.set_cons_zero, List.set_cons_succ]
  refine NoPanic.normal ?_
  exact hK _ _ _ _ _ _ _ _ _ _ _ _ _ _ _ _ Dv4
end Go.Proofs.YtnlmdjbakcjhbaaDoor
