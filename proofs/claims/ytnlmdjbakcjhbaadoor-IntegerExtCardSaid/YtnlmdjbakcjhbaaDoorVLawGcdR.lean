/- Words and a region for the law IntegerGcd. -/
import Derived.Test.YtnlmdjbakcjhbaaDoorVLawKit
import Derived.Test.YtnlmdjbakcjhbaaDoorVRGcd
import Derived.BigRegion
namespace Go.Proofs.YtnlmdjbakcjhbaaDoor
open Go.RowKit
theorem frameR3' (w : World) (a0 a1 b0 b1 c0 c1 : Value) : Below w.heap.size w (((w.alloc (.cells #[a0, a1] 24)).alloc (.cells #[b0, b1] 24)).alloc (.cells #[c0, c1] 24)) ∧ Slot2 (((w.alloc (.cells #[a0, a1] 24)).alloc (.cells #[b0, b1] 24)).alloc (.cells #[c0, c1] 24)) w.heap.size a0 a1 ∧ Slot2 (((w.alloc (.cells #[a0, a1] 24)).alloc (.cells #[b0, b1] 24)).alloc (.cells #[c0, c1] 24)) (w.heap.size + 1) b0 b1 ∧ Slot2 (((w.alloc (.cells #[a0, a1] 24)).alloc (.cells #[b0, b1] 24)).alloc (.cells #[c0, c1] 24)) (w.heap.size + 1 + 1) c0 c1 := by
  have h1 := Slot2.new (w.alloc (.cells #[a0, a1] 24)) b0 b1 24
  have h2 := Slot2.new ((w.alloc (.cells #[a0, a1] 24)).alloc (.cells #[b0, b1] 24)) c0 c1 24
  rw [World.size_alloc] at h1
  rw [World.size_alloc, World.size_alloc] at h2
  exact ⟨(((Below.refl _ _).alloc (Nat.le_refl _) _).alloc (by simp) _).alloc (by simp; omega) _, ((Slot2.new w a0 a1 _).alloc _).alloc _, h1.alloc _, h2⟩
theorem Slot2.set0' {w : World} {g : Nat} {a0 a1 : Value} (h : Slot2 w g a0 a1) (u : Value) : Slot2 (w.setCell ⟨g, 0, none⟩ u) g u a1 := by
  obtain ⟨h0, h1, f0, f1, hl⟩ := h
  refine ⟨World.cell?_setCell_same _ _ _ h0, by rw [World.cell?_setCell_other _ _ _ _ (by simp), h1], ?_, ?_, ?_⟩
  · simp [f0]
  · simp [f1]
  · simp only [World.setCell, Array.size_modify]; exact hl
/-- A struct whose first cell is written once. -/
def BlkS (w : World) (g : Nat) (a0 a0' a1 : Value) (st : Bool) : Prop := (st = false → Slot2 w g a0 a1) ∧ (st = true → Slot2 w g a0' a1)
theorem BlkS.below {w w' : World} {g : Nat} {a0 a0' a1 : Value} {st : Bool} (h : BlkS w g a0 a0' a1 st) (hb : Below w.heap.size w w') : BlkS w' g a0 a0' a1 st := ⟨fun e => (h.1 e).after hb, fun e => (h.2 e).after hb⟩
theorem BlkS.start {w : World} {g : Nat} {a0 a0' a1 : Value} (h : Slot2 w g a0 a1) : BlkS w g a0 a0' a1 false := ⟨fun _ => h, (fun e => by cases e)⟩
theorem BlkS.far {w : World} {g g' i : Nat} {a0 a0' a1 : Value} {st : Bool} (h : BlkS w g a0 a0' a1 st) (hne : g ≠ g') (u : Value) : BlkS (w.setCell ⟨g', i, none⟩ u) g a0 a0' a1 st := ⟨fun e => (h.1 e).far hne u, fun e => (h.2 e).far hne u⟩
theorem BlkS.near {w : World} {g : Nat} {a0 a0' a1 : Value} (h : Slot2 w g a0 a1) : BlkS (w.setCell ⟨g, 0, none⟩ a0') g a0 a0' a1 true := ⟨(fun e => by cases e), fun _ => Slot2.set0' h a0'⟩
/-- The length of a slice that is cut. -/
theorem cut_len (n L : Nat) : ∃ k : Nat, (min (n : Int) L = k ∧ (if (L : Int) < n then (L : Int) else n) = k) ∧ k ≤ L ∧ k ≤ n := by
  rcases Nat.lt_or_ge L n with h | h
  · exact ⟨L, ⟨by omega, by rw [if_pos (by omega)]⟩, by omega, by omega⟩
  · exact ⟨n, ⟨by omega, by rw [if_neg (by omega)]⟩, h, by omega⟩
theorem Sz.cut (s : Bool) (xs : List Nat) (l L : Nat) (h : ∀ x ∈ xs, x < 4294967296) (hl : l ≤ L) (hL : L ≤ 10000) : Sz L (zOf s (val ((xs.take l).take 12))) := by
  refine Sz.of ?_ hL
  rw [zOf_natAbs]
  have h1 := val_lt (limbs_take (limbs_take h l) 12)
  refine Nat.lt_of_lt_of_le h1 (Nat.pow_le_pow_right (by decide) ?_)
  rw [List.length_take, List.length_take]; omega
theorem Sz.gcd {k : Nat} {a b : Int} (ha : Sz k a) (hb : Sz k b) : Sz k ((Nat.gcd a.natAbs b.natAbs : Nat) : Int) := by
  refine ⟨ha.le, ?_⟩
  rw [Int.natAbs_natCast]
  rcases Nat.eq_zero_or_pos a.natAbs with h | h
  · rw [h, Nat.gcd_zero_left]; exact hb.len
  · exact Nat.le_trans (digs_len_mono (Nat.le_of_dvd h (Nat.gcd_dvd_left _ _))) ha.len
theorem gcd_mulc (a b c : Int) : ((Nat.gcd (a * c).natAbs (b * c).natAbs : Nat) : Int) = ((Nat.gcd a.natAbs b.natAbs : Nat) : Int) * ((c.natAbs : Nat) : Int) := by
  rw [Int.natAbs_mul, Int.natAbs_mul, Nat.gcd_mul_right, Int.natCast_mul]
theorem gcd_mod (a : Int) (g : Nat) (h : g ∣ a.natAbs) : sgn (a % ((g : Nat) : Int)) = 0 := sgn_zero (Int.emod_eq_zero_of_dvd (Int.ofNat_dvd_left.2 h))
set_option maxRecDepth 1000000 in
set_option maxHeartbeats 4000000 in
theorem gcd_r5 {u0 u1 u2 u3 u4 u5 u6 u7 u13 u14 u15 u16 u17 u18 u19 u20 u21 u22 u23 u24 u25 u26 u27 u28 u29 u30 u31 u32 u33 u34 u35 u36 u37 u38 u39 u40 u41 u42 u43 u44 u45 u46 u47 u48 u49 u50 u51 u52 u53 u54 u55 u56 u57 u58 u59 u60 u61 u62 u63 u64 u65 u66 u67 u68 u69 u70 u71 u72 u73 u74 u75 u76 u77 u78 u79 u80 u81 u82 u83 u84 u85 u86 u87 u88 u89 u90 u91 u92 u93 u94 u95 u96 u97 u98 u99 u100 u101 u102 u103 u104 u105 u106 u107 u108 u109 u110 u111 u112 u113 u114 u115 u116 u117 u118 u119 u120 u121 u122 u123 u124 u125 u126 u127 u128 u129 u130 u131 u132 : Value} {W : World} {K : Act → World → Prop} {Q : Exit → Act → World → Prop} {bg ba bb bh bc : Nat} {zg za zb zh zc : Int} (Hg : IntAt W bg (zg)) (Ha : IntAt W ba (za)) (Hb : IntAt W bb (zb)) (Hh : IntAt W bh (zh)) (Hc : IntAt W bc (zc)) (Zg : Sz 6 (zg)) (Za : Sz 6 (za)) (Zb : Sz 6 (zb)) (Zc : Sz 2 (zc)) (h8 : 6 + 1 + 1 ≤ 10000) (e1 : Hid (zg = ((Nat.gcd za.natAbs zb.natAbs : Nat) : Int))) (e2 : Hid (zg = ((Nat.gcd zb.natAbs za.natAbs : Nat) : Int))) (e3 : Hid (zh = zg * ((zc.natAbs : Nat) : Int)))
    (hK : ∀ (v60 v61 v62 v63 v64 v65 v66 v67 v68 v69 v70 v71 v72 v73 v74 v75 v76 v77 v78 v79 v80 v81 v82 v83 v84 v85 v86 v87 : Value) (w' : World), Below W.heap.size W w' → K ⟨#[u0, u1, u2, u3, u4, u5, u6, u7, .pointer (some ⟨ba, 0, none⟩), .pointer (some ⟨bb, 0, none⟩), .pointer (some ⟨bc, 0, none⟩), .pointer (some ⟨bg, 0, none⟩), .pointer (some ⟨bh, 0, none⟩), u13, u14, u15, u16, u17, u18, u19, u20, u21, u22, u23, u24, u25, u26, u27, u28, u29, u30, u31, u32, u33, u34, u35, u36, u37, u38, u39, u40, u41, u42, u43, u44, u45, u46, u47, u48, u49, u50, u51, u52, u53, u54, u55, u56, u57, u58, u59, v60, v61, v62, v63, v64, v65, v66, v67, v68, v69, v70, v71, v72, v73, v74, v75, v76, v77, v78, v79, v80, v81, v82, v83, v84, v85, v86, v87, .bool false, u89, u90, u91, u92, u93, u94, u95, u96, u97, u98, u99, u100, u101, u102, u103, u104, u105, u106, u107, u108, u109, u110, u111, u112, u113, u114, u115, u116, u117, u118, u119, u120, u121, u122, u123, u124, u125, u126, u127, u128, u129, u130, u131, u132], []⟩ w') :
    Code.wp Tryd.prog (regionOf 5 Tryd.f3) (Exit.then K Q) ⟨#[u0, u1, u2, u3, u4, u5, u6, u7, .pointer (some ⟨ba, 0, none⟩), .pointer (some ⟨bb, 0, none⟩), .pointer (some ⟨bc, 0, none⟩), .pointer (some ⟨bg, 0, none⟩), .pointer (some ⟨bh, 0, none⟩), u13, u14, u15, u16, u17, u18, u19, u20, u21, u22, u23, u24, u25, u26, u27, u28, u29, u30, u31, u32, u33, u34, u35, u36, u37, u38, u39, u40, u41, u42, u43, u44, u45, u46, u47, u48, u49, u50, u51, u52, u53, u54, u55, u56, u57, u58, u59, u60, u61, u62, u63, u64, u65, u66, u67, u68, u69, u70, u71, u72, u73, u74, u75, u76, u77, u78, u79, u80, u81, u82, u83, u84, u85, u86, u87, u88, u89, u90, u91, u92, u93, u94, u95, u96, u97, u98, u99, u100, u101, u102, u103, u104, u105, u106, u107, u108, u109, u110, u111, u112, u113, u114, u115, u116, u117, u118, u119, u120, u121, u122, u123, u124, u125, u126, u127, u128, u129, u130, u131, u132], []⟩ W := by
  conv => arg 2; whnf
  obtain ⟨gg, Ag, ng, cg, Sg, Ig⟩ := Hg
  obtain ⟨ga, Aa, na, ca, Sa, Ia⟩ := Ha
  obtain ⟨gb, Ab, nb, cb, Sb, Ib⟩ := Hb
  obtain ⟨gh, Ah, nh, ch, Sh, Ih⟩ := Hh
  obtain ⟨gc, Ac, nc, cc, Sc, Ic⟩ := Hc
  have Zt6 : Sz 2 (((zc.natAbs : Nat) : Int)) := Sz.abs Zc
  have Zt7 : Sz 8 (zg * (((zc.natAbs : Nat) : Int))) := Sz.mul Zg Zt6 (by decide)
  have HS : Hid (∀ V, Below W.heap.size W V → V.cell? ⟨bg, 0, none⟩ = some (.bool gg) ∧ V.cell? ⟨bg, 1, none⟩ = some (.slice Ag ng cg) ∧ V.cell? ⟨ba, 0, none⟩ = some (.bool ga) ∧ V.cell? ⟨ba, 1, none⟩ = some (.slice Aa na ca) ∧ V.cell? ⟨bb, 0, none⟩ = some (.bool gb) ∧ V.cell? ⟨bb, 1, none⟩ = some (.slice Ab nb cb) ∧ V.cell? ⟨bh, 0, none⟩ = some (.bool gh) ∧ V.cell? ⟨bh, 1, none⟩ = some (.slice Ah nh ch) ∧ V.cell? ⟨bc, 0, none⟩ = some (.bool gc) ∧ V.cell? ⟨bc, 1, none⟩ = some (.slice Ac nc cc)) := fun V hW => ⟨(Sg.after hW).1, (Sg.after hW).2.1, (Sa.after hW).1, (Sa.after hW).2.1, (Sb.after hW).1, (Sb.after hW).2.1, (Sh.after hW).1, (Sh.after hW).2.1, (Sc.after hW).1, (Sc.after hW).2.1⟩
  have Dt0 : Below W.heap.size W W.drew := (Below.refl _ _).drew
  refine wp_region_seq (.pre [(0, true), (1, true), (2, true), (3, false), (4, false), (5, true), (6, true), (7, true), (8, true), (9, true), (10, false), (11, false), (12, true), (13, true), (14, true), (15, true), (16, false), (17, true), (18, true), (19, true), (20, true), (21, true), (22, true), (23, true), (24, false)] (.pre [(25, false), (26, false), (27, true), (28, true)] .done)) (fun W => W.cell? ⟨bg, 0, none⟩ = some (.bool gg) ∧ W.cell? ⟨bg, 1, none⟩ = some (.slice Ag ng cg) ∧ W.cell? ⟨ba, 0, none⟩ = some (.bool ga) ∧ W.cell? ⟨ba, 1, none⟩ = some (.slice Aa na ca) ∧ W.cell? ⟨bb, 0, none⟩ = some (.bool gb) ∧ W.cell? ⟨bb, 1, none⟩ = some (.slice Ab nb cb) ∧ W.cell? ⟨bh, 0, none⟩ = some (.bool gh) ∧ W.cell? ⟨bh, 1, none⟩ = some (.slice Ah nh ch) ∧ W.cell? ⟨bc, 0, none⟩ = some (.bool gc) ∧ W.cell? ⟨bc, 1, none⟩ = some (.slice Ac nc cc)) (by kernel_rfl) (by kernel_rfl) ?_ (by kernel_rfl) (HS.out _ Dt0) ?_
  · refine chk_pre _ _ _ (by as_aux_lemma => kernel_rfl) ?_
    refine chk_pre _ _ _ (by as_aux_lemma => kernel_rfl) ?_
    exact (by as_aux_lemma => kernel_rfl)
  refine seq_take _ ?_ rfl (Or.inl ⟨by rfl, ?_⟩) ?_
  rotate_left
  · (intro w hSw; (try dsimp only at hSw); go_simp; (try with_reducible rfl))
  try simp only [Act.put, List.setIfInBounds_toArray, List.set_cons_zero, List.set_cons_succ]
  refine seq_take _ ?_ rfl (Or.inl ⟨by rfl, ?_⟩) ?_
  rotate_left
  · (intro w hSw; (try dsimp only at hSw); go_simp; (try with_reducible rfl))
  try simp only [Act.put, List.setIfInBounds_toArray, List.set_cons_zero, List.set_cons_succ]
  refine seq_take _ ?_ rfl (Or.inl ⟨by rfl, ?_⟩) ?_
  rotate_left
  · (intro w hSw; (try dsimp only at hSw); go_simp; (try with_reducible rfl))
  try simp only [Act.put, List.setIfInBounds_toArray, List.set_cons_zero, List.set_cons_succ]
  refine seq_one _ rfl fun K hK => ?_
  go_simp
  (with_reducible refine (rgcd_z ga gb Aa Ab na ca nb cb _ (Ia.below Dt0) (Ib.below Dt0) Za Zb h8).mono ?_)
  rintro e vt1 ⟨gt1, At1, nt1, ct1, rfl, it1, bt1⟩
  have Dt1 : Below W.heap.size W vt1 := Below.trans Dt0 (bt1.mono (Below.size Dt0))
  go_wp2_with fail
  refine hK.out _ _ (HS.out _ Dt1) (fun hHeld => ?_)
  clear hK K hHeld
  try simp only [Act.put, List.setIfInBounds_toArray, List.set_cons_zero, List.set_cons_succ]
  refine seq_one _ rfl fun K hK => ?_
  go_simp
  (with_reducible refine (same_z gg gt1 Ag At1 ng cg nt1 ct1 _ (Ig.below Dt1) it1 e1.out).mono ?_)
  rintro e vt2 ⟨rfl, bt2⟩
  have Dt2 : Below W.heap.size W vt2 := Below.trans Dt1 (bt2.mono (Below.size Dt1))
  go_wp2_with fail
  refine hK.out _ _ (HS.out _ Dt2) (fun hHeld => ?_)
  clear hK K hHeld
  try simp only [Act.put, List.setIfInBounds_toArray, List.set_cons_zero, List.set_cons_succ]
  refine seq_take _ ?_ rfl (Or.inl ⟨by rfl, ?_⟩) ?_
  rotate_left
  · (intro w hSw; (try dsimp only at hSw); go_simp; (try with_reducible rfl))
  try simp only [Act.put, List.setIfInBounds_toArray, List.set_cons_zero, List.set_cons_succ]
  refine seq_take _ ?_ rfl (Or.inl ⟨by rfl, ?_⟩) ?_
  rotate_left
  · (intro w hSw; (try dsimp only at hSw); go_simp; (try with_reducible rfl))
  try simp only [Act.put, List.setIfInBounds_toArray, List.set_cons_zero, List.set_cons_succ]
  refine seq_take _ ?_ rfl (Or.inl ⟨by rfl, ?_⟩) ?_
  rotate_left
  · (intro w hSw; (try dsimp only at hSw); go_simp; (try with_reducible rfl))
  try simp only [Act.put, List.setIfInBounds_toArray, List.set_cons_zero, List.set_cons_succ]
  refine seq_take _ ?_ rfl (Or.inl ⟨by rfl, ?_⟩) ?_
  rotate_left
  · (intro w hSw; (try dsimp only at hSw); go_simp; (try with_reducible rfl))
  try simp only [Act.put, List.setIfInBounds_toArray, List.set_cons_zero, List.set_cons_succ]
  refine seq_take _ ?_ rfl (Or.inl ⟨by rfl, ?_⟩) ?_
  rotate_left
  · (intro w hSw; (try dsimp only at hSw); go_simp; (try with_reducible rfl))
  try simp only [Act.put, List.setIfInBounds_toArray, List.set_cons_zero, List.set_cons_succ]
  refine seq_one _ rfl fun K hK => ?_
  go_simp
  (with_reducible refine (gcd_z gb ga Ab Aa nb cb na ca _ (Ib.below Dt2) (Ia.below Dt2) Zb Za).mono ?_)
  rintro e vt3 ⟨gt3, At3, nt3, ct3, rfl, it3, bt3⟩
  have Dt3 : Below W.heap.size W vt3 := Below.trans Dt2 (bt3.mono (Below.size Dt2))
  go_wp2_with fail
  refine hK.out _ _ (HS.out _ Dt3) (fun hHeld => ?_)
  clear hK K hHeld
  try simp only [Act.put, List.setIfInBounds_toArray, List.set_cons_zero, List.set_cons_succ]
  refine seq_one _ rfl fun K hK => ?_
  go_simp
  (with_reducible refine (same_z gg gt3 Ag At3 ng cg nt3 ct3 _ (Ig.below Dt3) it3 e2.out).mono ?_)
  rintro e vt4 ⟨rfl, bt4⟩
  have Dt4 : Below W.heap.size W vt4 := Below.trans Dt3 (bt4.mono (Below.size Dt3))
  go_wp2_with fail
  refine hK.out _ _ (HS.out _ Dt4) (fun hHeld => ?_)
  clear hK K hHeld
  try simp only [Act.put, List.setIfInBounds_toArray, List.set_cons_zero, List.set_cons_succ]
  refine seq_take _ ?_ rfl (Or.inl ⟨by rfl, ?_⟩) ?_
  rotate_left
  · (intro w hSw; (try dsimp only at hSw); go_simp; (try with_reducible rfl))
  try simp only [Act.put, List.setIfInBounds_toArray, List.set_cons_zero, List.set_cons_succ]
  refine seq_take _ ?_ rfl (Or.inl ⟨by rfl, ?_⟩) ?_
  rotate_left
  · (intro w hSw; (try dsimp only at hSw); go_simp; (try with_reducible rfl))
  try simp only [Act.put, List.setIfInBounds_toArray, List.set_cons_zero, List.set_cons_succ]
  refine seq_take _ ?_ rfl (Or.inl ⟨by rfl, ?_⟩) ?_
  rotate_left
  · (intro w hSw; (try dsimp only at hSw); go_simp; (try with_reducible rfl))
  try simp only [Act.put, List.setIfInBounds_toArray, List.set_cons_zero, List.set_cons_succ]
  refine seq_take _ ?_ rfl (Or.inl ⟨by rfl, ?_⟩) ?_
  rotate_left
  · (intro w hSw; (try dsimp only at hSw); go_simp; (try with_reducible rfl))
  try simp only [Act.put, List.setIfInBounds_toArray, List.set_cons_zero, List.set_cons_succ]
  as_aux_lemma =>
    refine seq_one _ rfl fun K hK => ?_
    go_simp
    (with_reducible refine (rvalid_z gg Ag ng cg _ (Ig.below Dt4)).mono ?_)
    rintro e vt5 ⟨rfl, bt5⟩
    have Dt5 : Below W.heap.size W vt5 := Below.trans Dt4 (bt5.mono (Below.size Dt4))
    go_wp2_with fail
    refine hK.out _ _ (HS.out _ Dt5) (fun hHeld => ?_)
    clear hK K hHeld
    try simp only [Act.put, List.setIfInBounds_toArray, List.set_cons_zero, List.set_cons_succ]
    refine seq_take _ ?_ rfl (Or.inl ⟨by rfl, ?_⟩) ?_
    rotate_left
    · (intro w hSw; (try dsimp only at hSw); go_simp; (try with_reducible rfl))
    try simp only [Act.put, List.setIfInBounds_toArray, List.set_cons_zero, List.set_cons_succ]
    refine seq_take _ ?_ rfl (Or.inl ⟨by rfl, ?_⟩) ?_
    rotate_left
    · (intro w hSw; (try dsimp only at hSw); go_simp; (try with_reducible rfl))
    try simp only [Act.put, List.setIfInBounds_toArray, List.set_cons_zero, List.set_cons_succ]
    refine seq_take _ ?_ rfl (Or.inl ⟨by rfl, ?_⟩) ?_
    rotate_left
    · (intro w hSw; (try dsimp only at hSw); go_simp; (try with_reducible rfl))
    try simp only [Act.put, List.setIfInBounds_toArray, List.set_cons_zero, List.set_cons_succ]
    refine seq_take _ ?_ rfl (Or.inl ⟨by rfl, ?_⟩) ?_
    rotate_left
    · (intro w hSw; (try dsimp only at hSw); go_simp; (try with_reducible rfl))
    try simp only [Act.put, List.setIfInBounds_toArray, List.set_cons_zero, List.set_cons_succ]
    refine seq_take _ ?_ rfl (Or.inl ⟨by rfl, ?_⟩) ?_
    rotate_left
    · (intro w hSw; (try dsimp only at hSw); go_simp; (try with_reducible rfl))
    try simp only [Act.put, List.setIfInBounds_toArray, List.set_cons_zero, List.set_cons_succ]
    refine seq_take _ ?_ rfl (Or.inl ⟨by rfl, ?_⟩) ?_
    rotate_left
    · (intro w hSw; (try dsimp only at hSw); go_simp; (try with_reducible rfl))
    try simp only [Act.put, List.setIfInBounds_toArray, List.set_cons_zero, List.set_cons_succ]
    refine seq_take _ ?_ rfl (Or.inl ⟨by rfl, ?_⟩) ?_
    rotate_left
    · (intro w hSw; (try dsimp only at hSw); go_simp; (try with_reducible rfl))
    try simp only [Act.put, List.setIfInBounds_toArray, List.set_cons_zero, List.set_cons_succ]
    refine seq_one _ rfl fun K hK => ?_
    go_simp
    (with_reducible refine (rmadeAbs_z gc Ac nc cc _ (Ic.below Dt5) Zc).mono ?_)
    rintro e vt6 ⟨gt6, At6, nt6, ct6, rfl, it6, bt6⟩
    have Dt6 : Below W.heap.size W vt6 := Below.trans Dt5 (bt6.mono (Below.size Dt5))
    go_wp2_with fail
    refine hK.out _ _ (HS.out _ Dt6) (fun hHeld => ?_)
    clear hK K hHeld
    try simp only [Act.put, List.setIfInBounds_toArray, List.set_cons_zero, List.set_cons_succ]
    refine seq_one _ rfl fun K hK => ?_
    go_simp
    (with_reducible refine (rmul_z gg gt6 Ag At6 ng cg nt6 ct6 _ (Ig.below Dt6) it6 Zg Zt6).mono ?_)
    rintro e vt7 ⟨gt7, At7, nt7, ct7, rfl, it7, bt7⟩
    have Dt7 : Below W.heap.size W vt7 := Below.trans Dt6 (bt7.mono (Below.size Dt6))
    go_wp2_with fail
    refine hK.out _ _ (HS.out _ Dt7) (fun hHeld => ?_)
    clear hK K hHeld
    try simp only [Act.put, List.setIfInBounds_toArray, List.set_cons_zero, List.set_cons_succ]
    refine seq_one _ rfl fun K hK => ?_
    go_simp
    (with_reducible refine (same_z gh gt7 Ah At7 nh ch nt7 ct7 _ (Ih.below Dt7) it7 e3.out).mono ?_)
    rintro e vt8 ⟨rfl, bt8⟩
    have Dt8 : Below W.heap.size W vt8 := Below.trans Dt7 (bt8.mono (Below.size Dt7))
    go_wp2_with fail
    refine hK.out _ _ (HS.out _ Dt8) (fun hHeld => ?_)
    clear hK K hHeld
    try simp only [Act.put, List.setIfInBounds_toArray, List.set_cons_zero, List.set_cons_succ]
    refine seq_take _ ?_ rfl (Or.inl ⟨by rfl, ?_⟩) ?_
    rotate_left
    · (intro w hSw; (try dsimp only at hSw); go_simp; (try with_reducible rfl))
    try simp only [Act.put, List.setIfInBounds_toArray, List.set_cons_zero, List.set_cons_succ]
    refine seq_take _ ?_ rfl (Or.inl ⟨by rfl, ?_⟩) ?_
    rotate_left
    · (intro w hSw; (try dsimp only at hSw); go_simp; (try with_reducible rfl))
    try simp only [Act.put, List.setIfInBounds_toArray, List.set_cons_zero, List.set_cons_succ]
    refine NoPanic.normal ?_
    exact hK _ _ _ _ _ _ _ _ _ _ _ _ _ _ _ _ _ _ _ _ _ _ _ _ _ _ _ _ _ Dt8
end Go.Proofs.YtnlmdjbakcjhbaaDoor
