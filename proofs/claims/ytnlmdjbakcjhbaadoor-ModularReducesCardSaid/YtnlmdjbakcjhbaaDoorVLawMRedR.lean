/- Two regions of the law ModularReduces. -/
import Derived.Test.YtnlmdjbakcjhbaaDoorVLawMK
import Derived.Test.YtnlmdjbakcjhbaaDoorVQRed
import Derived.Test.YtnlmdjbakcjhbaaDoorVMadeM
import Derived.Test.YtnlmdjbakcjhbaaDoorVG24Sz
import Derived.Test.YtnlmdjbakcjhbaaDoorVG3Made
import Derived.Test.YtnlmdjbakcjhbaaDoorVSanP
import Derived.BigRegion
import Derived.RegionTactic
import Derived.ChangeAlike
import Derived.Deep.DeepCutAuto
import Derived.Deep.RegionHeld3
namespace Go.Proofs.YtnlmdjbakcjhbaaDoor
open Go.RowKit
theorem mred_v {neg : Bool} {A : Option Addr} {n c : Nat} {z : Int} (p v : Nat) (w : World) (hp0 : 0 < p) (hp : p < 2147483648) (ha : IsInt w neg A n c z) (h : Hid ((v : Int) = z % (p : Int))) :
    Calls Tryd.prog 43 #[.int .u64 (p : Int), .agg #[.bool neg, .slice A n c]] w fun e w' => e = .returned (.int .u64 (v : Int)) ∧ Below w.heap.size w w' := by
  rw [h.out]; exact mred_z p hp0 hp ha
theorem qred_v {neg : Bool} {A : Option Addr} {n c : Nat} {z : Int} (p v : Nat) (w : World) (hp0 : 0 < p) (hp : p < 2147483648) (ha : IsInt w neg A n c z) (Za : Sz 4 z) (h : Hid ((v : Int) = z % (p : Int))) :
    Calls Tryd.prog 44 #[.int .u64 (p : Int), .agg #[.bool neg, .slice A n c]] w fun e w' => e = .returned (.int .u64 (v : Int)) ∧ Below w.heap.size w w' := by
  rw [h.out]; exact qred_z neg A n c z p w hp0 hp ha Za (by decide)
theorem res_ex (p : Nat) (z : Int) (hp0 : 0 < p) : ∃ r : Nat, (r : Int) = z % (p : Int) ∧ r < p := by
  have h0 : 0 ≤ z % (p : Int) := Int.emod_nonneg _ (by omega)
  have h1 : z % (p : Int) < p := Int.emod_lt_of_pos _ (by omega)
  exact ⟨(z % (p : Int)).toNat, by omega, by omega⟩
theorem sym_mod (p r : Nat) (hr : r < p) : (r : Int) = symZ p r % (p : Int) := by
  unfold symZ
  split
  · rw [← Int.add_emod_right ((r : Int) - p) p, show (r : Int) - p + p = r by omega]
    exact (Int.emod_eq_of_lt (by omega) (by omega)).symm
  · exact (Int.emod_eq_of_lt (by omega) (by omega)).symm
theorem sym_range (p r : Nat) (hr : r < p) : cmpN (symZ p r + symZ p r) (p : Int) ≤ 0 ∧ 0 < cmpN (symZ p r + symZ p r) (-(p : Int)) := by
  unfold symZ cmpN
  split <;> (constructor <;> (repeat' split) <;> omega)
theorem add_mod (p r s : Nat) (a b : Int) (h1 : (r : Int) = a % (p : Int)) (h2 : (s : Int) = b % (p : Int)) : (((r + s) % p : Nat) : Int) = (a + b) % (p : Int) := by
  rw [Int.natCast_emod, Int.natCast_add, h1, h2, ← Int.add_emod]
theorem mul_mod (p r s : Nat) (a b : Int) (h1 : (r : Int) = a % (p : Int)) (h2 : (s : Int) = b % (p : Int)) : ((r * s % p : Nat) : Int) = (a * b) % (p : Int) := by
  rw [Int.natCast_emod, Int.natCast_mul, h1, h2, ← Int.mul_emod]
set_option maxRecDepth 1000000 in
set_option maxHeartbeats 4000000 in
theorem mred_r11 {u0 u1 u2 u3 u4 u5 u6 u7 u9 u10 u11 u12 u13 u15 u16 u17 u18 u19 u20 u21 u22 u23 u24 u25 u26 u27 u28 u29 u30 u31 u32 u33 u34 u35 u36 u37 u38 u39 u40 u41 u42 u43 u44 u45 u46 u47 u48 u49 u50 u51 u52 u53 u54 u55 u56 u57 u58 u59 u60 u61 u62 u63 u64 u65 u66 u67 u68 u69 u70 u71 u72 u73 u74 u75 u76 u77 u78 u79 u80 u81 u82 u83 u84 u85 u86 u87 u88 u89 u90 u91 u92 u93 u94 u95 u96 u97 u98 u99 : Value} {W : World} {K : Act → World → Prop} {Q : Exit → Act → World → Prop} {bw : Nat} {zy : Int} (Hy : IntAt W bw (zy)) (Zy : Sz 2 (zy)) {p : Nat} {v1 v2 : Int} (Zp : Sz 1 (p : Int)) (hq1 : -9223372036854775808 ≤ (p : Int)) (hq2 : (p : Int) ≤ 9223372036854775807) (hq3 : -9223372036854775808 ≤ -(p : Int)) (hq4 : -(p : Int) ≤ 9223372036854775807) (hw1 : IntKind.i64.wrap (p : Int) = p) (hw2 : IntKind.i64.wrap (-(p : Int)) = -(p : Int)) (_hw3 : wrap64 (-(p : Int)) = -(p : Int)) (e1 : Hid (cmpN zy (p : Int) = v1)) (e2 : Hid (cmpN zy (-(p : Int)) = v2)) (hv1 : v1 ≤ 0) (hv2 : 0 < v2)
    (hK : ∀ (v50 v51 v52 v53 v54 v55 v56 v57 v58 v59 v60 v61 v62 v63 v64 : Value) (w' : World), Below W.heap.size W w' → K ⟨#[u0, u1, u2, u3, u4, u5, u6, u7, .int .u64 (p : Int), u9, u10, u11, u12, u13, .pointer (some ⟨bw, 0, none⟩), .bool true, u16, u17, u18, u19, u20, u21, u22, u23, u24, u25, u26, u27, u28, u29, u30, u31, u32, u33, u34, u35, u36, u37, u38, u39, u40, u41, u42, u43, u44, u45, u46, u47, u48, u49, v50, v51, v52, v53, v54, v55, v56, v57, v58, v59, v60, v61, v62, v63, v64, u65, u66, u67, u68, u69, u70, u71, u72, u73, u74, u75, u76, u77, u78, u79, u80, u81, u82, u83, u84, u85, u86, u87, u88, u89, u90, u91, u92, u93, u94, u95, u96, u97, u98, u99], []⟩ w') :
    Code.wp Tryd.prog (regionOf 11 Tryd.f8) (Exit.then K Q) ⟨#[u0, u1, u2, u3, u4, u5, u6, u7, .int .u64 (p : Int), u9, u10, u11, u12, u13, .pointer (some ⟨bw, 0, none⟩), u15, u16, u17, u18, u19, u20, u21, u22, u23, u24, u25, u26, u27, u28, u29, u30, u31, u32, u33, u34, u35, u36, u37, u38, u39, u40, u41, u42, u43, u44, u45, u46, u47, u48, u49, u50, u51, u52, u53, u54, u55, u56, u57, u58, u59, u60, u61, u62, u63, u64, u65, u66, u67, u68, u69, u70, u71, u72, u73, u74, u75, u76, u77, u78, u79, u80, u81, u82, u83, u84, u85, u86, u87, u88, u89, u90, u91, u92, u93, u94, u95, u96, u97, u98, u99], []⟩ W := by
  conv => arg 2; whnf
  obtain ⟨gy, Ay, ny, cy, Sy, Iy⟩ := Hy
  have Zs1 : Sz 1 ((p : Int)) := Zp
  have Zs3 : Sz 1 ((-(p : Int))) := Sz.neg Zp
  have HS : Hid (∀ V, Below W.heap.size W V → V.cell? ⟨bw, 0, none⟩ = some (.bool gy) ∧ V.cell? ⟨bw, 1, none⟩ = some (.slice Ay ny cy)) := fun V hW => ⟨(Sy.after hW).1, (Sy.after hW).2.1⟩
  have Ds0 : Below W.heap.size W W.drew := (Below.refl _ _).drew
  refine wp_region_seq (.pre [(0, true), (1, true), (2, true), (3, false), (4, false), (5, true), (6, true), (7, true), (8, true), (9, true), (10, true), (11, false), (12, false), (13, true), (14, true), (15, true)] .done) (fun W => W.cell? ⟨bw, 0, none⟩ = some (.bool gy) ∧ W.cell? ⟨bw, 1, none⟩ = some (.slice Ay ny cy)) (by kernel_rfl) (by kernel_rfl) ?_ (by kernel_rfl) (HS.out _ Ds0) ?_
  · refine chk_pre _ _ _ (by as_aux_lemma => kernel_rfl) ?_
    exact (by as_aux_lemma => kernel_rfl)
  refine seq_take _ ?_ rfl (Or.inl ⟨by rfl, ?_⟩) ?_
  rotate_left
  · (intro w hSw; (try dsimp only at hSw); go_simp; (try with_reducible rfl))
  try simp only [Act.put, List.setIfInBounds_toArray, List.set_cons_zero, List.set_cons_succ]
  refine seq_take _ ?_ rfl (Or.inl ⟨by rfl, ?_⟩) ?_
  rotate_left
  · (intro w hSw; (try dsimp only at hSw); go_simp; (try with_reducible rfl))
  try simp only [Act.put, List.setIfInBounds_toArray, List.set_cons_zero, List.set_cons_succ]
  refine seq_take _ ?_ rfl (Or.inl ⟨by rfl, ?_⟩) ?_
  rotate_left
  · (intro w hSw; (try dsimp only at hSw); go_simp; (try with_reducible rfl))
  try simp only [Act.put, List.setIfInBounds_toArray, List.set_cons_zero, List.set_cons_succ]
  refine seq_one _ rfl fun K hK => ?_
  go_simp
  (with_reducible refine (rof_any (p : Int) _ hq1 hq2).mono ?_)
  rintro e vs1 ⟨gs1, As1, ns1, cs1, rfl, is1, bs1⟩
  have Ds1 : Below W.heap.size W vs1 := Below.trans Ds0 (bs1.mono (Below.size Ds0))
  go_wp2_with fail
  refine hK.out _ _ (HS.out _ Ds1) (fun hHeld => ?_)
  clear hK K hHeld
  try simp only [Act.put, List.setIfInBounds_toArray, List.set_cons_zero, List.set_cons_succ]
  refine seq_one _ rfl fun K hK => ?_
  go_simp
  (with_reducible refine (rcmp_z gy gs1 Ay As1 ny cy ns1 cs1 _ (v1) (Iy.below Ds1) is1 Zy Zs1 e1.out).mono ?_)
  rintro e vs2 ⟨rfl, bs2⟩
  have Ds2 : Below W.heap.size W vs2 := Below.trans Ds1 (bs2.mono (Below.size Ds1))
  go_wp2_with fail
  refine hK.out _ _ (HS.out _ Ds2) (fun hHeld => ?_)
  clear hK K hHeld
  try simp only [Act.put, List.setIfInBounds_toArray, List.set_cons_zero, List.set_cons_succ]
  refine seq_take _ ?_ rfl (Or.inl ⟨by rfl, ?_⟩) ?_
  rotate_left
  · (intro w hSw; (try dsimp only at hSw); go_simp; (try with_reducible rfl))
  try simp only [Act.put, List.setIfInBounds_toArray, List.set_cons_zero, List.set_cons_succ]
  refine seq_take _ ?_ rfl (Or.inl ⟨by rfl, ?_⟩) ?_
  rotate_left
  · (intro w hSw; (try dsimp only at hSw); go_simp; (try with_reducible rfl))
  try simp only [Act.put, List.setIfInBounds_toArray, List.set_cons_zero, List.set_cons_succ]
  refine seq_take _ ?_ rfl (Or.inl ⟨by rfl, ?_⟩) ?_
  rotate_left
  · (intro w hSw; (try dsimp only at hSw); go_simp; (try with_reducible rfl))
  try simp only [Act.put, List.setIfInBounds_toArray, List.set_cons_zero, List.set_cons_succ]
  refine seq_take _ ?_ rfl (Or.inl ⟨by rfl, ?_⟩) ?_
  rotate_left
  · (intro w hSw; (try dsimp only at hSw); go_simp; (try with_reducible rfl))
  try simp only [Act.put, List.setIfInBounds_toArray, List.set_cons_zero, List.set_cons_succ]
  refine seq_take _ ?_ rfl (Or.inl ⟨by rfl, ?_⟩) ?_
  rotate_left
  · (intro w hSw; (try dsimp only at hSw); go_simp; (try with_reducible rfl))
  try simp only [Act.put, List.setIfInBounds_toArray, List.set_cons_zero, List.set_cons_succ]
  refine seq_take _ ?_ rfl (Or.inl ⟨by rfl, ?_⟩) ?_
  rotate_left
  · (intro w hSw; (try dsimp only at hSw); go_simp; (try with_reducible rfl))
  try simp only [Act.put, List.setIfInBounds_toArray, List.set_cons_zero, List.set_cons_succ]
  refine seq_one _ rfl fun K hK => ?_
  go_simp
  (with_reducible refine (rof_any (-(p : Int)) _ hq3 hq4).mono ?_)
  rintro e vs3 ⟨gs3, As3, ns3, cs3, rfl, is3, bs3⟩
  have Ds3 : Below W.heap.size W vs3 := Below.trans Ds2 (bs3.mono (Below.size Ds2))
  go_wp2_with fail
  refine hK.out _ _ (HS.out _ Ds3) (fun hHeld => ?_)
  clear hK K hHeld
  try simp only [Act.put, List.setIfInBounds_toArray, List.set_cons_zero, List.set_cons_succ]
  refine seq_one _ rfl fun K hK => ?_
  go_simp
  (with_reducible refine (rcmp_z gy gs3 Ay As3 ny cy ns3 cs3 _ (v2) (Iy.below Ds3) is3 Zy Zs3 e2.out).mono ?_)
  rintro e vs4 ⟨rfl, bs4⟩
  have Ds4 : Below W.heap.size W vs4 := Below.trans Ds3 (bs4.mono (Below.size Ds3))
  go_wp2_with fail
  refine hK.out _ _ (HS.out _ Ds4) (fun hHeld => ?_)
  clear hK K hHeld
  try simp only [Act.put, List.setIfInBounds_toArray, List.set_cons_zero, List.set_cons_succ]
  refine seq_take _ ?_ rfl (Or.inl ⟨by rfl, ?_⟩) ?_
  rotate_left
  · (intro w hSw; (try dsimp only at hSw); go_simp; (try with_reducible rfl))
  try simp only [Act.put, List.setIfInBounds_toArray, List.set_cons_zero, List.set_cons_succ]
  refine seq_take _ ?_ rfl (Or.inl ⟨by rfl, ?_⟩) ?_
  rotate_left
  · (intro w hSw; (try dsimp only at hSw); go_simp; (try with_reducible rfl))
  try simp only [Act.put, List.setIfInBounds_toArray, List.set_cons_zero, List.set_cons_succ]
  refine seq_take _ ?_ rfl (Or.inl ⟨by rfl, ?_⟩) ?_
  rotate_left
  · (intro w hSw; (try dsimp only at hSw); go_simp; (try with_reducible rfl))
  try simp only [Act.put, List.setIfInBounds_toArray, List.set_cons_zero, List.set_cons_succ]
  refine NoPanic.normal ?_
  exact hK _ _ _ _ _ _ _ _ _ _ _ _ _ _ _ _ Ds4
end Go.Proofs.YtnlmdjbakcjhbaaDoor
