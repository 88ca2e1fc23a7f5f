/- Contract of torsionref03.Reduce. -/
import Derived.Test.YtnlmdjbakcjhbaaDoorVModR
import Derived.Test.YtnlmdjbakcjhbaaDoorVModQ
import Derived.Test.YtnlmdjbakcjhbaaDoorVRSmall
import Derived.Test.YtnlmdjbakcjhbaaDoorVRDM
import Derived.Test.YtnlmdjbakcjhbaaDoorVG3Made
import Derived.BigRegion
import Derived.RegionTactic
import Derived.ChangeAlike
namespace Go.Proofs.YtnlmdjbakcjhbaaDoor
open Go.RowKit
set_option maxRecDepth 1000000 in
set_option maxHeartbeats 4000000 in
theorem qred_z (ga : Bool) (Aa : Option Addr) (na ca : Nat) (z : Int) {k : Nat} (p : Nat) (w : World) (hp0 : 0 < p) (hp : p < 2147483648) (hz : IsInt w ga Aa na ca z) (Za : Sz k z) (hk : k + 1 + 1 ≤ 10000) :
    Calls Tryd.prog 44 #[.int .u64 (p : Int), .agg #[.bool ga, .slice Aa na ca]] w (AnsU w (z % (p : Int))) := by
  have HX0 := Slot2.new w (.bool ga) (.slice Aa na ca) 27
  have B0 := (Below.refl w.heap.size w).alloc (Nat.le_refl _) (.cells #[.bool ga, .slice Aa na ca] 27)
  obtain ⟨W0, hW0⟩ : ∃ W0, W0 = w.alloc (.cells #[.bool ga, .slice Aa na ca] 27) := ⟨_, rfl⟩
  have Ia := hz.below B0
  rw [← hW0] at HX0 B0 Ia
  have hw1 : wrap64 (p : Int) = p := by rw [w64, w_small (by rw [Int.natAbs_natCast]; omega)]
  have hq1 : -9223372036854775808 ≤ (p : Int) := by omega
  have hq2 : (p : Int) ≤ 9223372036854775807 := by omega
  have Zp : Sz 1 (p : Int) := Sz.of (by rw [Int.natAbs_natCast]; omega) (by decide)
  have hpz : (p : Int) ≠ 0 := by omega
  have hr0 : 0 ≤ z % (p : Int) := Int.emod_nonneg _ hpz
  have hr1 : z % (p : Int) < p := Int.emod_lt_of_pos _ (by omega)
  go_enter Tryd.func44, Tryd.ntmps44
  go_wp2_with fail
  rw [← hW0]
  clear hW0
  have HX := Lib.hid (fun W (hW : Below W0.heap.size W0 W) => HX0.after hW)
  have hw2 : IntKind.i64.wrap (p : Int) = p := w_small (by rw [Int.natAbs_natCast]; omega)
  go_cut [5, 6, 7] (fun p5 p6 p7 wx => ∃ g0 g1 : Nat, p5 = .pointer (some ⟨g0, 0, none⟩) ∧ p6 = .pointer (some ⟨g1, 0, none⟩) ∧ p7 = .int .i64 0 ∧ IntAt wx g1 (z % (p : Int)) ∧ Below W0.heap.size W0 wx)
  case first =>
        refine wp_region_ev (fun d a0 a' w' => ∃ u11 u12 u13 u14 u15 u10 u16 u17 u18 u5 u6 u7 : Value, a' = ((((((((((((a0.put (some 11) u11).put (some 12) u12).put (some 13) u13).put (some 14) u14).put (some 15) u15).put (some 10) u10).put (some 16) u16).put (some 17) u17).put (some 18) u18).put (some 5) u5).put (some 6) u6).put (some 7) u7) ∧ Below W0.heap.size W0 w' ∧ (d 0 = true → u11 = .agg #[.bool ga, .slice Aa na ca]) ∧ (d 1 = true → u12 = .int .u64 (p : Int)) ∧ (d 2 = true → u13 = .int .i64 (p : Int)) ∧ (d 3 = true → IntV w' u14 ((p : Int))) ∧ (d 4 = true → TupV w' u15 (z / p) (z % p) (0)) ∧ (d 5 = true → TupV w' u10 (z / p) (z % p) (0)) ∧ (d 6 = true → IntV w' u16 (z / p)) ∧ (d 7 = true → IntV w' u17 (z % p)) ∧ (d 8 = true → u18 = .int .i64 (0)) ∧ (d 13 = true → u7 = .int .i64 (0)) ∧ (d 9 = true → OwnP W0.heap.size w' u5 (d 11) (z / p)) ∧ (d 10 = true → OwnP W0.heap.size w' u6 (d 12) (z % p)) ∧ (d 9 = true → d 10 = true → u5 ≠ u6) ∧ (d 11 = true → d 9 = true) ∧ (d 12 = true → d 10 = true)) (by kernel_rfl) (by kernel_rfl) ?_ ?_ ?_ ?_
        · intro d d' h a' w' hh
          obtain rfl : d = d' := funext h
          exact hh
        · exact ⟨_, _, _, _, _, _, _, _, _, _, _, _, (by simp only [Act.put, List.setIfInBounds_toArray, List.set_cons_zero, List.set_cons_succ]; rfl), (Below.refl _ _).drew, (fun h => by cases h), (fun h => by cases h), (fun h => by cases h), (fun h => by cases h), (fun h => by cases h), (fun h => by cases h), (fun h => by cases h), (fun h => by cases h), (fun h => by cases h), (fun h => by cases h), (fun h => by cases h), (fun h => by cases h), (fun h => by cases h), (fun h => by cases h), (fun h => by cases h)⟩
        · refine ⟨?_, ?_, ?_, ?_, ?_, ?_, ?_, ?_, ?_, ?_, ?_, ?_, ?_, ?_, trivial⟩
          · intro d a2 w2 hd hm ⟨u11, u12, u13, u14, u15, u10, u16, u17, u18, u5, u6, u7, e, HB, f0, f1, f2, f3, f4, f5, f6, f7, f8, f13, f9, f10, n01, t0, t1⟩ K hK
            subst e
            simp only [Act.put, List.setIfInBounds_toArray, List.set_cons_zero, List.set_cons_succ]
            obtain ⟨q0, q1, _, _, _⟩ := HX.out w2 HB
            go_simp
            exact hK.out _ _ ⟨.agg #[.bool ga, .slice Aa na ca], u12, u13, u14, u15, u10, u16, u17, u18, u5, u6, u7, (by simp only [Act.put, List.setIfInBounds_toArray, List.set_cons_zero, List.set_cons_succ]), HB, (fun _ => rfl), (fun h => f1 (by simpa using h)), (fun h => f2 (by simpa using h)), (fun h => (f3 (by simpa using h))), (fun h => (f4 (by simpa using h))), (fun h => (f5 (by simpa using h))), (fun h => (f6 (by simpa using h))), (fun h => (f7 (by simpa using h))), (fun h => f8 (by simpa using h)), (fun h => f13 (by simpa using h)), (fun h => by simpa using (f9 (by simpa using h))), (fun h => by simpa using (f10 (by simpa using h))), (fun h h' => n01 (by simpa using h) (by simpa using h')), (fun h => by simpa using t0 (by simpa using h)), (fun h => by simpa using t1 (by simpa using h))⟩
          · intro d a2 w2 hd hm ⟨u11, u12, u13, u14, u15, u10, u16, u17, u18, u5, u6, u7, e, HB, f0, f1, f2, f3, f4, f5, f6, f7, f8, f13, f9, f10, n01, t0, t1⟩ K hK
            subst e
            simp only [Act.put, List.setIfInBounds_toArray, List.set_cons_zero, List.set_cons_succ]
            go_simp
            exact hK.out _ _ ⟨u11, .int .u64 (p : Int), u13, u14, u15, u10, u16, u17, u18, u5, u6, u7, (by simp only [Act.put, List.setIfInBounds_toArray, List.set_cons_zero, List.set_cons_succ]), HB, (fun h => f0 (by simpa using h)), (fun _ => rfl), (fun h => f2 (by simpa using h)), (fun h => (f3 (by simpa using h))), (fun h => (f4 (by simpa using h))), (fun h => (f5 (by simpa using h))), (fun h => (f6 (by simpa using h))), (fun h => (f7 (by simpa using h))), (fun h => f8 (by simpa using h)), (fun h => f13 (by simpa using h)), (fun h => by simpa using (f9 (by simpa using h))), (fun h => by simpa using (f10 (by simpa using h))), (fun h h' => n01 (by simpa using h) (by simpa using h')), (fun h => by simpa using t0 (by simpa using h)), (fun h => by simpa using t1 (by simpa using h))⟩
          · intro d a2 w2 hd hm ⟨u11, u12, u13, u14, u15, u10, u16, u17, u18, u5, u6, u7, e, HB, f0, f1, f2, f3, f4, f5, f6, f7, f8, f13, f9, f10, n01, t0, t1⟩ K hK
            subst e
            simp only [Act.put, List.setIfInBounds_toArray, List.set_cons_zero, List.set_cons_succ]
            obtain rfl := f1 (hm ⟨1, .data⟩ (by simp) rfl)
            clear f1
            go_simp
            exact hK.out _ _ ⟨u11, .int .u64 (p : Int), .int .i64 (p : Int), u14, u15, u10, u16, u17, u18, u5, u6, u7, (by simp only [Act.put, List.setIfInBounds_toArray, List.set_cons_zero, List.set_cons_succ]), HB, (fun h => f0 (by simpa using h)), (fun _ => rfl), (fun _ => rfl), (fun h => (f3 (by simpa using h))), (fun h => (f4 (by simpa using h))), (fun h => (f5 (by simpa using h))), (fun h => (f6 (by simpa using h))), (fun h => (f7 (by simpa using h))), (fun h => f8 (by simpa using h)), (fun h => f13 (by simpa using h)), (fun h => by simpa using (f9 (by simpa using h))), (fun h => by simpa using (f10 (by simpa using h))), (fun h h' => n01 (by simpa using h) (by simpa using h')), (fun h => by simpa using t0 (by simpa using h)), (fun h => by simpa using t1 (by simpa using h))⟩
          · intro d a2 w2 hd hm ⟨u11, u12, u13, u14, u15, u10, u16, u17, u18, u5, u6, u7, e, HB, f0, f1, f2, f3, f4, f5, f6, f7, f8, f13, f9, f10, n01, t0, t1⟩ K hK
            subst e
            simp only [Act.put, List.setIfInBounds_toArray, List.set_cons_zero, List.set_cons_succ]
            obtain rfl := f2 (hm ⟨2, .data⟩ (by simp) rfl)
            clear f2
            go_simp
            (with_reducible refine (rof_any (p : Int) _ hq1 hq2).mono ?_)
            rintro e w3 ⟨gg, AA, nn, cc, rfl, hi, hb⟩
            have HB3 := HB.trans (hb.mono HB.size)
            go_wp2_with fail
            exact hK.out _ _ ⟨u11, u12, .int .i64 (p : Int), .agg #[.bool gg, .slice AA nn cc], u15, u10, u16, u17, u18, u5, u6, u7, (by simp only [Act.put, List.setIfInBounds_toArray, List.set_cons_zero, List.set_cons_succ]), HB3, (fun h => f0 (by simpa using h)), (fun h => f1 (by simpa using h)), (fun _ => rfl), (fun _ => ⟨_, _, _, _, rfl, hi⟩), (fun h => (f4 (by simpa using h)).below hb), (fun h => (f5 (by simpa using h)).below hb), (fun h => (f6 (by simpa using h)).below hb), (fun h => (f7 (by simpa using h)).below hb), (fun h => f8 (by simpa using h)), (fun h => f13 (by simpa using h)), (fun h => by simpa using (f9 (by simpa using h)).below hb), (fun h => by simpa using (f10 (by simpa using h)).below hb), (fun h h' => n01 (by simpa using h) (by simpa using h')), (fun h => by simpa using t0 (by simpa using h)), (fun h => by simpa using t1 (by simpa using h))⟩
          · intro d a2 w2 hd hm ⟨u11, u12, u13, u14, u15, u10, u16, u17, u18, u5, u6, u7, e, HB, f0, f1, f2, f3, f4, f5, f6, f7, f8, f13, f9, f10, n01, t0, t1⟩ K hK
            subst e
            simp only [Act.put, List.setIfInBounds_toArray, List.set_cons_zero, List.set_cons_succ]
            obtain rfl := f0 (hm ⟨0, .data⟩ (by simp) rfl)
            clear f0
            obtain ⟨G3, A3, N3, C3, rfl, I3⟩ := f3 (hm ⟨3, .data⟩ (by simp) rfl)
            go_simp
            (with_reducible refine (rdm_z ga G3 Aa A3 na ca N3 C3 _ (Ia.below HB) I3 Za Zp hpz hk).mono ?_)
            rintro e w3 ⟨g1, A1', n1', c1', g2, A2', n2', c2', rfl, hi1, hi2, hb⟩
            have HB3 := HB.trans (hb.mono HB.size)
            go_wp2_with fail
            exact hK.out _ _ ⟨.agg #[.bool ga, .slice Aa na ca], u12, u13, .agg #[.bool G3, .slice A3 N3 C3], .tuple #[.agg #[.bool g1, .slice A1' n1' c1'], .agg #[.bool g2, .slice A2' n2' c2'], .int .i64 (0)], u10, u16, u17, u18, u5, u6, u7, (by simp only [Act.put, List.setIfInBounds_toArray, List.set_cons_zero, List.set_cons_succ]), HB3, (fun _ => rfl), (fun h => f1 (by simpa using h)), (fun h => f2 (by simpa using h)), (fun h => (f3 (by simpa using h)).below hb), (fun _ => ⟨_, _, rfl, ⟨_, _, _, _, rfl, hi1⟩, ⟨_, _, _, _, rfl, hi2⟩⟩), (fun h => (f5 (by simpa using h)).below hb), (fun h => (f6 (by simpa using h)).below hb), (fun h => (f7 (by simpa using h)).below hb), (fun h => f8 (by simpa using h)), (fun h => f13 (by simpa using h)), (fun h => by simpa using (f9 (by simpa using h)).below hb), (fun h => by simpa using (f10 (by simpa using h)).below hb), (fun h h' => n01 (by simpa using h) (by simpa using h')), (fun h => by simpa using t0 (by simpa using h)), (fun h => by simpa using t1 (by simpa using h))⟩
          · intro d a2 w2 hd hm ⟨u11, u12, u13, u14, u15, u10, u16, u17, u18, u5, u6, u7, e, HB, f0, f1, f2, f3, f4, f5, f6, f7, f8, f13, f9, f10, n01, t0, t1⟩ K hK
            subst e
            simp only [Act.put, List.setIfInBounds_toArray, List.set_cons_zero, List.set_cons_succ]
            obtain ⟨V4, U4, rfl, I4, J4⟩ := f4 (hm ⟨4, .data⟩ (by simp) rfl)
            go_simp
            exact hK.out _ _ ⟨u11, u12, u13, u14, .tuple #[V4, U4, .int .i64 (0)], .tuple #[V4, U4, .int .i64 (0)], u16, u17, u18, u5, u6, u7, (by simp only [Act.put, List.setIfInBounds_toArray, List.set_cons_zero, List.set_cons_succ]), HB, (fun h => f0 (by simpa using h)), (fun h => f1 (by simpa using h)), (fun h => f2 (by simpa using h)), (fun h => (f3 (by simpa using h))), (fun h => (f4 (by simpa using h))), (fun _ => ⟨V4, U4, rfl, I4, J4⟩), (fun h => (f6 (by simpa using h))), (fun h => (f7 (by simpa using h))), (fun h => f8 (by simpa using h)), (fun h => f13 (by simpa using h)), (fun h => by simpa using (f9 (by simpa using h))), (fun h => by simpa using (f10 (by simpa using h))), (fun h h' => n01 (by simpa using h) (by simpa using h')), (fun h => by simpa using t0 (by simpa using h)), (fun h => by simpa using t1 (by simpa using h))⟩
          · intro d a2 w2 hd hm ⟨u11, u12, u13, u14, u15, u10, u16, u17, u18, u5, u6, u7, e, HB, f0, f1, f2, f3, f4, f5, f6, f7, f8, f13, f9, f10, n01, t0, t1⟩ K hK
            subst e
            simp only [Act.put, List.setIfInBounds_toArray, List.set_cons_zero, List.set_cons_succ]
            obtain ⟨V5, U5, rfl, I5, J5⟩ := f5 (hm ⟨5, .data⟩ (by simp) rfl)
            go_simp
            exact hK.out _ _ ⟨u11, u12, u13, u14, u15, .tuple #[V5, U5, .int .i64 (0)], V5, u17, u18, u5, u6, u7, (by simp only [Act.put, List.setIfInBounds_toArray, List.set_cons_zero, List.set_cons_succ]), HB, (fun h => f0 (by simpa using h)), (fun h => f1 (by simpa using h)), (fun h => f2 (by simpa using h)), (fun h => (f3 (by simpa using h))), (fun h => (f4 (by simpa using h))), (fun h => (f5 (by simpa using h))), (fun _ => I5), (fun h => (f7 (by simpa using h))), (fun h => f8 (by simpa using h)), (fun h => f13 (by simpa using h)), (fun h => by simpa using (f9 (by simpa using h))), (fun h => by simpa using (f10 (by simpa using h))), (fun h h' => n01 (by simpa using h) (by simpa using h')), (fun h => by simpa using t0 (by simpa using h)), (fun h => by simpa using t1 (by simpa using h))⟩
          · intro d a2 w2 hd hm ⟨u11, u12, u13, u14, u15, u10, u16, u17, u18, u5, u6, u7, e, HB, f0, f1, f2, f3, f4, f5, f6, f7, f8, f13, f9, f10, n01, t0, t1⟩ K hK
            subst e
            simp only [Act.put, List.setIfInBounds_toArray, List.set_cons_zero, List.set_cons_succ]
            obtain ⟨V5, U5, rfl, I5, J5⟩ := f5 (hm ⟨5, .data⟩ (by simp) rfl)
            go_simp
            exact hK.out _ _ ⟨u11, u12, u13, u14, u15, .tuple #[V5, U5, .int .i64 (0)], u16, U5, u18, u5, u6, u7, (by simp only [Act.put, List.setIfInBounds_toArray, List.set_cons_zero, List.set_cons_succ]), HB, (fun h => f0 (by simpa using h)), (fun h => f1 (by simpa using h)), (fun h => f2 (by simpa using h)), (fun h => (f3 (by simpa using h))), (fun h => (f4 (by simpa using h))), (fun h => (f5 (by simpa using h))), (fun h => (f6 (by simpa using h))), (fun _ => J5), (fun h => f8 (by simpa using h)), (fun h => f13 (by simpa using h)), (fun h => by simpa using (f9 (by simpa using h))), (fun h => by simpa using (f10 (by simpa using h))), (fun h h' => n01 (by simpa using h) (by simpa using h')), (fun h => by simpa using t0 (by simpa using h)), (fun h => by simpa using t1 (by simpa using h))⟩
          · intro d a2 w2 hd hm ⟨u11, u12, u13, u14, u15, u10, u16, u17, u18, u5, u6, u7, e, HB, f0, f1, f2, f3, f4, f5, f6, f7, f8, f13, f9, f10, n01, t0, t1⟩ K hK
            subst e
            simp only [Act.put, List.setIfInBounds_toArray, List.set_cons_zero, List.set_cons_succ]
            obtain ⟨V5, U5, rfl, I5, J5⟩ := f5 (hm ⟨5, .data⟩ (by simp) rfl)
            go_simp
            exact hK.out _ _ ⟨u11, u12, u13, u14, u15, .tuple #[V5, U5, .int .i64 (0)], u16, u17, .int .i64 (0), u5, u6, u7, (by simp only [Act.put, List.setIfInBounds_toArray, List.set_cons_zero, List.set_cons_succ]), HB, (fun h => f0 (by simpa using h)), (fun h => f1 (by simpa using h)), (fun h => f2 (by simpa using h)), (fun h => (f3 (by simpa using h))), (fun h => (f4 (by simpa using h))), (fun h => (f5 (by simpa using h))), (fun h => (f6 (by simpa using h))), (fun h => (f7 (by simpa using h))), (fun _ => rfl), (fun h => f13 (by simpa using h)), (fun h => by simpa using (f9 (by simpa using h))), (fun h => by simpa using (f10 (by simpa using h))), (fun h h' => n01 (by simpa using h) (by simpa using h')), (fun h => by simpa using t0 (by simpa using h)), (fun h => by simpa using t1 (by simpa using h))⟩
          · intro d a2 w2 hd hm ⟨u11, u12, u13, u14, u15, u10, u16, u17, u18, u5, u6, u7, e, HB, f0, f1, f2, f3, f4, f5, f6, f7, f8, f13, f9, f10, n01, t0, t1⟩ K hK
            subst e
            simp only [Act.put, List.setIfInBounds_toArray, List.set_cons_zero, List.set_cons_succ]
            have hb : Below w2.heap.size w2 (w2.alloc (.cells #[.bool false, .slice none 0 0] 27)) := (Below.refl _ _).alloc (Nat.le_refl _) _
            have HB3 := HB.trans (hb.mono HB.size)
            go_simp
            exact hK.out _ _ ⟨u11, u12, u13, u14, u15, u10, u16, u17, u18, .pointer (some ⟨w2.heap.size, 0, none⟩), u6, u7, (by simp only [Act.put, List.setIfInBounds_toArray, List.set_cons_zero, List.set_cons_succ]), HB3, (fun h => f0 (by simpa using h)), (fun h => f1 (by simpa using h)), (fun h => f2 (by simpa using h)), (fun h => (f3 (by simpa using h)).below hb), (fun h => (f4 (by simpa using h)).below hb), (fun h => (f5 (by simpa using h)).below hb), (fun h => (f6 (by simpa using h)).below hb), (fun h => (f7 (by simpa using h)).below hb), (fun h => f8 (by simpa using h)), (fun h => f13 (by simpa using h)), (fun _ => by have hs : d 11 = false := (by cases hq : d 11 with | false => rfl | true => (have hz := t0 hq; rw [hd] at hz; cases hz)); simpa [hs] using OwnP.new HB.size (z / p)), (fun h => by simpa using (f10 (by simpa using h)).below hb), (fun _ h' => ((f10 (by simpa using h')).lt).symm), (fun _ => by simp), (fun h => by simpa using t1 (by simpa using h))⟩
          · intro d a2 w2 hd hm ⟨u11, u12, u13, u14, u15, u10, u16, u17, u18, u5, u6, u7, e, HB, f0, f1, f2, f3, f4, f5, f6, f7, f8, f13, f9, f10, n01, t0, t1⟩ K hK
            subst e
            simp only [Act.put, List.setIfInBounds_toArray, List.set_cons_zero, List.set_cons_succ]
            have hb : Below w2.heap.size w2 (w2.alloc (.cells #[.bool false, .slice none 0 0] 27)) := (Below.refl _ _).alloc (Nat.le_refl _) _
            have HB3 := HB.trans (hb.mono HB.size)
            go_simp
            exact hK.out _ _ ⟨u11, u12, u13, u14, u15, u10, u16, u17, u18, u5, .pointer (some ⟨w2.heap.size, 0, none⟩), u7, (by simp only [Act.put, List.setIfInBounds_toArray, List.set_cons_zero, List.set_cons_succ]), HB3, (fun h => f0 (by simpa using h)), (fun h => f1 (by simpa using h)), (fun h => f2 (by simpa using h)), (fun h => (f3 (by simpa using h)).below hb), (fun h => (f4 (by simpa using h)).below hb), (fun h => (f5 (by simpa using h)).below hb), (fun h => (f6 (by simpa using h)).below hb), (fun h => (f7 (by simpa using h)).below hb), (fun h => f8 (by simpa using h)), (fun h => f13 (by simpa using h)), (fun h => by simpa using (f9 (by simpa using h)).below hb), (fun _ => by have hs : d 12 = false := (by cases hq : d 12 with | false => rfl | true => (have hz := t1 hq; rw [hd] at hz; cases hz)); simpa [hs] using OwnP.new HB.size (z % p)), (fun h _ => (f9 (by simpa using h)).lt), (fun h => by simpa using t0 (by simpa using h)), (fun _ => by simp)⟩
          · intro d a2 w2 hd hm ⟨u11, u12, u13, u14, u15, u10, u16, u17, u18, u5, u6, u7, e, HB, f0, f1, f2, f3, f4, f5, f6, f7, f8, f13, f9, f10, n01, t0, t1⟩ K hK
            subst e
            simp only [Act.put, List.setIfInBounds_toArray, List.set_cons_zero, List.set_cons_succ]
            obtain ⟨gg, AA, nn, cc, rfl, hi⟩ := f6 (hm ⟨6, .data⟩ (by simp) rfl)
            obtain ⟨g, rfl, hg, b0, b1, hs, n0, n1, _⟩ := f9 (hm ⟨9, .data⟩ (by simp) rfl)
            obtain ⟨k0, k1, k2, k3, k4⟩ := id hs
            go_simp
            exact hK.out _ _ ⟨u11, u12, u13, u14, u15, u10, .agg #[.bool gg, .slice AA nn cc], u17, u18, .pointer (some ⟨g, 0, none⟩), u6, u7, (by simp only [Act.put, List.setIfInBounds_toArray, List.set_cons_zero, List.set_cons_succ]), Below.set2 HB hg _ _, (fun h => f0 (by simpa using h)), (fun h => f1 (by simpa using h)), (fun h => f2 (by simpa using h)), (fun h => (f3 (by simpa using h)).set2 hs n0 n1 _ _), (fun h => (f4 (by simpa using h)).set2 hs n0 n1 _ _), (fun h => (f5 (by simpa using h)).set2 hs n0 n1 _ _), (fun h => (f6 (by simpa using h)).set2 hs n0 n1 _ _), (fun h => (f7 (by simpa using h)).set2 hs n0 n1 _ _), (fun h => f8 (by simpa using h)), (fun h => f13 (by simpa using h)), (fun _ => by simpa using OwnP.near hi hg hs n0 n1), (fun h => by simpa using (f10 (by simpa using h)).far ((n01 (hm ⟨9, .data⟩ (by simp) rfl) (by simpa using h)).symm) hs n0 n1 _ _), (fun h h' => n01 (by simpa using h) (by simpa using h')), (fun _ => by simpa using hm ⟨9, .data⟩ (by simp) rfl), (fun h => by simpa using t1 (by simpa using h))⟩
          · intro d a2 w2 hd hm ⟨u11, u12, u13, u14, u15, u10, u16, u17, u18, u5, u6, u7, e, HB, f0, f1, f2, f3, f4, f5, f6, f7, f8, f13, f9, f10, n01, t0, t1⟩ K hK
            subst e
            simp only [Act.put, List.setIfInBounds_toArray, List.set_cons_zero, List.set_cons_succ]
            obtain ⟨gg, AA, nn, cc, rfl, hi⟩ := f7 (hm ⟨7, .data⟩ (by simp) rfl)
            obtain ⟨g, rfl, hg, b0, b1, hs, n0, n1, _⟩ := f10 (hm ⟨10, .data⟩ (by simp) rfl)
            obtain ⟨k0, k1, k2, k3, k4⟩ := id hs
            go_simp
            exact hK.out _ _ ⟨u11, u12, u13, u14, u15, u10, u16, .agg #[.bool gg, .slice AA nn cc], u18, u5, .pointer (some ⟨g, 0, none⟩), u7, (by simp only [Act.put, List.setIfInBounds_toArray, List.set_cons_zero, List.set_cons_succ]), Below.set2 HB hg _ _, (fun h => f0 (by simpa using h)), (fun h => f1 (by simpa using h)), (fun h => f2 (by simpa using h)), (fun h => (f3 (by simpa using h)).set2 hs n0 n1 _ _), (fun h => (f4 (by simpa using h)).set2 hs n0 n1 _ _), (fun h => (f5 (by simpa using h)).set2 hs n0 n1 _ _), (fun h => (f6 (by simpa using h)).set2 hs n0 n1 _ _), (fun h => (f7 (by simpa using h)).set2 hs n0 n1 _ _), (fun h => f8 (by simpa using h)), (fun h => f13 (by simpa using h)), (fun h => by simpa using (f9 (by simpa using h)).far (n01 (by simpa using h) (hm ⟨10, .data⟩ (by simp) rfl)) hs n0 n1 _ _), (fun _ => by simpa using OwnP.near hi hg hs n0 n1), (fun h h' => n01 (by simpa using h) (by simpa using h')), (fun h => by simpa using t0 (by simpa using h)), (fun _ => by simpa using hm ⟨10, .data⟩ (by simp) rfl)⟩
          · intro d a2 w2 hd hm ⟨u11, u12, u13, u14, u15, u10, u16, u17, u18, u5, u6, u7, e, HB, f0, f1, f2, f3, f4, f5, f6, f7, f8, f13, f9, f10, n01, t0, t1⟩ K hK
            subst e
            simp only [Act.put, List.setIfInBounds_toArray, List.set_cons_zero, List.set_cons_succ]
            obtain rfl := f8 (hm ⟨8, .data⟩ (by simp) rfl)
            clear f8
            go_simp
            exact hK.out _ _ ⟨u11, u12, u13, u14, u15, u10, u16, u17, .int .i64 (0), u5, u6, .int .i64 (0), (by simp only [Act.put, List.setIfInBounds_toArray, List.set_cons_zero, List.set_cons_succ]), HB, (fun h => f0 (by simpa using h)), (fun h => f1 (by simpa using h)), (fun h => f2 (by simpa using h)), (fun h => (f3 (by simpa using h))), (fun h => (f4 (by simpa using h))), (fun h => (f5 (by simpa using h))), (fun h => (f6 (by simpa using h))), (fun h => (f7 (by simpa using h))), (fun _ => rfl), (fun _ => rfl), (fun h => by simpa using (f9 (by simpa using h))), (fun h => by simpa using (f10 (by simpa using h))), (fun h h' => n01 (by simpa using h) (by simpa using h')), (fun h => by simpa using t0 (by simpa using h)), (fun h => by simpa using t1 (by simpa using h))⟩
        · intro d a2 w2 hall ⟨u11, u12, u13, u14, u15, u10, u16, u17, u18, u5, u6, u7, e, HB, f0, f1, f2, f3, f4, f5, f6, f7, f8, f13, f9, f10, n01, t0, t1⟩
          subst e
          simp only [Act.put, List.setIfInBounds_toArray, List.set_cons_zero, List.set_cons_succ]
          obtain rfl := f0 (hall _ (by decide))
          obtain rfl := f1 (hall _ (by decide))
          obtain rfl := f2 (hall _ (by decide))
          obtain rfl := f8 (hall _ (by decide))
          obtain rfl := f13 (hall _ (by decide))
          obtain ⟨g0, rfl, h0, b0⟩ := OwnP.intAtB (by have := f9 (hall _ (by decide)); rwa [hall 11 (by decide)] at this)
          obtain ⟨g1, rfl, h1, b1⟩ := OwnP.intAtB (by have := f10 (hall _ (by decide)); rwa [hall 12 (by decide)] at this)
          go_wp2_with fail
          go_meet
          exact ⟨g0, g1, rfl, rfl, rfl, h1, HB⟩
  case rest =>
  obtain ⟨g0, g1, rfl, rfl, rfl, h1, HB⟩ := hcut
  obtain ⟨gr, Ar, nr, cr, Sr, Ir⟩ := h1
  have ⟨x0, x1, _, _, _⟩ := Sr
  have B1 := B0.trans (HB.mono B0.size)
  have hwr : IntKind.u64.wrap (z % (p : Int)) = z % (p : Int) := by rw [IntKind.wrap_u64]; omega
  have CS := Lib.hid (rsmall_z gr Ar nr cr _ _ Ir (by omega) (by omega))
  have HW := Lib.hid hwr
  clear hwr
  generalize z % (p : Int) = r at *
  go_wp2_with fail
  refine CS.out.mono ?_
  rintro e w2 ⟨rfl, hb2⟩
  go_wp2_with fail
  go_ret
  exact ⟨by first | rfl | (rw [HW.out]), B1.trans (hb2.mono B1.size)⟩
end Go.Proofs.YtnlmdjbakcjhbaaDoor
