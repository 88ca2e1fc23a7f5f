/- The walk of the law RationalLowest, given what its fixed examples return. -/
import Derived.Test.YtlpoboikompjfaaGreatDoorVG28RatT
import Derived.Test.YtlpoboikompjfaaGreatDoorVRefFrom
import Derived.Test.YtlpoboikompjfaaGreatDoorVRaw3
import Derived.Test.YtlpoboikompjfaaGreatDoorVRefQ2
import Derived.Test.YtlpoboikompjfaaGreatDoorVRatE2
import Derived.Deep.DeepCutAuto
namespace Go.Proofs.YtlpoboikompjfaaGreatDoor
open Go.RowKit
theorem q_ext_k (a : Rat) (k : Int) (hk : k ≠ 0) : Rat.divInt (a.num * k) (a.den * k) = a := by
  rw [Rat.divInt_mul_right hk, Rat.num_divInt_den]

set_option maxRecDepth 1000000 in
set_option maxHeartbeats 8000000 in
theorem qlowest_walk (HS : SanQ) (A1 E1 : Option Addr) (n1 c1 m1 d1 : Nat) (s1 : Bool) (xs1 ys1 : List Nat) (A2 E2 : Option Addr) (n2 c2 m2 d2 : Nat) (s2 : Bool) (xs2 ys2 : List Nat) (k : Int) (w : World) (hx1 : Lim w w.heap.size A1 n1 c1 xs1) (hy1 : Lim w w.heap.size E1 m1 d1 ys1) (hx2 : Lim w w.heap.size A2 n2 c2 xs2) (hy2 : Lim w w.heap.size E2 m2 d2 ys2) (h1 : -9223372036854775808 ≤ k) (h2 : k ≤ 9223372036854775807) :
    Calls Tryz.prog 6 #[.agg #[.slice A1 n1 c1, .slice E1 m1 d1, .bool s1], .agg #[.slice A2 n2 c2, .slice E2 m2 d2, .bool s2], .int .i64 k] w fun e w' => e = .returned (.bool true) ∧ Below w.heap.size w w' := by
  have HS' := Lib.hid HS
  have HK := Lib.hid (And.intro h1 h2)
  have Zk : Sz 2 k := Sz.of (by omega) (by decide)
  clear h1 h2
  clear HS
  have HM1 : Hid (∀ W, Below w.heap.size w W → Calls Tryz.prog 11 #[.agg #[.slice A1 n1 c1, .slice E1 m1 d1, .bool s1]] W (RetRat W (rawQ s1 xs1 ys1))) := fun W hW => rqfrom_z A1 E1 n1 c1 m1 d1 s1 w.heap.size xs1 ys1 W (hx1.below hW) (hy1.below hW) hW.size
  have Za := RSz.raw s1 xs1 ys1 hx1.lt hy1.lt
  have HM2 : Hid (∀ W, Below w.heap.size w W → Calls Tryz.prog 11 #[.agg #[.slice A2 n2 c2, .slice E2 m2 d2, .bool s2]] W (RetRat W (rawQ s2 xs2 ys2))) := fun W hW => rqfrom_z A2 E2 n2 c2 m2 d2 s2 w.heap.size xs2 ys2 W (hx2.below hW) (hy2.below hW) hW.size
  have Zb := RSz.raw s2 xs2 ys2 hx2.lt hy2.lt
  generalize rawQ s1 xs1 ys1 = a at *
  generalize rawQ s2 xs2 ys2 = b at *
  clear hx1 hy1 hx2 hy2
  have b0 := (Below.refl w.heap.size w)
  have b1 := b0.alloc b0.size (.cells #[.slice A1 n1 c1, .slice E1 m1 d1, .bool s1] 24)
  have b2 := b1.alloc b1.size (.cells #[.slice A2 n2 c2, .slice E2 m2 d2, .bool s2] 24)
  have X1 := Slot3.new w (.slice A1 n1 c1) (.slice E1 m1 d1) (.bool s1) 24
  replace X1 := X1.alloc (.cells #[.slice A2 n2 c2, .slice E2 m2 d2, .bool s2] 24)
  have X2 := Slot3.new (w.alloc (.cells #[.slice A1 n1 c1, .slice E1 m1 d1, .bool s1] 24)) (.slice A2 n2 c2) (.slice E2 m2 d2) (.bool s2) 24
  simp only [World.size_alloc] at X2
  go_enter Tryz.func6, Tryz.ntmps6
  generalize hW : (w.alloc (.cells #[.slice A1 n1 c1, .slice E1 m1 d1, .bool s1] 24)).alloc (.cells #[.slice A2 n2 c2, .slice E2 m2 d2, .bool s2] 24) = W0 at *
  go_wp2_with fail
  try rw [hW]
  clear hW
  refine (HS'.out _).mono ?_
  rintro e W1 ⟨rfl, hb1⟩
  have B1 := b2.trans (hb1.mono b2.size)
  replace X1 := X1.after hb1
  replace X2 := X2.after hb1
  have HX : Hid (∀ V, Below W1.heap.size W1 V → (V.cell? ⟨w.heap.size, 0, none⟩ = some (.slice A1 n1 c1) ∧ V.cell? ⟨w.heap.size, 1, none⟩ = some (.slice E1 m1 d1) ∧ V.cell? ⟨w.heap.size, 2, none⟩ = some (.bool s1)) ∧ (V.cell? ⟨w.heap.size + 1, 0, none⟩ = some (.slice A2 n2 c2) ∧ V.cell? ⟨w.heap.size + 1, 1, none⟩ = some (.slice E2 m2 d2) ∧ V.cell? ⟨w.heap.size + 1, 2, none⟩ = some (.bool s2))) := fun V hV => ⟨(X1.after hV).cells, (X2.after hV).cells⟩
  clear X1 X2 b0 b1 b2 hb1

  go_upto_region 2 with (fail)
  go_cut [8, 9, 10] (fun p0 p1 p2 wx => ∃ ga gb gk, p0 = .pointer (some ⟨ga, 0, none⟩) ∧ p1 = .pointer (some ⟨gb, 0, none⟩) ∧ p2 = .pointer (some ⟨gk, 0, none⟩) ∧ RatAt wx ga a ∧ RatAt wx gb b ∧ IntAt wx gk k ∧ Below w.heap.size w wx)
  case first =>
    as_aux_lemma =>
      refine wp_region_ev (fun d a0 a' w' => ∃ u17 u18 u19 u20 u21 u22 u8 u9 u10 : Value, a' = (((((((((a0.put (some 17) u17).put (some 18) u18).put (some 19) u19).put (some 20) u20).put (some 21) u21).put (some 22) u22).put (some 8) u8).put (some 9) u9).put (some 10) u10) ∧ Below W1.heap.size W1 w' ∧ (d 0 = true → u17 = .agg #[.slice A1 n1 c1, .slice E1 m1 d1, .bool s1]) ∧ (d 1 = true → RatV w' u18 (a)) ∧ (d 2 = true → u19 = .agg #[.slice A2 n2 c2, .slice E2 m2 d2, .bool s2]) ∧ (d 3 = true → RatV w' u20 (b)) ∧ (d 4 = true → u21 = .int .i64 k) ∧ (d 5 = true → IntV w' u22 (k)) ∧ (d 6 = true → OwnQ W1.heap.size w' u8 (d 9) (a)) ∧ (d 7 = true → OwnQ W1.heap.size w' u9 (d 10) (b)) ∧ (d 8 = true → OwnP W1.heap.size w' u10 (d 11) (k)) ∧ (d 6 = true → d 7 = true → u8 ≠ u9) ∧ (d 6 = true → d 8 = true → u8 ≠ u10) ∧ (d 7 = true → d 8 = true → u9 ≠ u10) ∧ (d 9 = true → d 6 = true) ∧ (d 10 = true → d 7 = true) ∧ (d 11 = true → d 8 = true)) (by kernel_rfl) (by kernel_rfl) ?_ ?_ ?_ ?_
      · intro d d' h a' w' hh
        obtain rfl : d = d' := funext h
        exact hh
      · exact ⟨_, _, _, _, _, _, _, _, _, (by simp only [Act.put, List.setIfInBounds_toArray, List.set_cons_zero, List.set_cons_succ]; rfl), (Below.refl _ _).drew, (fun h => by cases h), (fun h => by cases h), (fun h => by cases h), (fun h => by cases h), (fun h => by cases h), (fun h => by cases h), (fun h => by cases h), (fun h => by cases h), (fun h => by cases h), (fun h => by cases h), (fun h => by cases h), (fun h => by cases h), (fun h => by cases h), (fun h => by cases h), (fun h => by cases h)⟩
      · refine ⟨?_, ?_, ?_, ?_, ?_, ?_, ?_, ?_, ?_, ?_, ?_, ?_, trivial⟩
        · intro d a2 w2 hd hm ⟨u17, u18, u19, u20, u21, u22, u8, u9, u10, e, HB, f0, f1, f2, f3, f4, f5, f6, f7, f8, n01, n02, n12, t0, t1, t2⟩ K hK
          subst e
          simp only [Act.put, List.setIfInBounds_toArray, List.set_cons_zero, List.set_cons_succ]
          obtain ⟨⟨q0, q1, q2⟩, ⟨q3, q4, q5⟩⟩ := HX.out w2 HB
          go_simp
          exact hK.out _ _ ⟨.agg #[.slice A1 n1 c1, .slice E1 m1 d1, .bool s1], u18, u19, u20, u21, u22, u8, u9, u10, (by simp only [Act.put, List.setIfInBounds_toArray, List.set_cons_zero, List.set_cons_succ]), HB, (fun _ => rfl), (fun h => (f1 (by simpa using h))), (fun h => f2 (by simpa using h)), (fun h => (f3 (by simpa using h))), (fun h => f4 (by simpa using h)), (fun h => (f5 (by simpa using h))), (fun h => by simpa using (f6 (by simpa using h))), (fun h => by simpa using (f7 (by simpa using h))), (fun h => by simpa using (f8 (by simpa using h))), (fun h h' => n01 (by simpa using h) (by simpa using h')), (fun h h' => n02 (by simpa using h) (by simpa using h')), (fun h h' => n12 (by simpa using h) (by simpa using h')), (fun h => by simpa using t0 (by simpa using h)), (fun h => by simpa using t1 (by simpa using h)), (fun h => by simpa using t2 (by simpa using h))⟩
        · intro d a2 w2 hd hm ⟨u17, u18, u19, u20, u21, u22, u8, u9, u10, e, HB, f0, f1, f2, f3, f4, f5, f6, f7, f8, n01, n02, n12, t0, t1, t2⟩ K hK
          subst e
          simp only [Act.put, List.setIfInBounds_toArray, List.set_cons_zero, List.set_cons_succ]
          obtain rfl := f0 (hm ⟨0, .data⟩ (by simp) rfl)
          clear f0
          go_simp
          (with_reducible refine (HM1.out _ (B1.trans (Below.mono HB B1.size))).mono ?_)
          rintro e w3 ⟨g1, A1', n1', c1', g2, A2', n2', c2', rfl, hi, hb⟩
          have HB3 := HB.trans (hb.mono HB.size)
          go_wp2_with fail
          exact hK.out _ _ ⟨.agg #[.slice A1 n1 c1, .slice E1 m1 d1, .bool s1], .agg #[.bool g1, .slice A1' n1' c1', .bool g2, .slice A2' n2' c2'], u19, u20, u21, u22, u8, u9, u10, (by simp only [Act.put, List.setIfInBounds_toArray, List.set_cons_zero, List.set_cons_succ]), HB3, (fun _ => rfl), (fun _ => ⟨_, _, _, _, _, _, _, _, rfl, hi⟩), (fun h => f2 (by simpa using h)), (fun h => (f3 (by simpa using h)).below hb), (fun h => f4 (by simpa using h)), (fun h => (f5 (by simpa using h)).below hb), (fun h => by simpa using (f6 (by simpa using h)).below hb), (fun h => by simpa using (f7 (by simpa using h)).below hb), (fun h => by simpa using (f8 (by simpa using h)).below hb), (fun h h' => n01 (by simpa using h) (by simpa using h')), (fun h h' => n02 (by simpa using h) (by simpa using h')), (fun h h' => n12 (by simpa using h) (by simpa using h')), (fun h => by simpa using t0 (by simpa using h)), (fun h => by simpa using t1 (by simpa using h)), (fun h => by simpa using t2 (by simpa using h))⟩
        · intro d a2 w2 hd hm ⟨u17, u18, u19, u20, u21, u22, u8, u9, u10, e, HB, f0, f1, f2, f3, f4, f5, f6, f7, f8, n01, n02, n12, t0, t1, t2⟩ K hK
          subst e
          simp only [Act.put, List.setIfInBounds_toArray, List.set_cons_zero, List.set_cons_succ]
          obtain ⟨⟨q0, q1, q2⟩, ⟨q3, q4, q5⟩⟩ := HX.out w2 HB
          go_simp
          exact hK.out _ _ ⟨u17, u18, .agg #[.slice A2 n2 c2, .slice E2 m2 d2, .bool s2], u20, u21, u22, u8, u9, u10, (by simp only [Act.put, List.setIfInBounds_toArray, List.set_cons_zero, List.set_cons_succ]), HB, (fun h => f0 (by simpa using h)), (fun h => (f1 (by simpa using h))), (fun _ => rfl), (fun h => (f3 (by simpa using h))), (fun h => f4 (by simpa using h)), (fun h => (f5 (by simpa using h))), (fun h => by simpa using (f6 (by simpa using h))), (fun h => by simpa using (f7 (by simpa using h))), (fun h => by simpa using (f8 (by simpa using h))), (fun h h' => n01 (by simpa using h) (by simpa using h')), (fun h h' => n02 (by simpa using h) (by simpa using h')), (fun h h' => n12 (by simpa using h) (by simpa using h')), (fun h => by simpa using t0 (by simpa using h)), (fun h => by simpa using t1 (by simpa using h)), (fun h => by simpa using t2 (by simpa using h))⟩
        · intro d a2 w2 hd hm ⟨u17, u18, u19, u20, u21, u22, u8, u9, u10, e, HB, f0, f1, f2, f3, f4, f5, f6, f7, f8, n01, n02, n12, t0, t1, t2⟩ K hK
          subst e
          simp only [Act.put, List.setIfInBounds_toArray, List.set_cons_zero, List.set_cons_succ]
          obtain rfl := f2 (hm ⟨2, .data⟩ (by simp) rfl)
          clear f2
          go_simp
          (with_reducible refine (HM2.out _ (B1.trans (Below.mono HB B1.size))).mono ?_)
          rintro e w3 ⟨g1, A1', n1', c1', g2, A2', n2', c2', rfl, hi, hb⟩
          have HB3 := HB.trans (hb.mono HB.size)
          go_wp2_with fail
          exact hK.out _ _ ⟨u17, u18, .agg #[.slice A2 n2 c2, .slice E2 m2 d2, .bool s2], .agg #[.bool g1, .slice A1' n1' c1', .bool g2, .slice A2' n2' c2'], u21, u22, u8, u9, u10, (by simp only [Act.put, List.setIfInBounds_toArray, List.set_cons_zero, List.set_cons_succ]), HB3, (fun h => f0 (by simpa using h)), (fun h => (f1 (by simpa using h)).below hb), (fun _ => rfl), (fun _ => ⟨_, _, _, _, _, _, _, _, rfl, hi⟩), (fun h => f4 (by simpa using h)), (fun h => (f5 (by simpa using h)).below hb), (fun h => by simpa using (f6 (by simpa using h)).below hb), (fun h => by simpa using (f7 (by simpa using h)).below hb), (fun h => by simpa using (f8 (by simpa using h)).below hb), (fun h h' => n01 (by simpa using h) (by simpa using h')), (fun h h' => n02 (by simpa using h) (by simpa using h')), (fun h h' => n12 (by simpa using h) (by simpa using h')), (fun h => by simpa using t0 (by simpa using h)), (fun h => by simpa using t1 (by simpa using h)), (fun h => by simpa using t2 (by simpa using h))⟩
        · intro d a2 w2 hd hm ⟨u17, u18, u19, u20, u21, u22, u8, u9, u10, e, HB, f0, f1, f2, f3, f4, f5, f6, f7, f8, n01, n02, n12, t0, t1, t2⟩ K hK
          subst e
          simp only [Act.put, List.setIfInBounds_toArray, List.set_cons_zero, List.set_cons_succ]
          go_simp
          exact hK.out _ _ ⟨u17, u18, u19, u20, .int .i64 k, u22, u8, u9, u10, (by simp only [Act.put, List.setIfInBounds_toArray, List.set_cons_zero, List.set_cons_succ]), HB, (fun h => f0 (by simpa using h)), (fun h => (f1 (by simpa using h))), (fun h => f2 (by simpa using h)), (fun h => (f3 (by simpa using h))), (fun _ => rfl), (fun h => (f5 (by simpa using h))), (fun h => by simpa using (f6 (by simpa using h))), (fun h => by simpa using (f7 (by simpa using h))), (fun h => by simpa using (f8 (by simpa using h))), (fun h h' => n01 (by simpa using h) (by simpa using h')), (fun h h' => n02 (by simpa using h) (by simpa using h')), (fun h h' => n12 (by simpa using h) (by simpa using h')), (fun h => by simpa using t0 (by simpa using h)), (fun h => by simpa using t1 (by simpa using h)), (fun h => by simpa using t2 (by simpa using h))⟩
        · intro d a2 w2 hd hm ⟨u17, u18, u19, u20, u21, u22, u8, u9, u10, e, HB, f0, f1, f2, f3, f4, f5, f6, f7, f8, n01, n02, n12, t0, t1, t2⟩ K hK
          subst e
          simp only [Act.put, List.setIfInBounds_toArray, List.set_cons_zero, List.set_cons_succ]
          obtain rfl := f4 (hm ⟨4, .data⟩ (by simp) rfl)
          clear f4
          go_simp
          (with_reducible refine (rof_any k _ HK.out.1 HK.out.2).mono ?_)
          rintro e w3 ⟨gg, AA, nn, cc, rfl, hi, hb⟩
          have HB3 := HB.trans (hb.mono HB.size)
          go_wp2_with fail
          exact hK.out _ _ ⟨u17, u18, u19, u20, .int .i64 k, .agg #[.bool gg, .slice AA nn cc], u8, u9, u10, (by simp only [Act.put, List.setIfInBounds_toArray, List.set_cons_zero, List.set_cons_succ]), HB3, (fun h => f0 (by simpa using h)), (fun h => (f1 (by simpa using h)).below hb), (fun h => f2 (by simpa using h)), (fun h => (f3 (by simpa using h)).below hb), (fun _ => rfl), (fun _ => ⟨_, _, _, _, rfl, hi⟩), (fun h => by simpa using (f6 (by simpa using h)).below hb), (fun h => by simpa using (f7 (by simpa using h)).below hb), (fun h => by simpa using (f8 (by simpa using h)).below hb), (fun h h' => n01 (by simpa using h) (by simpa using h')), (fun h h' => n02 (by simpa using h) (by simpa using h')), (fun h h' => n12 (by simpa using h) (by simpa using h')), (fun h => by simpa using t0 (by simpa using h)), (fun h => by simpa using t1 (by simpa using h)), (fun h => by simpa using t2 (by simpa using h))⟩
        · intro d a2 w2 hd hm ⟨u17, u18, u19, u20, u21, u22, u8, u9, u10, e, HB, f0, f1, f2, f3, f4, f5, f6, f7, f8, n01, n02, n12, t0, t1, t2⟩ K hK
          subst e
          simp only [Act.put, List.setIfInBounds_toArray, List.set_cons_zero, List.set_cons_succ]
          have hb : Below w2.heap.size w2 (w2.alloc (.cells #[.bool false, .slice none 0 0, .bool false, .slice none 0 0] 28)) := (Below.refl _ _).alloc (Nat.le_refl _) _
          have HB3 := HB.trans (hb.mono HB.size)
          go_simp
          exact hK.out _ _ ⟨u17, u18, u19, u20, u21, u22, .pointer (some ⟨w2.heap.size, 0, none⟩), u9, u10, (by simp only [Act.put, List.setIfInBounds_toArray, List.set_cons_zero, List.set_cons_succ]), HB3, (fun h => f0 (by simpa using h)), (fun h => (f1 (by simpa using h)).below hb), (fun h => f2 (by simpa using h)), (fun h => (f3 (by simpa using h)).below hb), (fun h => f4 (by simpa using h)), (fun h => (f5 (by simpa using h)).below hb), (fun _ => by have hs : d 9 = false := (by cases hq : d 9 with | false => rfl | true => (have hz := t0 hq; rw [hd] at hz; cases hz)); simpa [hs] using OwnQ.new HB.size (a)), (fun h => by simpa using (f7 (by simpa using h)).below hb), (fun h => by simpa using (f8 (by simpa using h)).below hb), (fun _ h' => ((f7 (by simpa using h')).lt).symm), (fun _ h' => ((f8 (by simpa using h')).lt).symm), (fun h h' => n12 (by simpa using h) (by simpa using h')), (fun _ => by simp), (fun h => by simpa using t1 (by simpa using h)), (fun h => by simpa using t2 (by simpa using h))⟩
        · intro d a2 w2 hd hm ⟨u17, u18, u19, u20, u21, u22, u8, u9, u10, e, HB, f0, f1, f2, f3, f4, f5, f6, f7, f8, n01, n02, n12, t0, t1, t2⟩ K hK
          subst e
          simp only [Act.put, List.setIfInBounds_toArray, List.set_cons_zero, List.set_cons_succ]
          have hb : Below w2.heap.size w2 (w2.alloc (.cells #[.bool false, .slice none 0 0, .bool false, .slice none 0 0] 28)) := (Below.refl _ _).alloc (Nat.le_refl _) _
          have HB3 := HB.trans (hb.mono HB.size)
          go_simp
          exact hK.out _ _ ⟨u17, u18, u19, u20, u21, u22, u8, .pointer (some ⟨w2.heap.size, 0, none⟩), u10, (by simp only [Act.put, List.setIfInBounds_toArray, List.set_cons_zero, List.set_cons_succ]), HB3, (fun h => f0 (by simpa using h)), (fun h => (f1 (by simpa using h)).below hb), (fun h => f2 (by simpa using h)), (fun h => (f3 (by simpa using h)).below hb), (fun h => f4 (by simpa using h)), (fun h => (f5 (by simpa using h)).below hb), (fun h => by simpa using (f6 (by simpa using h)).below hb), (fun _ => by have hs : d 10 = false := (by cases hq : d 10 with | false => rfl | true => (have hz := t1 hq; rw [hd] at hz; cases hz)); simpa [hs] using OwnQ.new HB.size (b)), (fun h => by simpa using (f8 (by simpa using h)).below hb), (fun h _ => (f6 (by simpa using h)).lt), (fun h h' => n02 (by simpa using h) (by simpa using h')), (fun _ h' => ((f8 (by simpa using h')).lt).symm), (fun h => by simpa using t0 (by simpa using h)), (fun _ => by simp), (fun h => by simpa using t2 (by simpa using h))⟩
        · intro d a2 w2 hd hm ⟨u17, u18, u19, u20, u21, u22, u8, u9, u10, e, HB, f0, f1, f2, f3, f4, f5, f6, f7, f8, n01, n02, n12, t0, t1, t2⟩ K hK
          subst e
          simp only [Act.put, List.setIfInBounds_toArray, List.set_cons_zero, List.set_cons_succ]
          have hb : Below w2.heap.size w2 (w2.alloc (.cells #[.bool false, .slice none 0 0] 26)) := (Below.refl _ _).alloc (Nat.le_refl _) _
          have HB3 := HB.trans (hb.mono HB.size)
          go_simp
          exact hK.out _ _ ⟨u17, u18, u19, u20, u21, u22, u8, u9, .pointer (some ⟨w2.heap.size, 0, none⟩), (by simp only [Act.put, List.setIfInBounds_toArray, List.set_cons_zero, List.set_cons_succ]), HB3, (fun h => f0 (by simpa using h)), (fun h => (f1 (by simpa using h)).below hb), (fun h => f2 (by simpa using h)), (fun h => (f3 (by simpa using h)).below hb), (fun h => f4 (by simpa using h)), (fun h => (f5 (by simpa using h)).below hb), (fun h => by simpa using (f6 (by simpa using h)).below hb), (fun h => by simpa using (f7 (by simpa using h)).below hb), (fun _ => by have hs : d 11 = false := (by cases hq : d 11 with | false => rfl | true => (have hz := t2 hq; rw [hd] at hz; cases hz)); simpa [hs] using OwnP.new HB.size (k)), (fun h h' => n01 (by simpa using h) (by simpa using h')), (fun h _ => (f6 (by simpa using h)).lt), (fun h _ => (f7 (by simpa using h)).lt), (fun h => by simpa using t0 (by simpa using h)), (fun h => by simpa using t1 (by simpa using h)), (fun _ => by simp)⟩
        · intro d a2 w2 hd hm ⟨u17, u18, u19, u20, u21, u22, u8, u9, u10, e, HB, f0, f1, f2, f3, f4, f5, f6, f7, f8, n01, n02, n12, t0, t1, t2⟩ K hK
          subst e
          simp only [Act.put, List.setIfInBounds_toArray, List.set_cons_zero, List.set_cons_succ]
          obtain ⟨gg, AA, nn, cc, gg', AA', nn', cc', rfl, hi⟩ := f1 (hm ⟨1, .data⟩ (by simp) rfl)
          obtain ⟨g, rfl, hg, b0, b1, b2, b3, hs, n0, n1, n2, n3, _⟩ := f6 (hm ⟨6, .data⟩ (by simp) rfl)
          obtain ⟨k0, k1, k2, k3, k4, k5, k6, k7, k8⟩ := id hs
          go_simp
          exact hK.out _ _ ⟨u17, .agg #[.bool gg, .slice AA nn cc, .bool gg', .slice AA' nn' cc'], u19, u20, u21, u22, .pointer (some ⟨g, 0, none⟩), u9, u10, (by simp only [Act.put, List.setIfInBounds_toArray, List.set_cons_zero, List.set_cons_succ]), Below.set4 HB hg _ _ _ _, (fun h => f0 (by simpa using h)), (fun h => (f1 (by simpa using h)).set4 hs n0 n1 n2 n3 _ _ _ _), (fun h => f2 (by simpa using h)), (fun h => (f3 (by simpa using h)).set4 hs n0 n1 n2 n3 _ _ _ _), (fun h => f4 (by simpa using h)), (fun h => (f5 (by simpa using h)).set4 hs n0 n1 n2 n3 _ _ _ _), (fun _ => by simpa using OwnQ.near hi hg hs n0 n1 n2 n3), (fun h => by simpa using (f7 (by simpa using h)).far ((n01 (hm ⟨6, .data⟩ (by simp) rfl) (by simpa using h)).symm) hs n0 n1 n2 n3 _ _ _ _), (fun h => by simpa using (f8 (by simpa using h)).far4 ((n02 (hm ⟨6, .data⟩ (by simp) rfl) (by simpa using h)).symm) hs n0 n1 n2 n3 _ _ _ _), (fun h h' => n01 (by simpa using h) (by simpa using h')), (fun h h' => n02 (by simpa using h) (by simpa using h')), (fun h h' => n12 (by simpa using h) (by simpa using h')), (fun _ => by simpa using hm ⟨6, .data⟩ (by simp) rfl), (fun h => by simpa using t1 (by simpa using h)), (fun h => by simpa using t2 (by simpa using h))⟩
        · intro d a2 w2 hd hm ⟨u17, u18, u19, u20, u21, u22, u8, u9, u10, e, HB, f0, f1, f2, f3, f4, f5, f6, f7, f8, n01, n02, n12, t0, t1, t2⟩ K hK
          subst e
          simp only [Act.put, List.setIfInBounds_toArray, List.set_cons_zero, List.set_cons_succ]
          obtain ⟨gg, AA, nn, cc, gg', AA', nn', cc', rfl, hi⟩ := f3 (hm ⟨3, .data⟩ (by simp) rfl)
          obtain ⟨g, rfl, hg, b0, b1, b2, b3, hs, n0, n1, n2, n3, _⟩ := f7 (hm ⟨7, .data⟩ (by simp) rfl)
          obtain ⟨k0, k1, k2, k3, k4, k5, k6, k7, k8⟩ := id hs
          go_simp
          exact hK.out _ _ ⟨u17, u18, u19, .agg #[.bool gg, .slice AA nn cc, .bool gg', .slice AA' nn' cc'], u21, u22, u8, .pointer (some ⟨g, 0, none⟩), u10, (by simp only [Act.put, List.setIfInBounds_toArray, List.set_cons_zero, List.set_cons_succ]), Below.set4 HB hg _ _ _ _, (fun h => f0 (by simpa using h)), (fun h => (f1 (by simpa using h)).set4 hs n0 n1 n2 n3 _ _ _ _), (fun h => f2 (by simpa using h)), (fun h => (f3 (by simpa using h)).set4 hs n0 n1 n2 n3 _ _ _ _), (fun h => f4 (by simpa using h)), (fun h => (f5 (by simpa using h)).set4 hs n0 n1 n2 n3 _ _ _ _), (fun h => by simpa using (f6 (by simpa using h)).far (n01 (by simpa using h) (hm ⟨7, .data⟩ (by simp) rfl)) hs n0 n1 n2 n3 _ _ _ _), (fun _ => by simpa using OwnQ.near hi hg hs n0 n1 n2 n3), (fun h => by simpa using (f8 (by simpa using h)).far4 ((n12 (hm ⟨7, .data⟩ (by simp) rfl) (by simpa using h)).symm) hs n0 n1 n2 n3 _ _ _ _), (fun h h' => n01 (by simpa using h) (by simpa using h')), (fun h h' => n02 (by simpa using h) (by simpa using h')), (fun h h' => n12 (by simpa using h) (by simpa using h')), (fun h => by simpa using t0 (by simpa using h)), (fun _ => by simpa using hm ⟨7, .data⟩ (by simp) rfl), (fun h => by simpa using t2 (by simpa using h))⟩
        · intro d a2 w2 hd hm ⟨u17, u18, u19, u20, u21, u22, u8, u9, u10, e, HB, f0, f1, f2, f3, f4, f5, f6, f7, f8, n01, n02, n12, t0, t1, t2⟩ K hK
          subst e
          simp only [Act.put, List.setIfInBounds_toArray, List.set_cons_zero, List.set_cons_succ]
          obtain ⟨gg, AA, nn, cc, rfl, hi⟩ := f5 (hm ⟨5, .data⟩ (by simp) rfl)
          obtain ⟨g, rfl, hg, b0, b1, hs, n0, n1, _⟩ := f8 (hm ⟨8, .data⟩ (by simp) rfl)
          obtain ⟨k0, k1, k2, k3, k4⟩ := id hs
          go_simp
          exact hK.out _ _ ⟨u17, u18, u19, u20, u21, .agg #[.bool gg, .slice AA nn cc], u8, u9, .pointer (some ⟨g, 0, none⟩), (by simp only [Act.put, List.setIfInBounds_toArray, List.set_cons_zero, List.set_cons_succ]), Below.set2 HB hg _ _, (fun h => f0 (by simpa using h)), (fun h => (f1 (by simpa using h)).set2 hs n0 n1 _ _), (fun h => f2 (by simpa using h)), (fun h => (f3 (by simpa using h)).set2 hs n0 n1 _ _), (fun h => f4 (by simpa using h)), (fun h => (f5 (by simpa using h)).set2 hs n0 n1 _ _), (fun h => by simpa using (f6 (by simpa using h)).far2 (n02 (by simpa using h) (hm ⟨8, .data⟩ (by simp) rfl)) hs n0 n1 _ _), (fun h => by simpa using (f7 (by simpa using h)).far2 (n12 (by simpa using h) (hm ⟨8, .data⟩ (by simp) rfl)) hs n0 n1 _ _), (fun _ => by simpa using OwnP.near hi hg hs n0 n1), (fun h h' => n01 (by simpa using h) (by simpa using h')), (fun h h' => n02 (by simpa using h) (by simpa using h')), (fun h h' => n12 (by simpa using h) (by simpa using h')), (fun h => by simpa using t0 (by simpa using h)), (fun h => by simpa using t1 (by simpa using h)), (fun _ => by simpa using hm ⟨8, .data⟩ (by simp) rfl)⟩
      · intro d a2 w2 hall ⟨u17, u18, u19, u20, u21, u22, u8, u9, u10, e, HB, f0, f1, f2, f3, f4, f5, f6, f7, f8, n01, n02, n12, t0, t1, t2⟩
        subst e
        simp only [Act.put, List.setIfInBounds_toArray, List.set_cons_zero, List.set_cons_succ]
        obtain rfl := f0 (hall _ (by decide))
        obtain rfl := f2 (hall _ (by decide))
        obtain rfl := f4 (hall _ (by decide))
        obtain ⟨g0, rfl, h0, b0⟩ := OwnQ.ratAtB (by have := f6 (hall _ (by decide)); rwa [hall 9 (by decide)] at this)
        obtain ⟨g1, rfl, h1, b1⟩ := OwnQ.ratAtB (by have := f7 (hall _ (by decide)); rwa [hall 10 (by decide)] at this)
        obtain ⟨g2, rfl, h2, b2⟩ := OwnP.intAtB (by have := f8 (hall _ (by decide)); rwa [hall 11 (by decide)] at this)
        go_wp2_with fail
        go_meet
        exact ⟨g0, g1, g2, rfl, rfl, rfl, h0, h1, h2, B1.trans (HB.mono B1.size)⟩
  case rest =>
  obtain ⟨ga, gb, gk, rfl, rfl, rfl, Ta, Tb, ⟨gck, Ack, nck, cck, Sk, Ik⟩, B⟩ := hcut
  obtain ⟨W2, rfl⟩ : ∃ x : World, x = wc := ⟨_, rfl⟩
  clear B1 HX HM1 HM2
  obtain ⟨gn_a, An_a, nn_a, cn_a, gd_a, Ad_a, nd_a, cd_a, Sa, Ia⟩ := Ta
  obtain ⟨gn_b, An_b, nn_b, cn_b, gd_b, Ad_b, nd_b, cd_b, Sb, Ib⟩ := Tb
  go_upto_region 3 with (fail)
  go_cut [11, 12] (fun s0 s1 wx => ∃ gq e, s0 = .pointer (some ⟨gq, 0, none⟩) ∧ s1 = .int .i64 e ∧ Below W2.heap.size W2 wx ∧ Hid ((e = 3) ∨ (e = 0 ∧ RatAt wx gq (a / b) ∧ b ≠ 0)))
  case first =>
    clear B
    have D := Below.refl W2.heap.size W2
    by_cases hb0 : b = 0
    case' pos =>
      as_aux_lemma =>
        have ⟨Sac0, Sac1, Sac2, Sac3, _⟩ := Sa
        have ⟨Sbc0, Sbc1, Sbc2, Sbc3, _⟩ := Sb
        go_wp2_with fail
        (with_reducible refine (qdiv_bad gn_a An_a nn_a cn_a gd_a Ad_a nd_a cd_a gn_b An_b nn_b cn_b gd_b Ad_b nd_b cd_b _ Ia Ib Za Zb (by decide) hb0).mono ?_)
        rintro e w1 ⟨rfl, bq⟩
        clear Sac0 Sac1 Sac2 Sac3 Sbc0 Sbc1 Sbc2 Sbc3
        replace D := D.trans (bq.mono D.size)
        clear bq
        have hal := (Below.refl w1.heap.size w1).alloc (Nat.le_refl _) (.cells #[.bool false, .slice none 0 0, .bool false, .slice none 0 0] 28)
        replace D := D.trans (hal.mono D.size)
        clear hal
        go_wp2_with fail
        go_meet
        exact ⟨_, _, rfl, rfl, D, .inl rfl⟩
    case' neg =>
      as_aux_lemma =>
        have ⟨Sac0, Sac1, Sac2, Sac3, _⟩ := Sa
        have ⟨Sbc0, Sbc1, Sbc2, Sbc3, _⟩ := Sb
        go_wp2_with fail
        (with_reducible refine (qdiv_z gn_a An_a nn_a cn_a gd_a Ad_a nd_a cd_a gn_b An_b nn_b cn_b gd_b Ad_b nd_b cd_b _ Ia Ib Za Zb (by decide) hb0).mono ?_)
        rintro e w1 ⟨gnq, Anq, nnq, cnq, gdq, Adq, ndq, cdq, rfl, iq, bq⟩
        clear Sac0 Sac1 Sac2 Sac3 Sbc0 Sbc1 Sbc2 Sbc3
        replace D := D.trans (bq.mono D.size)
        clear bq
        have hal := (Below.refl w1.heap.size w1).alloc (Nat.le_refl _) (.cells #[.bool gnq, .slice Anq nnq cnq, .bool gdq, .slice Adq ndq cdq] 28)
        have Sq := Slot4.new w1 (.bool gnq) (.slice Anq nnq cnq) (.bool gdq) (.slice Adq ndq cdq) 28
        replace iq := iq.below hal
        replace D := D.trans (hal.mono D.size)
        clear hal
        generalize hW : w1.alloc (.cells #[.bool gnq, .slice Anq nnq cnq, .bool gdq, .slice Adq ndq cdq] 28) = W1 at *
        go_wp2_with fail
        try rw [hW]
        clear hW
        go_meet
        exact ⟨_, _, rfl, rfl, D, .inr ⟨rfl, ⟨_, _, _, _, _, _, _, _, Sq, iq⟩, hb0⟩⟩
  case rest =>
  obtain ⟨gq, e0, rfl, rfl, DC, HE⟩ := hcut
  obtain ⟨W3, rfl⟩ : ∃ x : World, x = wc := ⟨_, rfl⟩
  replace Sa := Sa.after DC
  replace Ia := Ia.below DC
  replace Sb := Sb.after DC
  replace Ib := Ib.below DC
  replace Sk := Sk.after DC
  replace Ik := Ik.below DC
  replace B := B.trans (DC.mono B.size)
  clear DC
  go_upto_region 4 with (fail)
  go_cut [13] (fun s wx => s = .bool true ∧ Below W3.heap.size W3 wx)
  case first =>
    clear B
    have D := Below.refl W3.heap.size W3
    rcases HE.out with h | ⟨h, Tq, hb0⟩
    case' inl =>
      as_aux_lemma =>
        subst h
        clear HE
        have ⟨Sac0, Sac1, Sac2, Sac3, _⟩ := Sa
        have ⟨Sbc0, Sbc1, Sbc2, Sbc3, _⟩ := Sb
        go_wp2_with fail
        (with_reducible refine (qadd_z gn_a An_a nn_a cn_a gd_a Ad_a nd_a cd_a gn_b An_b nn_b cn_b gd_b Ad_b nd_b cd_b _ Ia Ib Za Zb (by decide)).mono ?_)
        rintro e w1 ⟨gnr0, Anr0, nnr0, cnr0, gdr0, Adr0, ndr0, cdr0, rfl, ir0, br0⟩
        clear Sac0 Sac1 Sac2 Sac3 Sbc0 Sbc1 Sbc2 Sbc3
        replace Sa := Sa.after br0
        replace Ia := Ia.below br0
        replace Sb := Sb.after br0
        replace Ib := Ib.below br0
        replace D := D.trans (br0.mono D.size)
        clear br0
        go_wp2_with fail
        (with_reducible refine (rqvalid_z gnr0 Anr0 nnr0 cnr0 gdr0 Adr0 ndr0 cdr0 _ ir0 (RSz.add Za Zb (by decide)) (by decide)).mono ?_)
        rintro e w2 ⟨rfl, bv0⟩
        replace Sa := Sa.after bv0
        replace Ia := Ia.below bv0
        replace Sb := Sb.after bv0
        replace Ib := Ib.below bv0
        replace ir0 := ir0.below bv0
        replace D := D.trans (bv0.mono D.size)
        clear bv0
        clear ir0
        have ⟨Sac0, Sac1, Sac2, Sac3, _⟩ := Sa
        have ⟨Sbc0, Sbc1, Sbc2, Sbc3, _⟩ := Sb
        go_wp2_with fail
        (with_reducible refine (qsub_z gn_a An_a nn_a cn_a gd_a Ad_a nd_a cd_a gn_b An_b nn_b cn_b gd_b Ad_b nd_b cd_b _ Ia Ib Za Zb (by decide)).mono ?_)
        rintro e w3 ⟨gnr1, Anr1, nnr1, cnr1, gdr1, Adr1, ndr1, cdr1, rfl, ir1, br1⟩
        clear Sac0 Sac1 Sac2 Sac3 Sbc0 Sbc1 Sbc2 Sbc3
        replace Sa := Sa.after br1
        replace Ia := Ia.below br1
        replace Sb := Sb.after br1
        replace Ib := Ib.below br1
        replace D := D.trans (br1.mono D.size)
        clear br1
        go_wp2_with fail
        (with_reducible refine (rqvalid_z gnr1 Anr1 nnr1 cnr1 gdr1 Adr1 ndr1 cdr1 _ ir1 (RSz.sub Za Zb (by decide)) (by decide)).mono ?_)
        rintro e w4 ⟨rfl, bv1⟩
        replace Sa := Sa.after bv1
        replace Ia := Ia.below bv1
        replace Sb := Sb.after bv1
        replace Ib := Ib.below bv1
        replace ir1 := ir1.below bv1
        replace D := D.trans (bv1.mono D.size)
        clear bv1
        clear ir1
        have ⟨Sac0, Sac1, Sac2, Sac3, _⟩ := Sa
        have ⟨Sbc0, Sbc1, Sbc2, Sbc3, _⟩ := Sb
        go_wp2_with fail
        (with_reducible refine (qmul_z gn_a An_a nn_a cn_a gd_a Ad_a nd_a cd_a gn_b An_b nn_b cn_b gd_b Ad_b nd_b cd_b _ Ia Ib Za Zb (by decide)).mono ?_)
        rintro e w5 ⟨gnr2, Anr2, nnr2, cnr2, gdr2, Adr2, ndr2, cdr2, rfl, ir2, br2⟩
        clear Sac0 Sac1 Sac2 Sac3 Sbc0 Sbc1 Sbc2 Sbc3
        replace Sa := Sa.after br2
        replace Ia := Ia.below br2
        replace Sb := Sb.after br2
        replace Ib := Ib.below br2
        replace D := D.trans (br2.mono D.size)
        clear br2
        go_wp2_with fail
        (with_reducible refine (rqvalid_z gnr2 Anr2 nnr2 cnr2 gdr2 Adr2 ndr2 cdr2 _ ir2 (RSz.mul Za Zb (by decide)) (by decide)).mono ?_)
        rintro e w6 ⟨rfl, bv2⟩
        replace Sa := Sa.after bv2
        replace Ia := Ia.below bv2
        replace Sb := Sb.after bv2
        replace Ib := Ib.below bv2
        replace ir2 := ir2.below bv2
        replace D := D.trans (bv2.mono D.size)
        clear bv2
        clear ir2
        have ⟨Sac0, Sac1, Sac2, Sac3, _⟩ := Sa
        go_wp2_with fail
        (with_reducible refine (qneg_z gn_a An_a nn_a cn_a gd_a Ad_a nd_a cd_a _ Ia Za).mono ?_)
        rintro e w7 ⟨gnr3, Anr3, nnr3, cnr3, gdr3, Adr3, ndr3, cdr3, rfl, ir3, br3⟩
        clear Sac0 Sac1 Sac2 Sac3
        replace Sa := Sa.after br3
        replace Ia := Ia.below br3
        replace Sb := Sb.after br3
        replace Ib := Ib.below br3
        replace D := D.trans (br3.mono D.size)
        clear br3
        go_wp2_with fail
        (with_reducible refine (rqvalid_z gnr3 Anr3 nnr3 cnr3 gdr3 Adr3 ndr3 cdr3 _ ir3 Za.neg (by decide)).mono ?_)
        rintro e w8 ⟨rfl, bv3⟩
        replace Sa := Sa.after bv3
        replace Ia := Ia.below bv3
        replace Sb := Sb.after bv3
        replace Ib := Ib.below bv3
        replace ir3 := ir3.below bv3
        replace D := D.trans (bv3.mono D.size)
        clear bv3
        clear ir3
        go_wp2_with fail
        go_meet
        exact ⟨rfl, D⟩
    case' inr =>
      as_aux_lemma =>
        subst h
        clear HE
        obtain ⟨gn_q, An_q, nn_q, cn_q, gd_q, Ad_q, nd_q, cd_q, Sq, Iq⟩ := Tq
        have ⟨Sac0, Sac1, Sac2, Sac3, _⟩ := Sa
        have ⟨Sbc0, Sbc1, Sbc2, Sbc3, _⟩ := Sb
        go_wp2_with fail
        (with_reducible refine (qadd_z gn_a An_a nn_a cn_a gd_a Ad_a nd_a cd_a gn_b An_b nn_b cn_b gd_b Ad_b nd_b cd_b _ Ia Ib Za Zb (by decide)).mono ?_)
        rintro e w1 ⟨gnr0, Anr0, nnr0, cnr0, gdr0, Adr0, ndr0, cdr0, rfl, ir0, br0⟩
        clear Sac0 Sac1 Sac2 Sac3 Sbc0 Sbc1 Sbc2 Sbc3
        replace Sa := Sa.after br0
        replace Ia := Ia.below br0
        replace Sb := Sb.after br0
        replace Ib := Ib.below br0
        replace Sq := Sq.after br0
        replace Iq := Iq.below br0
        replace D := D.trans (br0.mono D.size)
        clear br0
        go_wp2_with fail
        (with_reducible refine (rqvalid_z gnr0 Anr0 nnr0 cnr0 gdr0 Adr0 ndr0 cdr0 _ ir0 (RSz.add Za Zb (by decide)) (by decide)).mono ?_)
        rintro e w2 ⟨rfl, bv0⟩
        replace Sa := Sa.after bv0
        replace Ia := Ia.below bv0
        replace Sb := Sb.after bv0
        replace Ib := Ib.below bv0
        replace Sq := Sq.after bv0
        replace Iq := Iq.below bv0
        replace ir0 := ir0.below bv0
        replace D := D.trans (bv0.mono D.size)
        clear bv0
        clear ir0
        have ⟨Sac0, Sac1, Sac2, Sac3, _⟩ := Sa
        have ⟨Sbc0, Sbc1, Sbc2, Sbc3, _⟩ := Sb
        go_wp2_with fail
        (with_reducible refine (qsub_z gn_a An_a nn_a cn_a gd_a Ad_a nd_a cd_a gn_b An_b nn_b cn_b gd_b Ad_b nd_b cd_b _ Ia Ib Za Zb (by decide)).mono ?_)
        rintro e w3 ⟨gnr1, Anr1, nnr1, cnr1, gdr1, Adr1, ndr1, cdr1, rfl, ir1, br1⟩
        clear Sac0 Sac1 Sac2 Sac3 Sbc0 Sbc1 Sbc2 Sbc3
        replace Sa := Sa.after br1
        replace Ia := Ia.below br1
        replace Sb := Sb.after br1
        replace Ib := Ib.below br1
        replace Sq := Sq.after br1
        replace Iq := Iq.below br1
        replace D := D.trans (br1.mono D.size)
        clear br1
        go_wp2_with fail
        (with_reducible refine (rqvalid_z gnr1 Anr1 nnr1 cnr1 gdr1 Adr1 ndr1 cdr1 _ ir1 (RSz.sub Za Zb (by decide)) (by decide)).mono ?_)
        rintro e w4 ⟨rfl, bv1⟩
        replace Sa := Sa.after bv1
        replace Ia := Ia.below bv1
        replace Sb := Sb.after bv1
        replace Ib := Ib.below bv1
        replace Sq := Sq.after bv1
        replace Iq := Iq.below bv1
        replace ir1 := ir1.below bv1
        replace D := D.trans (bv1.mono D.size)
        clear bv1
        clear ir1
        have ⟨Sac0, Sac1, Sac2, Sac3, _⟩ := Sa
        have ⟨Sbc0, Sbc1, Sbc2, Sbc3, _⟩ := Sb
        go_wp2_with fail
        (with_reducible refine (qmul_z gn_a An_a nn_a cn_a gd_a Ad_a nd_a cd_a gn_b An_b nn_b cn_b gd_b Ad_b nd_b cd_b _ Ia Ib Za Zb (by decide)).mono ?_)
        rintro e w5 ⟨gnr2, Anr2, nnr2, cnr2, gdr2, Adr2, ndr2, cdr2, rfl, ir2, br2⟩
        clear Sac0 Sac1 Sac2 Sac3 Sbc0 Sbc1 Sbc2 Sbc3
        replace Sa := Sa.after br2
        replace Ia := Ia.below br2
        replace Sb := Sb.after br2
        replace Ib := Ib.below br2
        replace Sq := Sq.after br2
        replace Iq := Iq.below br2
        replace D := D.trans (br2.mono D.size)
        clear br2
        go_wp2_with fail
        (with_reducible refine (rqvalid_z gnr2 Anr2 nnr2 cnr2 gdr2 Adr2 ndr2 cdr2 _ ir2 (RSz.mul Za Zb (by decide)) (by decide)).mono ?_)
        rintro e w6 ⟨rfl, bv2⟩
        replace Sa := Sa.after bv2
        replace Ia := Ia.below bv2
        replace Sb := Sb.after bv2
        replace Ib := Ib.below bv2
        replace Sq := Sq.after bv2
        replace Iq := Iq.below bv2
        replace ir2 := ir2.below bv2
        replace D := D.trans (bv2.mono D.size)
        clear bv2
        clear ir2
        have ⟨Sac0, Sac1, Sac2, Sac3, _⟩ := Sa
        go_wp2_with fail
        (with_reducible refine (qneg_z gn_a An_a nn_a cn_a gd_a Ad_a nd_a cd_a _ Ia Za).mono ?_)
        rintro e w7 ⟨gnr3, Anr3, nnr3, cnr3, gdr3, Adr3, ndr3, cdr3, rfl, ir3, br3⟩
        clear Sac0 Sac1 Sac2 Sac3
        replace Sa := Sa.after br3
        replace Ia := Ia.below br3
        replace Sb := Sb.after br3
        replace Ib := Ib.below br3
        replace Sq := Sq.after br3
        replace Iq := Iq.below br3
        replace D := D.trans (br3.mono D.size)
        clear br3
        go_wp2_with fail
        (with_reducible refine (rqvalid_z gnr3 Anr3 nnr3 cnr3 gdr3 Adr3 ndr3 cdr3 _ ir3 Za.neg (by decide)).mono ?_)
        rintro e w8 ⟨rfl, bv3⟩
        replace Sa := Sa.after bv3
        replace Ia := Ia.below bv3
        replace Sb := Sb.after bv3
        replace Ib := Ib.below bv3
        replace Sq := Sq.after bv3
        replace Iq := Iq.below bv3
        replace ir3 := ir3.below bv3
        replace D := D.trans (bv3.mono D.size)
        clear bv3
        clear ir3
        have ⟨Sqc0, Sqc1, Sqc2, Sqc3, _⟩ := Sq
        go_wp2_with fail
        (with_reducible refine (rqvalid_z gn_q An_q nn_q cn_q gd_q Ad_q nd_q cd_q _ Iq (RSz.div Za Zb (by decide) hb0) (by decide)).mono ?_)
        rintro e w9 ⟨rfl, bv9⟩
        clear Sqc0 Sqc1 Sqc2 Sqc3
        replace Sa := Sa.after bv9
        replace Ia := Ia.below bv9
        replace Sb := Sb.after bv9
        replace Ib := Ib.below bv9
        replace Sq := Sq.after bv9
        replace Iq := Iq.below bv9
        replace D := D.trans (bv9.mono D.size)
        clear bv9
        go_wp2_with fail
        go_meet
        exact ⟨rfl, D⟩
  case rest =>
  obtain ⟨rfl, DC⟩ := hcut
  obtain ⟨W4, rfl⟩ : ∃ x : World, x = wc := ⟨_, rfl⟩
  clear HE
  replace Sa := Sa.after DC
  replace Ia := Ia.below DC
  replace Sb := Sb.after DC
  replace Ib := Ib.below DC
  replace Sk := Sk.after DC
  replace Ik := Ik.below DC
  replace B := B.trans (DC.mono B.size)
  clear DC
  go_upto_region 5 with (fail)
  have HX : Hid (∀ V, Below W4.heap.size W4 V → (V.cell? ⟨ga, 0, none⟩ = some (.bool gn_a) ∧ V.cell? ⟨ga, 1, none⟩ = some (.slice An_a nn_a cn_a) ∧ V.cell? ⟨ga, 2, none⟩ = some (.bool gd_a) ∧ V.cell? ⟨ga, 3, none⟩ = some (.slice Ad_a nd_a cd_a)) ∧ (V.cell? ⟨gk, 0, none⟩ = some (.bool gck) ∧ V.cell? ⟨gk, 1, none⟩ = some (.slice Ack nck cck))) := fun V hV => ⟨(Sa.after hV).cells, (Sk.after hV).1, (Sk.after hV).2.1⟩
  have HI : Hid (∀ V, Below W4.heap.size W4 V → IsRat V gn_a An_a nn_a cn_a gd_a Ad_a nd_a cd_a a ∧ IsInt V gck Ack nck cck k) := fun V hV => ⟨Ia.below hV, Ik.below hV⟩
  have Z1 : Sz 5 (a.num * k) := Za.num.mul Zk (by decide)
  have Z2 : Sz 5 ((a.den : Int) * k) := Za.den.mul Zk (by decide)
  by_cases hk : k = 0
  · have HOF : Hid (∀ W g A n c g' A' n' c', IsInt W g' A' n' c' ((a.den : Int) * k) → Calls Tryz.prog 12 #[.agg #[.bool g, .slice A n c], .agg #[.bool g', .slice A' n' c']] W fun e w' => e = .returned (.tuple #[.agg #[.bool false, .slice none 0 0, .bool false, .slice none 0 0], .int .i64 3]) ∧ Below W.heap.size W w') := fun W g A n c g' A' n' c' h => by
      rw [hk, Int.mul_zero] at h
      exact qof_bad g A n c g' A' n' c' W h
    have hk0 : (k == 0) = true := by rw [hk]; rfl
    clear hk Sa Sb Sk Ia Ib Ik
    refine wp_region_ev (fun d a0 a' w' => ∃ u59 u60 u61 u62 u63 u64 u65 u66 u67 u58 u68 u69 u14 u15 : Value, a' = ((((((((((((((a0.put (some 59) u59).put (some 60) u60).put (some 61) u61).put (some 62) u62).put (some 63) u63).put (some 64) u64).put (some 65) u65).put (some 66) u66).put (some 67) u67).put (some 58) u58).put (some 68) u68).put (some 69) u69).put (some 14) u14).put (some 15) u15) ∧ Below W4.heap.size W4 w' ∧ (d 0 = true → u59 = .pointer (some ⟨ga, 0, none⟩)) ∧ (d 1 = true → u60 = .agg #[.bool gn_a, .slice An_a nn_a cn_a]) ∧ (d 2 = true → u61 = .agg #[.bool gck, .slice Ack nck cck]) ∧ (d 3 = true → IntV w' u62 (a.num * k)) ∧ (d 4 = true → u63 = .pointer (some ⟨ga, 2, none⟩)) ∧ (d 5 = true → u64 = .agg #[.bool gd_a, .slice Ad_a nd_a cd_a]) ∧ (d 6 = true → u65 = .agg #[.bool gck, .slice Ack nck cck]) ∧ (d 7 = true → IntV w' u66 ((a.den : Int) * k)) ∧ (d 8 = true → u67 = .tuple #[.agg #[.bool false, .slice none 0 0, .bool false, .slice none 0 0], .int .i64 3]) ∧ (d 9 = true → u58 = .tuple #[.agg #[.bool false, .slice none 0 0, .bool false, .slice none 0 0], .int .i64 3]) ∧ (d 10 = true → u68 = .agg #[.bool false, .slice none 0 0, .bool false, .slice none 0 0]) ∧ (d 11 = true → u69 = .int .i64 3) ∧ (d 14 = true → u15 = .int .i64 3) ∧ (d 12 = true → OwnQ W4.heap.size w' u14 false (0)) ∧ (d 13 = true → d 12 = true)) (by kernel_rfl) (by kernel_rfl) ?_ ?_ ?_ ?_
    · intro d d' h a' w' hh
      obtain rfl : d = d' := funext h
      exact hh
    · exact ⟨_, _, _, _, _, _, _, _, _, _, _, _, _, _, (by simp only [Act.put, List.setIfInBounds_toArray, List.set_cons_zero, List.set_cons_succ]; rfl), (Below.refl _ _).drew, (fun h => by cases h), (fun h => by cases h), (fun h => by cases h), (fun h => by cases h), (fun h => by cases h), (fun h => by cases h), (fun h => by cases h), (fun h => by cases h), (fun h => by cases h), (fun h => by cases h), (fun h => by cases h), (fun h => by cases h), (fun h => by cases h), (fun h => by cases h), (fun h => by cases h)⟩
    · refine ⟨?_, ?_, ?_, ?_, ?_, ?_, ?_, ?_, ?_, ?_, ?_, ?_, ?_, ?_, ?_, trivial⟩
      · intro d a2 w2 hd hm ⟨u59, u60, u61, u62, u63, u64, u65, u66, u67, u58, u68, u69, u14, u15, e, HB, f0, f1, f2, f3, f4, f5, f6, f7, f8, f9, f10, f11, f14, f12, t0⟩ K hK
        subst e
        simp only [Act.put, List.setIfInBounds_toArray, List.set_cons_zero, List.set_cons_succ]
        go_simp
        exact hK.out _ _ ⟨.pointer (some ⟨ga, 0, none⟩), u60, u61, u62, u63, u64, u65, u66, u67, u58, u68, u69, u14, u15, (by simp only [Act.put, List.setIfInBounds_toArray, List.set_cons_zero, List.set_cons_succ]), HB, (fun _ => rfl), (fun h => f1 (by simpa using h)), (fun h => f2 (by simpa using h)), (fun h => (f3 (by simpa using h))), (fun h => f4 (by simpa using h)), (fun h => f5 (by simpa using h)), (fun h => f6 (by simpa using h)), (fun h => (f7 (by simpa using h))), (fun h => f8 (by simpa using h)), (fun h => f9 (by simpa using h)), (fun h => f10 (by simpa using h)), (fun h => f11 (by simpa using h)), (fun h => f14 (by simpa using h)), (fun h => by simpa using (f12 (by simpa using h))), (fun h => by simpa using t0 (by simpa using h))⟩
      · intro d a2 w2 hd hm ⟨u59, u60, u61, u62, u63, u64, u65, u66, u67, u58, u68, u69, u14, u15, e, HB, f0, f1, f2, f3, f4, f5, f6, f7, f8, f9, f10, f11, f14, f12, t0⟩ K hK
        subst e
        simp only [Act.put, List.setIfInBounds_toArray, List.set_cons_zero, List.set_cons_succ]
        obtain rfl := f0 (hm ⟨0, .data⟩ (by simp) rfl)
        clear f0
        obtain ⟨⟨q0, q1, q2, q3⟩, q4, q5⟩ := HX.out w2 HB
        go_simp
        exact hK.out _ _ ⟨.pointer (some ⟨ga, 0, none⟩), .agg #[.bool gn_a, .slice An_a nn_a cn_a], u61, u62, u63, u64, u65, u66, u67, u58, u68, u69, u14, u15, (by simp only [Act.put, List.setIfInBounds_toArray, List.set_cons_zero, List.set_cons_succ]), HB, (fun _ => rfl), (fun _ => rfl), (fun h => f2 (by simpa using h)), (fun h => (f3 (by simpa using h))), (fun h => f4 (by simpa using h)), (fun h => f5 (by simpa using h)), (fun h => f6 (by simpa using h)), (fun h => (f7 (by simpa using h))), (fun h => f8 (by simpa using h)), (fun h => f9 (by simpa using h)), (fun h => f10 (by simpa using h)), (fun h => f11 (by simpa using h)), (fun h => f14 (by simpa using h)), (fun h => by simpa using (f12 (by simpa using h))), (fun h => by simpa using t0 (by simpa using h))⟩
      · intro d a2 w2 hd hm ⟨u59, u60, u61, u62, u63, u64, u65, u66, u67, u58, u68, u69, u14, u15, e, HB, f0, f1, f2, f3, f4, f5, f6, f7, f8, f9, f10, f11, f14, f12, t0⟩ K hK
        subst e
        simp only [Act.put, List.setIfInBounds_toArray, List.set_cons_zero, List.set_cons_succ]
        obtain ⟨⟨q0, q1, q2, q3⟩, q4, q5⟩ := HX.out w2 HB
        go_simp
        exact hK.out _ _ ⟨u59, u60, .agg #[.bool gck, .slice Ack nck cck], u62, u63, u64, u65, u66, u67, u58, u68, u69, u14, u15, (by simp only [Act.put, List.setIfInBounds_toArray, List.set_cons_zero, List.set_cons_succ]), HB, (fun h => f0 (by simpa using h)), (fun h => f1 (by simpa using h)), (fun _ => rfl), (fun h => (f3 (by simpa using h))), (fun h => f4 (by simpa using h)), (fun h => f5 (by simpa using h)), (fun h => f6 (by simpa using h)), (fun h => (f7 (by simpa using h))), (fun h => f8 (by simpa using h)), (fun h => f9 (by simpa using h)), (fun h => f10 (by simpa using h)), (fun h => f11 (by simpa using h)), (fun h => f14 (by simpa using h)), (fun h => by simpa using (f12 (by simpa using h))), (fun h => by simpa using t0 (by simpa using h))⟩
      · intro d a2 w2 hd hm ⟨u59, u60, u61, u62, u63, u64, u65, u66, u67, u58, u68, u69, u14, u15, e, HB, f0, f1, f2, f3, f4, f5, f6, f7, f8, f9, f10, f11, f14, f12, t0⟩ K hK
        subst e
        simp only [Act.put, List.setIfInBounds_toArray, List.set_cons_zero, List.set_cons_succ]
        obtain rfl := f1 (hm ⟨1, .data⟩ (by simp) rfl)
        clear f1
        obtain rfl := f2 (hm ⟨2, .data⟩ (by simp) rfl)
        clear f2
        go_simp
        (with_reducible refine (rmul_z gn_a gck An_a Ack nn_a cn_a nck cck _ (HI.out _ HB).1.num (HI.out _ HB).2 Za.num Zk).mono ?_)
        rintro e w3 ⟨gg, AA, nn, cc, rfl, hi, hb⟩
        have HB3 := HB.trans (hb.mono HB.size)
        go_wp2_with fail
        exact hK.out _ _ ⟨u59, .agg #[.bool gn_a, .slice An_a nn_a cn_a], .agg #[.bool gck, .slice Ack nck cck], .agg #[.bool gg, .slice AA nn cc], u63, u64, u65, u66, u67, u58, u68, u69, u14, u15, (by simp only [Act.put, List.setIfInBounds_toArray, List.set_cons_zero, List.set_cons_succ]), HB3, (fun h => f0 (by simpa using h)), (fun _ => rfl), (fun _ => rfl), (fun _ => ⟨_, _, _, _, rfl, hi⟩), (fun h => f4 (by simpa using h)), (fun h => f5 (by simpa using h)), (fun h => f6 (by simpa using h)), (fun h => (f7 (by simpa using h)).below hb), (fun h => f8 (by simpa using h)), (fun h => f9 (by simpa using h)), (fun h => f10 (by simpa using h)), (fun h => f11 (by simpa using h)), (fun h => f14 (by simpa using h)), (fun h => by simpa using (f12 (by simpa using h)).below hb), (fun h => by simpa using t0 (by simpa using h))⟩
      · intro d a2 w2 hd hm ⟨u59, u60, u61, u62, u63, u64, u65, u66, u67, u58, u68, u69, u14, u15, e, HB, f0, f1, f2, f3, f4, f5, f6, f7, f8, f9, f10, f11, f14, f12, t0⟩ K hK
        subst e
        simp only [Act.put, List.setIfInBounds_toArray, List.set_cons_zero, List.set_cons_succ]
        go_simp
        exact hK.out _ _ ⟨u59, u60, u61, u62, .pointer (some ⟨ga, 2, none⟩), u64, u65, u66, u67, u58, u68, u69, u14, u15, (by simp only [Act.put, List.setIfInBounds_toArray, List.set_cons_zero, List.set_cons_succ]), HB, (fun h => f0 (by simpa using h)), (fun h => f1 (by simpa using h)), (fun h => f2 (by simpa using h)), (fun h => (f3 (by simpa using h))), (fun _ => rfl), (fun h => f5 (by simpa using h)), (fun h => f6 (by simpa using h)), (fun h => (f7 (by simpa using h))), (fun h => f8 (by simpa using h)), (fun h => f9 (by simpa using h)), (fun h => f10 (by simpa using h)), (fun h => f11 (by simpa using h)), (fun h => f14 (by simpa using h)), (fun h => by simpa using (f12 (by simpa using h))), (fun h => by simpa using t0 (by simpa using h))⟩
      · intro d a2 w2 hd hm ⟨u59, u60, u61, u62, u63, u64, u65, u66, u67, u58, u68, u69, u14, u15, e, HB, f0, f1, f2, f3, f4, f5, f6, f7, f8, f9, f10, f11, f14, f12, t0⟩ K hK
        subst e
        simp only [Act.put, List.setIfInBounds_toArray, List.set_cons_zero, List.set_cons_succ]
        obtain rfl := f4 (hm ⟨4, .data⟩ (by simp) rfl)
        clear f4
        obtain ⟨⟨q0, q1, q2, q3⟩, q4, q5⟩ := HX.out w2 HB
        go_simp
        exact hK.out _ _ ⟨u59, u60, u61, u62, .pointer (some ⟨ga, 2, none⟩), .agg #[.bool gd_a, .slice Ad_a nd_a cd_a], u65, u66, u67, u58, u68, u69, u14, u15, (by simp only [Act.put, List.setIfInBounds_toArray, List.set_cons_zero, List.set_cons_succ]), HB, (fun h => f0 (by simpa using h)), (fun h => f1 (by simpa using h)), (fun h => f2 (by simpa using h)), (fun h => (f3 (by simpa using h))), (fun _ => rfl), (fun _ => rfl), (fun h => f6 (by simpa using h)), (fun h => (f7 (by simpa using h))), (fun h => f8 (by simpa using h)), (fun h => f9 (by simpa using h)), (fun h => f10 (by simpa using h)), (fun h => f11 (by simpa using h)), (fun h => f14 (by simpa using h)), (fun h => by simpa using (f12 (by simpa using h))), (fun h => by simpa using t0 (by simpa using h))⟩
      · intro d a2 w2 hd hm ⟨u59, u60, u61, u62, u63, u64, u65, u66, u67, u58, u68, u69, u14, u15, e, HB, f0, f1, f2, f3, f4, f5, f6, f7, f8, f9, f10, f11, f14, f12, t0⟩ K hK
        subst e
        simp only [Act.put, List.setIfInBounds_toArray, List.set_cons_zero, List.set_cons_succ]
        obtain ⟨⟨q0, q1, q2, q3⟩, q4, q5⟩ := HX.out w2 HB
        go_simp
        exact hK.out _ _ ⟨u59, u60, u61, u62, u63, u64, .agg #[.bool gck, .slice Ack nck cck], u66, u67, u58, u68, u69, u14, u15, (by simp only [Act.put, List.setIfInBounds_toArray, List.set_cons_zero, List.set_cons_succ]), HB, (fun h => f0 (by simpa using h)), (fun h => f1 (by simpa using h)), (fun h => f2 (by simpa using h)), (fun h => (f3 (by simpa using h))), (fun h => f4 (by simpa using h)), (fun h => f5 (by simpa using h)), (fun _ => rfl), (fun h => (f7 (by simpa using h))), (fun h => f8 (by simpa using h)), (fun h => f9 (by simpa using h)), (fun h => f10 (by simpa using h)), (fun h => f11 (by simpa using h)), (fun h => f14 (by simpa using h)), (fun h => by simpa using (f12 (by simpa using h))), (fun h => by simpa using t0 (by simpa using h))⟩
      · intro d a2 w2 hd hm ⟨u59, u60, u61, u62, u63, u64, u65, u66, u67, u58, u68, u69, u14, u15, e, HB, f0, f1, f2, f3, f4, f5, f6, f7, f8, f9, f10, f11, f14, f12, t0⟩ K hK
        subst e
        simp only [Act.put, List.setIfInBounds_toArray, List.set_cons_zero, List.set_cons_succ]
        obtain rfl := f5 (hm ⟨5, .data⟩ (by simp) rfl)
        clear f5
        obtain rfl := f6 (hm ⟨6, .data⟩ (by simp) rfl)
        clear f6
        go_simp
        (with_reducible refine (rmul_z gd_a gck Ad_a Ack nd_a cd_a nck cck _ (HI.out _ HB).1.den (HI.out _ HB).2 Za.den Zk).mono ?_)
        rintro e w3 ⟨gg, AA, nn, cc, rfl, hi, hb⟩
        have HB3 := HB.trans (hb.mono HB.size)
        go_wp2_with fail
        exact hK.out _ _ ⟨u59, u60, u61, u62, u63, .agg #[.bool gd_a, .slice Ad_a nd_a cd_a], .agg #[.bool gck, .slice Ack nck cck], .agg #[.bool gg, .slice AA nn cc], u67, u58, u68, u69, u14, u15, (by simp only [Act.put, List.setIfInBounds_toArray, List.set_cons_zero, List.set_cons_succ]), HB3, (fun h => f0 (by simpa using h)), (fun h => f1 (by simpa using h)), (fun h => f2 (by simpa using h)), (fun h => (f3 (by simpa using h)).below hb), (fun h => f4 (by simpa using h)), (fun _ => rfl), (fun _ => rfl), (fun _ => ⟨_, _, _, _, rfl, hi⟩), (fun h => f8 (by simpa using h)), (fun h => f9 (by simpa using h)), (fun h => f10 (by simpa using h)), (fun h => f11 (by simpa using h)), (fun h => f14 (by simpa using h)), (fun h => by simpa using (f12 (by simpa using h)).below hb), (fun h => by simpa using t0 (by simpa using h))⟩
      · intro d a2 w2 hd hm ⟨u59, u60, u61, u62, u63, u64, u65, u66, u67, u58, u68, u69, u14, u15, e, HB, f0, f1, f2, f3, f4, f5, f6, f7, f8, f9, f10, f11, f14, f12, t0⟩ K hK
        subst e
        simp only [Act.put, List.setIfInBounds_toArray, List.set_cons_zero, List.set_cons_succ]
        obtain ⟨G3, A3, N3, C3, rfl, I3⟩ := f3 (hm ⟨3, .data⟩ (by simp) rfl)
        obtain ⟨G7, A7, N7, C7, rfl, I7⟩ := f7 (hm ⟨7, .data⟩ (by simp) rfl)
        go_simp
        (with_reducible refine (HOF.out _ _ _ _ _ _ _ _ _ I7).mono ?_)
        rintro e w3 ⟨rfl, hb⟩
        have HB3 := HB.trans (hb.mono HB.size)
        go_wp2_with fail
        exact hK.out _ _ ⟨u59, u60, u61, .agg #[.bool G3, .slice A3 N3 C3], u63, u64, u65, .agg #[.bool G7, .slice A7 N7 C7], .tuple #[.agg #[.bool false, .slice none 0 0, .bool false, .slice none 0 0], .int .i64 3], u58, u68, u69, u14, u15, (by simp only [Act.put, List.setIfInBounds_toArray, List.set_cons_zero, List.set_cons_succ]), HB3, (fun h => f0 (by simpa using h)), (fun h => f1 (by simpa using h)), (fun h => f2 (by simpa using h)), (fun h => (f3 (by simpa using h)).below hb), (fun h => f4 (by simpa using h)), (fun h => f5 (by simpa using h)), (fun h => f6 (by simpa using h)), (fun h => (f7 (by simpa using h)).below hb), (fun _ => rfl), (fun h => f9 (by simpa using h)), (fun h => f10 (by simpa using h)), (fun h => f11 (by simpa using h)), (fun h => f14 (by simpa using h)), (fun h => by simpa using (f12 (by simpa using h)).below hb), (fun h => by simpa using t0 (by simpa using h))⟩
      · intro d a2 w2 hd hm ⟨u59, u60, u61, u62, u63, u64, u65, u66, u67, u58, u68, u69, u14, u15, e, HB, f0, f1, f2, f3, f4, f5, f6, f7, f8, f9, f10, f11, f14, f12, t0⟩ K hK
        subst e
        simp only [Act.put, List.setIfInBounds_toArray, List.set_cons_zero, List.set_cons_succ]
        obtain rfl := f8 (hm ⟨8, .data⟩ (by simp) rfl)
        clear f8
        go_simp
        exact hK.out _ _ ⟨u59, u60, u61, u62, u63, u64, u65, u66, .tuple #[.agg #[.bool false, .slice none 0 0, .bool false, .slice none 0 0], .int .i64 3], .tuple #[.agg #[.bool false, .slice none 0 0, .bool false, .slice none 0 0], .int .i64 3], u68, u69, u14, u15, (by simp only [Act.put, List.setIfInBounds_toArray, List.set_cons_zero, List.set_cons_succ]), HB, (fun h => f0 (by simpa using h)), (fun h => f1 (by simpa using h)), (fun h => f2 (by simpa using h)), (fun h => (f3 (by simpa using h))), (fun h => f4 (by simpa using h)), (fun h => f5 (by simpa using h)), (fun h => f6 (by simpa using h)), (fun h => (f7 (by simpa using h))), (fun _ => rfl), (fun _ => rfl), (fun h => f10 (by simpa using h)), (fun h => f11 (by simpa using h)), (fun h => f14 (by simpa using h)), (fun h => by simpa using (f12 (by simpa using h))), (fun h => by simpa using t0 (by simpa using h))⟩
      · intro d a2 w2 hd hm ⟨u59, u60, u61, u62, u63, u64, u65, u66, u67, u58, u68, u69, u14, u15, e, HB, f0, f1, f2, f3, f4, f5, f6, f7, f8, f9, f10, f11, f14, f12, t0⟩ K hK
        subst e
        simp only [Act.put, List.setIfInBounds_toArray, List.set_cons_zero, List.set_cons_succ]
        obtain rfl := f9 (hm ⟨9, .data⟩ (by simp) rfl)
        clear f9
        go_simp
        exact hK.out _ _ ⟨u59, u60, u61, u62, u63, u64, u65, u66, u67, .tuple #[.agg #[.bool false, .slice none 0 0, .bool false, .slice none 0 0], .int .i64 3], .agg #[.bool false, .slice none 0 0, .bool false, .slice none 0 0], u69, u14, u15, (by simp only [Act.put, List.setIfInBounds_toArray, List.set_cons_zero, List.set_cons_succ]), HB, (fun h => f0 (by simpa using h)), (fun h => f1 (by simpa using h)), (fun h => f2 (by simpa using h)), (fun h => (f3 (by simpa using h))), (fun h => f4 (by simpa using h)), (fun h => f5 (by simpa using h)), (fun h => f6 (by simpa using h)), (fun h => (f7 (by simpa using h))), (fun h => f8 (by simpa using h)), (fun _ => rfl), (fun _ => rfl), (fun h => f11 (by simpa using h)), (fun h => f14 (by simpa using h)), (fun h => by simpa using (f12 (by simpa using h))), (fun h => by simpa using t0 (by simpa using h))⟩
      · intro d a2 w2 hd hm ⟨u59, u60, u61, u62, u63, u64, u65, u66, u67, u58, u68, u69, u14, u15, e, HB, f0, f1, f2, f3, f4, f5, f6, f7, f8, f9, f10, f11, f14, f12, t0⟩ K hK
        subst e
        simp only [Act.put, List.setIfInBounds_toArray, List.set_cons_zero, List.set_cons_succ]
        obtain rfl := f9 (hm ⟨9, .data⟩ (by simp) rfl)
        clear f9
        go_simp
        exact hK.out _ _ ⟨u59, u60, u61, u62, u63, u64, u65, u66, u67, .tuple #[.agg #[.bool false, .slice none 0 0, .bool false, .slice none 0 0], .int .i64 3], u68, .int .i64 3, u14, u15, (by simp only [Act.put, List.setIfInBounds_toArray, List.set_cons_zero, List.set_cons_succ]), HB, (fun h => f0 (by simpa using h)), (fun h => f1 (by simpa using h)), (fun h => f2 (by simpa using h)), (fun h => (f3 (by simpa using h))), (fun h => f4 (by simpa using h)), (fun h => f5 (by simpa using h)), (fun h => f6 (by simpa using h)), (fun h => (f7 (by simpa using h))), (fun h => f8 (by simpa using h)), (fun _ => rfl), (fun h => f10 (by simpa using h)), (fun _ => rfl), (fun h => f14 (by simpa using h)), (fun h => by simpa using (f12 (by simpa using h))), (fun h => by simpa using t0 (by simpa using h))⟩
      · intro d a2 w2 hd hm ⟨u59, u60, u61, u62, u63, u64, u65, u66, u67, u58, u68, u69, u14, u15, e, HB, f0, f1, f2, f3, f4, f5, f6, f7, f8, f9, f10, f11, f14, f12, t0⟩ K hK
        subst e
        simp only [Act.put, List.setIfInBounds_toArray, List.set_cons_zero, List.set_cons_succ]
        have hb : Below w2.heap.size w2 (w2.alloc (.cells #[.bool false, .slice none 0 0, .bool false, .slice none 0 0] 28)) := (Below.refl _ _).alloc (Nat.le_refl _) _
        have HB3 := HB.trans (hb.mono HB.size)
        go_simp
        exact hK.out _ _ ⟨u59, u60, u61, u62, u63, u64, u65, u66, u67, u58, u68, u69, .pointer (some ⟨w2.heap.size, 0, none⟩), u15, (by simp only [Act.put, List.setIfInBounds_toArray, List.set_cons_zero, List.set_cons_succ]), HB3, (fun h => f0 (by simpa using h)), (fun h => f1 (by simpa using h)), (fun h => f2 (by simpa using h)), (fun h => (f3 (by simpa using h)).below hb), (fun h => f4 (by simpa using h)), (fun h => f5 (by simpa using h)), (fun h => f6 (by simpa using h)), (fun h => (f7 (by simpa using h)).below hb), (fun h => f8 (by simpa using h)), (fun h => f9 (by simpa using h)), (fun h => f10 (by simpa using h)), (fun h => f11 (by simpa using h)), (fun h => f14 (by simpa using h)), (fun _ => by simpa using OwnQ.new HB.size (0)), (fun _ => by simp)⟩
      · intro d a2 w2 hd hm ⟨u59, u60, u61, u62, u63, u64, u65, u66, u67, u58, u68, u69, u14, u15, e, HB, f0, f1, f2, f3, f4, f5, f6, f7, f8, f9, f10, f11, f14, f12, t0⟩ K hK
        subst e
        simp only [Act.put, List.setIfInBounds_toArray, List.set_cons_zero, List.set_cons_succ]
        obtain rfl := f10 (hm ⟨10, .data⟩ (by simp) rfl)
        clear f10
        obtain ⟨g, rfl, hg, b0, b1, b2, b3, hs, n0, n1, n2, n3, _⟩ := f12 (hm ⟨12, .data⟩ (by simp) rfl)
        obtain ⟨k0, k1, k2, k3, k4, k5, k6, k7, k8⟩ := id hs
        go_simp
        exact hK.out _ _ ⟨u59, u60, u61, u62, u63, u64, u65, u66, u67, u58, .agg #[.bool false, .slice none 0 0, .bool false, .slice none 0 0], u69, .pointer (some ⟨g, 0, none⟩), u15, (by simp only [Act.put, List.setIfInBounds_toArray, List.set_cons_zero, List.set_cons_succ]), Below.set4 HB hg _ _ _ _, (fun h => f0 (by simpa using h)), (fun h => f1 (by simpa using h)), (fun h => f2 (by simpa using h)), (fun h => (f3 (by simpa using h)).set4 hs n0 n1 n2 n3 _ _ _ _), (fun h => f4 (by simpa using h)), (fun h => f5 (by simpa using h)), (fun h => f6 (by simpa using h)), (fun h => (f7 (by simpa using h)).set4 hs n0 n1 n2 n3 _ _ _ _), (fun h => f8 (by simpa using h)), (fun h => f9 (by simpa using h)), (fun _ => rfl), (fun h => f11 (by simpa using h)), (fun h => f14 (by simpa using h)), (fun _ => by simpa using OwnQ.near0 hg hs n0 n1 n2 n3), (fun _ => by simpa using hm ⟨12, .data⟩ (by simp) rfl)⟩
      · intro d a2 w2 hd hm ⟨u59, u60, u61, u62, u63, u64, u65, u66, u67, u58, u68, u69, u14, u15, e, HB, f0, f1, f2, f3, f4, f5, f6, f7, f8, f9, f10, f11, f14, f12, t0⟩ K hK
        subst e
        simp only [Act.put, List.setIfInBounds_toArray, List.set_cons_zero, List.set_cons_succ]
        obtain rfl := f11 (hm ⟨11, .data⟩ (by simp) rfl)
        clear f11
        go_simp
        exact hK.out _ _ ⟨u59, u60, u61, u62, u63, u64, u65, u66, u67, u58, u68, .int .i64 3, u14, .int .i64 3, (by simp only [Act.put, List.setIfInBounds_toArray, List.set_cons_zero, List.set_cons_succ]), HB, (fun h => f0 (by simpa using h)), (fun h => f1 (by simpa using h)), (fun h => f2 (by simpa using h)), (fun h => (f3 (by simpa using h))), (fun h => f4 (by simpa using h)), (fun h => f5 (by simpa using h)), (fun h => f6 (by simpa using h)), (fun h => (f7 (by simpa using h))), (fun h => f8 (by simpa using h)), (fun h => f9 (by simpa using h)), (fun h => f10 (by simpa using h)), (fun _ => rfl), (fun _ => rfl), (fun h => by simpa using (f12 (by simpa using h))), (fun h => by simpa using t0 (by simpa using h))⟩
    · intro d a2 w2 hall ⟨u59, u60, u61, u62, u63, u64, u65, u66, u67, u58, u68, u69, u14, u15, e, HB, f0, f1, f2, f3, f4, f5, f6, f7, f8, f9, f10, f11, f14, f12, t0⟩
      subst e
      simp only [Act.put, List.setIfInBounds_toArray, List.set_cons_zero, List.set_cons_succ]
      obtain rfl := f0 (hall _ (by decide))
      obtain rfl := f1 (hall _ (by decide))
      obtain rfl := f2 (hall _ (by decide))
      obtain rfl := f4 (hall _ (by decide))
      obtain rfl := f5 (hall _ (by decide))
      obtain rfl := f6 (hall _ (by decide))
      obtain rfl := f8 (hall _ (by decide))
      obtain rfl := f9 (hall _ (by decide))
      obtain rfl := f10 (hall _ (by decide))
      obtain rfl := f11 (hall _ (by decide))
      obtain rfl := f14 (hall _ (by decide))
      obtain ⟨g0, rfl, b0⟩ := OwnQ.ptr (f12 (hall _ (by decide)))
      go_wp2_with fail
      go_ret
      exact ⟨rfl, B.trans (HB.mono B.size)⟩
  · have HOF : Hid (∀ W g A n c g' A' n' c', IsInt W g A n c (a.num * k) → IsInt W g' A' n' c' ((a.den : Int) * k) → Calls Tryz.prog 12 #[.agg #[.bool g, .slice A n c], .agg #[.bool g', .slice A' n' c']] W (RetRatE W a 0)) := fun W g A n c g' A' n' c' h1 h2 => by
      have := qof_z g A n c g' A' n' c' W h1 h2 Z1 Z2 (by decide) (Int.mul_ne_zero (den_ne a) hk)
      rwa [q_ext_k a k hk] at this
    have hk0 : (k == 0) = false := by simpa using hk
    clear hk
    refine wp_region_ev (fun d a0 a' w' => ∃ u59 u60 u61 u62 u63 u64 u65 u66 u67 u58 u68 u69 u14 u15 : Value, a' = ((((((((((((((a0.put (some 59) u59).put (some 60) u60).put (some 61) u61).put (some 62) u62).put (some 63) u63).put (some 64) u64).put (some 65) u65).put (some 66) u66).put (some 67) u67).put (some 58) u58).put (some 68) u68).put (some 69) u69).put (some 14) u14).put (some 15) u15) ∧ Below W4.heap.size W4 w' ∧ (d 0 = true → u59 = .pointer (some ⟨ga, 0, none⟩)) ∧ (d 1 = true → u60 = .agg #[.bool gn_a, .slice An_a nn_a cn_a]) ∧ (d 2 = true → u61 = .agg #[.bool gck, .slice Ack nck cck]) ∧ (d 3 = true → IntV w' u62 (a.num * k)) ∧ (d 4 = true → u63 = .pointer (some ⟨ga, 2, none⟩)) ∧ (d 5 = true → u64 = .agg #[.bool gd_a, .slice Ad_a nd_a cd_a]) ∧ (d 6 = true → u65 = .agg #[.bool gck, .slice Ack nck cck]) ∧ (d 7 = true → IntV w' u66 ((a.den : Int) * k)) ∧ (d 8 = true → TupQ w' u67 (a) (0)) ∧ (d 9 = true → TupQ w' u58 (a) (0)) ∧ (d 10 = true → RatV w' u68 (a)) ∧ (d 11 = true → u69 = .int .i64 0) ∧ (d 14 = true → u15 = .int .i64 0) ∧ (d 12 = true → OwnQ W4.heap.size w' u14 (d 13) (a)) ∧ (d 13 = true → d 12 = true)) (by kernel_rfl) (by kernel_rfl) ?_ ?_ ?_ ?_
    · intro d d' h a' w' hh
      obtain rfl : d = d' := funext h
      exact hh
    · exact ⟨_, _, _, _, _, _, _, _, _, _, _, _, _, _, (by simp only [Act.put, List.setIfInBounds_toArray, List.set_cons_zero, List.set_cons_succ]; rfl), (Below.refl _ _).drew, (fun h => by cases h), (fun h => by cases h), (fun h => by cases h), (fun h => by cases h), (fun h => by cases h), (fun h => by cases h), (fun h => by cases h), (fun h => by cases h), (fun h => by cases h), (fun h => by cases h), (fun h => by cases h), (fun h => by cases h), (fun h => by cases h), (fun h => by cases h), (fun h => by cases h)⟩
    · refine ⟨?_, ?_, ?_, ?_, ?_, ?_, ?_, ?_, ?_, ?_, ?_, ?_, ?_, ?_, ?_, trivial⟩
      · intro d a2 w2 hd hm ⟨u59, u60, u61, u62, u63, u64, u65, u66, u67, u58, u68, u69, u14, u15, e, HB, f0, f1, f2, f3, f4, f5, f6, f7, f8, f9, f10, f11, f14, f12, t0⟩ K hK
        subst e
        simp only [Act.put, List.setIfInBounds_toArray, List.set_cons_zero, List.set_cons_succ]
        go_simp
        exact hK.out _ _ ⟨.pointer (some ⟨ga, 0, none⟩), u60, u61, u62, u63, u64, u65, u66, u67, u58, u68, u69, u14, u15, (by simp only [Act.put, List.setIfInBounds_toArray, List.set_cons_zero, List.set_cons_succ]), HB, (fun _ => rfl), (fun h => f1 (by simpa using h)), (fun h => f2 (by simpa using h)), (fun h => (f3 (by simpa using h))), (fun h => f4 (by simpa using h)), (fun h => f5 (by simpa using h)), (fun h => f6 (by simpa using h)), (fun h => (f7 (by simpa using h))), (fun h => (f8 (by simpa using h))), (fun h => (f9 (by simpa using h))), (fun h => (f10 (by simpa using h))), (fun h => f11 (by simpa using h)), (fun h => f14 (by simpa using h)), (fun h => by simpa using (f12 (by simpa using h))), (fun h => by simpa using t0 (by simpa using h))⟩
      · intro d a2 w2 hd hm ⟨u59, u60, u61, u62, u63, u64, u65, u66, u67, u58, u68, u69, u14, u15, e, HB, f0, f1, f2, f3, f4, f5, f6, f7, f8, f9, f10, f11, f14, f12, t0⟩ K hK
        subst e
        simp only [Act.put, List.setIfInBounds_toArray, List.set_cons_zero, List.set_cons_succ]
        obtain rfl := f0 (hm ⟨0, .data⟩ (by simp) rfl)
        clear f0
        obtain ⟨⟨q0, q1, q2, q3⟩, q4, q5⟩ := HX.out w2 HB
        go_simp
        exact hK.out _ _ ⟨.pointer (some ⟨ga, 0, none⟩), .agg #[.bool gn_a, .slice An_a nn_a cn_a], u61, u62, u63, u64, u65, u66, u67, u58, u68, u69, u14, u15, (by simp only [Act.put, List.setIfInBounds_toArray, List.set_cons_zero, List.set_cons_succ]), HB, (fun _ => rfl), (fun _ => rfl), (fun h => f2 (by simpa using h)), (fun h => (f3 (by simpa using h))), (fun h => f4 (by simpa using h)), (fun h => f5 (by simpa using h)), (fun h => f6 (by simpa using h)), (fun h => (f7 (by simpa using h))), (fun h => (f8 (by simpa using h))), (fun h => (f9 (by simpa using h))), (fun h => (f10 (by simpa using h))), (fun h => f11 (by simpa using h)), (fun h => f14 (by simpa using h)), (fun h => by simpa using (f12 (by simpa using h))), (fun h => by simpa using t0 (by simpa using h))⟩
      · intro d a2 w2 hd hm ⟨u59, u60, u61, u62, u63, u64, u65, u66, u67, u58, u68, u69, u14, u15, e, HB, f0, f1, f2, f3, f4, f5, f6, f7, f8, f9, f10, f11, f14, f12, t0⟩ K hK
        subst e
        simp only [Act.put, List.setIfInBounds_toArray, List.set_cons_zero, List.set_cons_succ]
        obtain ⟨⟨q0, q1, q2, q3⟩, q4, q5⟩ := HX.out w2 HB
        go_simp
        exact hK.out _ _ ⟨u59, u60, .agg #[.bool gck, .slice Ack nck cck], u62, u63, u64, u65, u66, u67, u58, u68, u69, u14, u15, (by simp only [Act.put, List.setIfInBounds_toArray, List.set_cons_zero, List.set_cons_succ]), HB, (fun h => f0 (by simpa using h)), (fun h => f1 (by simpa using h)), (fun _ => rfl), (fun h => (f3 (by simpa using h))), (fun h => f4 (by simpa using h)), (fun h => f5 (by simpa using h)), (fun h => f6 (by simpa using h)), (fun h => (f7 (by simpa using h))), (fun h => (f8 (by simpa using h))), (fun h => (f9 (by simpa using h))), (fun h => (f10 (by simpa using h))), (fun h => f11 (by simpa using h)), (fun h => f14 (by simpa using h)), (fun h => by simpa using (f12 (by simpa using h))), (fun h => by simpa using t0 (by simpa using h))⟩
      · intro d a2 w2 hd hm ⟨u59, u60, u61, u62, u63, u64, u65, u66, u67, u58, u68, u69, u14, u15, e, HB, f0, f1, f2, f3, f4, f5, f6, f7, f8, f9, f10, f11, f14, f12, t0⟩ K hK
        subst e
        simp only [Act.put, List.setIfInBounds_toArray, List.set_cons_zero, List.set_cons_succ]
        obtain rfl := f1 (hm ⟨1, .data⟩ (by simp) rfl)
        clear f1
        obtain rfl := f2 (hm ⟨2, .data⟩ (by simp) rfl)
        clear f2
        go_simp
        (with_reducible refine (rmul_z gn_a gck An_a Ack nn_a cn_a nck cck _ (HI.out _ HB).1.num (HI.out _ HB).2 Za.num Zk).mono ?_)
        rintro e w3 ⟨gg, AA, nn, cc, rfl, hi, hb⟩
        have HB3 := HB.trans (hb.mono HB.size)
        go_wp2_with fail
        exact hK.out _ _ ⟨u59, .agg #[.bool gn_a, .slice An_a nn_a cn_a], .agg #[.bool gck, .slice Ack nck cck], .agg #[.bool gg, .slice AA nn cc], u63, u64, u65, u66, u67, u58, u68, u69, u14, u15, (by simp only [Act.put, List.setIfInBounds_toArray, List.set_cons_zero, List.set_cons_succ]), HB3, (fun h => f0 (by simpa using h)), (fun _ => rfl), (fun _ => rfl), (fun _ => ⟨_, _, _, _, rfl, hi⟩), (fun h => f4 (by simpa using h)), (fun h => f5 (by simpa using h)), (fun h => f6 (by simpa using h)), (fun h => (f7 (by simpa using h)).below hb), (fun h => (f8 (by simpa using h)).below hb), (fun h => (f9 (by simpa using h)).below hb), (fun h => (f10 (by simpa using h)).below hb), (fun h => f11 (by simpa using h)), (fun h => f14 (by simpa using h)), (fun h => by simpa using (f12 (by simpa using h)).below hb), (fun h => by simpa using t0 (by simpa using h))⟩
      · intro d a2 w2 hd hm ⟨u59, u60, u61, u62, u63, u64, u65, u66, u67, u58, u68, u69, u14, u15, e, HB, f0, f1, f2, f3, f4, f5, f6, f7, f8, f9, f10, f11, f14, f12, t0⟩ K hK
        subst e
        simp only [Act.put, List.setIfInBounds_toArray, List.set_cons_zero, List.set_cons_succ]
        go_simp
        exact hK.out _ _ ⟨u59, u60, u61, u62, .pointer (some ⟨ga, 2, none⟩), u64, u65, u66, u67, u58, u68, u69, u14, u15, (by simp only [Act.put, List.setIfInBounds_toArray, List.set_cons_zero, List.set_cons_succ]), HB, (fun h => f0 (by simpa using h)), (fun h => f1 (by simpa using h)), (fun h => f2 (by simpa using h)), (fun h => (f3 (by simpa using h))), (fun _ => rfl), (fun h => f5 (by simpa using h)), (fun h => f6 (by simpa using h)), (fun h => (f7 (by simpa using h))), (fun h => (f8 (by simpa using h))), (fun h => (f9 (by simpa using h))), (fun h => (f10 (by simpa using h))), (fun h => f11 (by simpa using h)), (fun h => f14 (by simpa using h)), (fun h => by simpa using (f12 (by simpa using h))), (fun h => by simpa using t0 (by simpa using h))⟩
      · intro d a2 w2 hd hm ⟨u59, u60, u61, u62, u63, u64, u65, u66, u67, u58, u68, u69, u14, u15, e, HB, f0, f1, f2, f3, f4, f5, f6, f7, f8, f9, f10, f11, f14, f12, t0⟩ K hK
        subst e
        simp only [Act.put, List.setIfInBounds_toArray, List.set_cons_zero, List.set_cons_succ]
        obtain rfl := f4 (hm ⟨4, .data⟩ (by simp) rfl)
        clear f4
        obtain ⟨⟨q0, q1, q2, q3⟩, q4, q5⟩ := HX.out w2 HB
        go_simp
        exact hK.out _ _ ⟨u59, u60, u61, u62, .pointer (some ⟨ga, 2, none⟩), .agg #[.bool gd_a, .slice Ad_a nd_a cd_a], u65, u66, u67, u58, u68, u69, u14, u15, (by simp only [Act.put, List.setIfInBounds_toArray, List.set_cons_zero, List.set_cons_succ]), HB, (fun h => f0 (by simpa using h)), (fun h => f1 (by simpa using h)), (fun h => f2 (by simpa using h)), (fun h => (f3 (by simpa using h))), (fun _ => rfl), (fun _ => rfl), (fun h => f6 (by simpa using h)), (fun h => (f7 (by simpa using h))), (fun h => (f8 (by simpa using h))), (fun h => (f9 (by simpa using h))), (fun h => (f10 (by simpa using h))), (fun h => f11 (by simpa using h)), (fun h => f14 (by simpa using h)), (fun h => by simpa using (f12 (by simpa using h))), (fun h => by simpa using t0 (by simpa using h))⟩
      · intro d a2 w2 hd hm ⟨u59, u60, u61, u62, u63, u64, u65, u66, u67, u58, u68, u69, u14, u15, e, HB, f0, f1, f2, f3, f4, f5, f6, f7, f8, f9, f10, f11, f14, f12, t0⟩ K hK
        subst e
        simp only [Act.put, List.setIfInBounds_toArray, List.set_cons_zero, List.set_cons_succ]
        obtain ⟨⟨q0, q1, q2, q3⟩, q4, q5⟩ := HX.out w2 HB
        go_simp
        exact hK.out _ _ ⟨u59, u60, u61, u62, u63, u64, .agg #[.bool gck, .slice Ack nck cck], u66, u67, u58, u68, u69, u14, u15, (by simp only [Act.put, List.setIfInBounds_toArray, List.set_cons_zero, List.set_cons_succ]), HB, (fun h => f0 (by simpa using h)), (fun h => f1 (by simpa using h)), (fun h => f2 (by simpa using h)), (fun h => (f3 (by simpa using h))), (fun h => f4 (by simpa using h)), (fun h => f5 (by simpa using h)), (fun _ => rfl), (fun h => (f7 (by simpa using h))), (fun h => (f8 (by simpa using h))), (fun h => (f9 (by simpa using h))), (fun h => (f10 (by simpa using h))), (fun h => f11 (by simpa using h)), (fun h => f14 (by simpa using h)), (fun h => by simpa using (f12 (by simpa using h))), (fun h => by simpa using t0 (by simpa using h))⟩
      · intro d a2 w2 hd hm ⟨u59, u60, u61, u62, u63, u64, u65, u66, u67, u58, u68, u69, u14, u15, e, HB, f0, f1, f2, f3, f4, f5, f6, f7, f8, f9, f10, f11, f14, f12, t0⟩ K hK
        subst e
        simp only [Act.put, List.setIfInBounds_toArray, List.set_cons_zero, List.set_cons_succ]
        obtain rfl := f5 (hm ⟨5, .data⟩ (by simp) rfl)
        clear f5
        obtain rfl := f6 (hm ⟨6, .data⟩ (by simp) rfl)
        clear f6
        go_simp
        (with_reducible refine (rmul_z gd_a gck Ad_a Ack nd_a cd_a nck cck _ (HI.out _ HB).1.den (HI.out _ HB).2 Za.den Zk).mono ?_)
        rintro e w3 ⟨gg, AA, nn, cc, rfl, hi, hb⟩
        have HB3 := HB.trans (hb.mono HB.size)
        go_wp2_with fail
        exact hK.out _ _ ⟨u59, u60, u61, u62, u63, .agg #[.bool gd_a, .slice Ad_a nd_a cd_a], .agg #[.bool gck, .slice Ack nck cck], .agg #[.bool gg, .slice AA nn cc], u67, u58, u68, u69, u14, u15, (by simp only [Act.put, List.setIfInBounds_toArray, List.set_cons_zero, List.set_cons_succ]), HB3, (fun h => f0 (by simpa using h)), (fun h => f1 (by simpa using h)), (fun h => f2 (by simpa using h)), (fun h => (f3 (by simpa using h)).below hb), (fun h => f4 (by simpa using h)), (fun _ => rfl), (fun _ => rfl), (fun _ => ⟨_, _, _, _, rfl, hi⟩), (fun h => (f8 (by simpa using h)).below hb), (fun h => (f9 (by simpa using h)).below hb), (fun h => (f10 (by simpa using h)).below hb), (fun h => f11 (by simpa using h)), (fun h => f14 (by simpa using h)), (fun h => by simpa using (f12 (by simpa using h)).below hb), (fun h => by simpa using t0 (by simpa using h))⟩
      · intro d a2 w2 hd hm ⟨u59, u60, u61, u62, u63, u64, u65, u66, u67, u58, u68, u69, u14, u15, e, HB, f0, f1, f2, f3, f4, f5, f6, f7, f8, f9, f10, f11, f14, f12, t0⟩ K hK
        subst e
        simp only [Act.put, List.setIfInBounds_toArray, List.set_cons_zero, List.set_cons_succ]
        obtain ⟨G3, A3, N3, C3, rfl, I3⟩ := f3 (hm ⟨3, .data⟩ (by simp) rfl)
        obtain ⟨G7, A7, N7, C7, rfl, I7⟩ := f7 (hm ⟨7, .data⟩ (by simp) rfl)
        go_simp
        (with_reducible refine (HOF.out _ _ _ _ _ _ _ _ _ I3 I7).mono ?_)
        rintro e w3 ⟨g1, A1', n1', c1', g2, A2', n2', c2', rfl, hi, hb⟩
        have HB3 := HB.trans (hb.mono HB.size)
        go_wp2_with fail
        exact hK.out _ _ ⟨u59, u60, u61, .agg #[.bool G3, .slice A3 N3 C3], u63, u64, u65, .agg #[.bool G7, .slice A7 N7 C7], .tuple #[.agg #[.bool g1, .slice A1' n1' c1', .bool g2, .slice A2' n2' c2'], .int .i64 (0)], u58, u68, u69, u14, u15, (by simp only [Act.put, List.setIfInBounds_toArray, List.set_cons_zero, List.set_cons_succ]), HB3, (fun h => f0 (by simpa using h)), (fun h => f1 (by simpa using h)), (fun h => f2 (by simpa using h)), (fun h => (f3 (by simpa using h)).below hb), (fun h => f4 (by simpa using h)), (fun h => f5 (by simpa using h)), (fun h => f6 (by simpa using h)), (fun h => (f7 (by simpa using h)).below hb), (fun _ => ⟨_, rfl, ⟨_, _, _, _, _, _, _, _, rfl, hi⟩⟩), (fun h => (f9 (by simpa using h)).below hb), (fun h => (f10 (by simpa using h)).below hb), (fun h => f11 (by simpa using h)), (fun h => f14 (by simpa using h)), (fun h => by simpa using (f12 (by simpa using h)).below hb), (fun h => by simpa using t0 (by simpa using h))⟩
      · intro d a2 w2 hd hm ⟨u59, u60, u61, u62, u63, u64, u65, u66, u67, u58, u68, u69, u14, u15, e, HB, f0, f1, f2, f3, f4, f5, f6, f7, f8, f9, f10, f11, f14, f12, t0⟩ K hK
        subst e
        simp only [Act.put, List.setIfInBounds_toArray, List.set_cons_zero, List.set_cons_succ]
        obtain ⟨V8, rfl, I8⟩ := f8 (hm ⟨8, .data⟩ (by simp) rfl)
        go_simp
        exact hK.out _ _ ⟨u59, u60, u61, u62, u63, u64, u65, u66, .tuple #[V8, .int .i64 (0)], .tuple #[V8, .int .i64 (0)], u68, u69, u14, u15, (by simp only [Act.put, List.setIfInBounds_toArray, List.set_cons_zero, List.set_cons_succ]), HB, (fun h => f0 (by simpa using h)), (fun h => f1 (by simpa using h)), (fun h => f2 (by simpa using h)), (fun h => (f3 (by simpa using h))), (fun h => f4 (by simpa using h)), (fun h => f5 (by simpa using h)), (fun h => f6 (by simpa using h)), (fun h => (f7 (by simpa using h))), (fun h => (f8 (by simpa using h))), (fun _ => ⟨V8, rfl, I8⟩), (fun h => (f10 (by simpa using h))), (fun h => f11 (by simpa using h)), (fun h => f14 (by simpa using h)), (fun h => by simpa using (f12 (by simpa using h))), (fun h => by simpa using t0 (by simpa using h))⟩
      · intro d a2 w2 hd hm ⟨u59, u60, u61, u62, u63, u64, u65, u66, u67, u58, u68, u69, u14, u15, e, HB, f0, f1, f2, f3, f4, f5, f6, f7, f8, f9, f10, f11, f14, f12, t0⟩ K hK
        subst e
        simp only [Act.put, List.setIfInBounds_toArray, List.set_cons_zero, List.set_cons_succ]
        obtain ⟨V9, rfl, I9⟩ := f9 (hm ⟨9, .data⟩ (by simp) rfl)
        go_simp
        exact hK.out _ _ ⟨u59, u60, u61, u62, u63, u64, u65, u66, u67, .tuple #[V9, .int .i64 (0)], V9, u69, u14, u15, (by simp only [Act.put, List.setIfInBounds_toArray, List.set_cons_zero, List.set_cons_succ]), HB, (fun h => f0 (by simpa using h)), (fun h => f1 (by simpa using h)), (fun h => f2 (by simpa using h)), (fun h => (f3 (by simpa using h))), (fun h => f4 (by simpa using h)), (fun h => f5 (by simpa using h)), (fun h => f6 (by simpa using h)), (fun h => (f7 (by simpa using h))), (fun h => (f8 (by simpa using h))), (fun h => (f9 (by simpa using h))), (fun _ => I9), (fun h => f11 (by simpa using h)), (fun h => f14 (by simpa using h)), (fun h => by simpa using (f12 (by simpa using h))), (fun h => by simpa using t0 (by simpa using h))⟩
      · intro d a2 w2 hd hm ⟨u59, u60, u61, u62, u63, u64, u65, u66, u67, u58, u68, u69, u14, u15, e, HB, f0, f1, f2, f3, f4, f5, f6, f7, f8, f9, f10, f11, f14, f12, t0⟩ K hK
        subst e
        simp only [Act.put, List.setIfInBounds_toArray, List.set_cons_zero, List.set_cons_succ]
        obtain ⟨V9, rfl, I9⟩ := f9 (hm ⟨9, .data⟩ (by simp) rfl)
        go_simp
        exact hK.out _ _ ⟨u59, u60, u61, u62, u63, u64, u65, u66, u67, .tuple #[V9, .int .i64 (0)], u68, .int .i64 0, u14, u15, (by simp only [Act.put, List.setIfInBounds_toArray, List.set_cons_zero, List.set_cons_succ]), HB, (fun h => f0 (by simpa using h)), (fun h => f1 (by simpa using h)), (fun h => f2 (by simpa using h)), (fun h => (f3 (by simpa using h))), (fun h => f4 (by simpa using h)), (fun h => f5 (by simpa using h)), (fun h => f6 (by simpa using h)), (fun h => (f7 (by simpa using h))), (fun h => (f8 (by simpa using h))), (fun h => (f9 (by simpa using h))), (fun h => (f10 (by simpa using h))), (fun _ => rfl), (fun h => f14 (by simpa using h)), (fun h => by simpa using (f12 (by simpa using h))), (fun h => by simpa using t0 (by simpa using h))⟩
      · intro d a2 w2 hd hm ⟨u59, u60, u61, u62, u63, u64, u65, u66, u67, u58, u68, u69, u14, u15, e, HB, f0, f1, f2, f3, f4, f5, f6, f7, f8, f9, f10, f11, f14, f12, t0⟩ K hK
        subst e
        simp only [Act.put, List.setIfInBounds_toArray, List.set_cons_zero, List.set_cons_succ]
        have hb : Below w2.heap.size w2 (w2.alloc (.cells #[.bool false, .slice none 0 0, .bool false, .slice none 0 0] 28)) := (Below.refl _ _).alloc (Nat.le_refl _) _
        have HB3 := HB.trans (hb.mono HB.size)
        go_simp
        exact hK.out _ _ ⟨u59, u60, u61, u62, u63, u64, u65, u66, u67, u58, u68, u69, .pointer (some ⟨w2.heap.size, 0, none⟩), u15, (by simp only [Act.put, List.setIfInBounds_toArray, List.set_cons_zero, List.set_cons_succ]), HB3, (fun h => f0 (by simpa using h)), (fun h => f1 (by simpa using h)), (fun h => f2 (by simpa using h)), (fun h => (f3 (by simpa using h)).below hb), (fun h => f4 (by simpa using h)), (fun h => f5 (by simpa using h)), (fun h => f6 (by simpa using h)), (fun h => (f7 (by simpa using h)).below hb), (fun h => (f8 (by simpa using h)).below hb), (fun h => (f9 (by simpa using h)).below hb), (fun h => (f10 (by simpa using h)).below hb), (fun h => f11 (by simpa using h)), (fun h => f14 (by simpa using h)), (fun _ => by have hs : d 13 = false := (by cases hq : d 13 with | false => rfl | true => (have hz := t0 hq; rw [hd] at hz; cases hz)); simpa [hs] using OwnQ.new HB.size (a)), (fun _ => by simp)⟩
      · intro d a2 w2 hd hm ⟨u59, u60, u61, u62, u63, u64, u65, u66, u67, u58, u68, u69, u14, u15, e, HB, f0, f1, f2, f3, f4, f5, f6, f7, f8, f9, f10, f11, f14, f12, t0⟩ K hK
        subst e
        simp only [Act.put, List.setIfInBounds_toArray, List.set_cons_zero, List.set_cons_succ]
        obtain ⟨gg, AA, nn, cc, gg', AA', nn', cc', rfl, hi⟩ := f10 (hm ⟨10, .data⟩ (by simp) rfl)
        obtain ⟨g, rfl, hg, b0, b1, b2, b3, hs, n0, n1, n2, n3, _⟩ := f12 (hm ⟨12, .data⟩ (by simp) rfl)
        obtain ⟨k0, k1, k2, k3, k4, k5, k6, k7, k8⟩ := id hs
        go_simp
        exact hK.out _ _ ⟨u59, u60, u61, u62, u63, u64, u65, u66, u67, u58, .agg #[.bool gg, .slice AA nn cc, .bool gg', .slice AA' nn' cc'], u69, .pointer (some ⟨g, 0, none⟩), u15, (by simp only [Act.put, List.setIfInBounds_toArray, List.set_cons_zero, List.set_cons_succ]), Below.set4 HB hg _ _ _ _, (fun h => f0 (by simpa using h)), (fun h => f1 (by simpa using h)), (fun h => f2 (by simpa using h)), (fun h => (f3 (by simpa using h)).set4 hs n0 n1 n2 n3 _ _ _ _), (fun h => f4 (by simpa using h)), (fun h => f5 (by simpa using h)), (fun h => f6 (by simpa using h)), (fun h => (f7 (by simpa using h)).set4 hs n0 n1 n2 n3 _ _ _ _), (fun h => (f8 (by simpa using h)).set4 hs n0 n1 n2 n3 _ _ _ _), (fun h => (f9 (by simpa using h)).set4 hs n0 n1 n2 n3 _ _ _ _), (fun h => (f10 (by simpa using h)).set4 hs n0 n1 n2 n3 _ _ _ _), (fun h => f11 (by simpa using h)), (fun h => f14 (by simpa using h)), (fun _ => by simpa using OwnQ.near hi hg hs n0 n1 n2 n3), (fun _ => by simpa using hm ⟨12, .data⟩ (by simp) rfl)⟩
      · intro d a2 w2 hd hm ⟨u59, u60, u61, u62, u63, u64, u65, u66, u67, u58, u68, u69, u14, u15, e, HB, f0, f1, f2, f3, f4, f5, f6, f7, f8, f9, f10, f11, f14, f12, t0⟩ K hK
        subst e
        simp only [Act.put, List.setIfInBounds_toArray, List.set_cons_zero, List.set_cons_succ]
        obtain rfl := f11 (hm ⟨11, .data⟩ (by simp) rfl)
        clear f11
        go_simp
        exact hK.out _ _ ⟨u59, u60, u61, u62, u63, u64, u65, u66, u67, u58, u68, .int .i64 0, u14, .int .i64 0, (by simp only [Act.put, List.setIfInBounds_toArray, List.set_cons_zero, List.set_cons_succ]), HB, (fun h => f0 (by simpa using h)), (fun h => f1 (by simpa using h)), (fun h => f2 (by simpa using h)), (fun h => (f3 (by simpa using h))), (fun h => f4 (by simpa using h)), (fun h => f5 (by simpa using h)), (fun h => f6 (by simpa using h)), (fun h => (f7 (by simpa using h))), (fun h => (f8 (by simpa using h))), (fun h => (f9 (by simpa using h))), (fun h => (f10 (by simpa using h))), (fun _ => rfl), (fun _ => rfl), (fun h => by simpa using (f12 (by simpa using h))), (fun h => by simpa using t0 (by simpa using h))⟩
    · intro d a2 w2 hall ⟨u59, u60, u61, u62, u63, u64, u65, u66, u67, u58, u68, u69, u14, u15, e, HB, f0, f1, f2, f3, f4, f5, f6, f7, f8, f9, f10, f11, f14, f12, t0⟩
      subst e
      simp only [Act.put, List.setIfInBounds_toArray, List.set_cons_zero, List.set_cons_succ]
      obtain rfl := f0 (hall _ (by decide))
      obtain rfl := f1 (hall _ (by decide))
      obtain rfl := f2 (hall _ (by decide))
      obtain rfl := f4 (hall _ (by decide))
      obtain rfl := f5 (hall _ (by decide))
      obtain rfl := f6 (hall _ (by decide))
      obtain rfl := f11 (hall _ (by decide))
      obtain rfl := f14 (hall _ (by decide))
      obtain ⟨g0, rfl, h0, b0⟩ := OwnQ.ratAtB (by have := f12 (hall _ (by decide)); rwa [hall 13 (by decide)] at this)
      obtain ⟨gn_d, An_d, nn_d, cn_d, gd_d, Ad_d, nd_d, cd_d, Sd, Id⟩ := h0
      have Ja := Ia.below HB
      have ⟨x0, x1, x2, x3, _⟩ := Sa.after HB
      have ⟨y0, y1, y2, y3, _⟩ := Sd
      go_wp2_with fail
      (with_reducible refine (rqsame_z gn_d An_d nn_d cn_d gd_d Ad_d nd_d cd_d gn_a An_a nn_a cn_a gd_a Ad_a nd_a cd_a _ Id Ja rfl).mono ?_)
      rintro e w9 ⟨rfl, b9⟩
      go_wp2
      go_ret
      exact ⟨rfl, (B.trans (HB.mono B.size)).trans (b9.mono (B.trans (HB.mono B.size)).size)⟩
end Go.Proofs.YtlpoboikompjfaaGreatDoor
