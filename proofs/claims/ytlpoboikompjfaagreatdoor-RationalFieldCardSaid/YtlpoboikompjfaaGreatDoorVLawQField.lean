/- The walk of the law RationalField, given what its fixed examples return. -/
import Derived.Test.YtlpoboikompjfaaGreatDoorVG28RatT
import Derived.Test.YtlpoboikompjfaaGreatDoorVRefFrom
import Derived.Test.YtlpoboikompjfaaGreatDoorVRaw3
import Derived.Deep.DeepCutAuto
namespace Go.Proofs.YtlpoboikompjfaaGreatDoor
open Go.RowKit
theorem z_add (a : Rat) : a + ((0 : Int) : Rat) = a := Rat.add_zero a
theorem z_neg (a : Rat) : a + -a = ((0 : Int) : Rat) := Rat.add_neg_cancel a
theorem z_mul (a : Rat) : a * ((1 : Int) : Rat) = a := Rat.mul_one a

set_option maxRecDepth 1000000 in
set_option maxHeartbeats 8000000 in
theorem qfield_walk (HS : SanQ) (A1 E1 : Option Addr) (n1 c1 m1 d1 : Nat) (s1 : Bool) (xs1 ys1 : List Nat) (A2 E2 : Option Addr) (n2 c2 m2 d2 : Nat) (s2 : Bool) (xs2 ys2 : List Nat) (A3 E3 : Option Addr) (n3 c3 m3 d3 : Nat) (s3 : Bool) (xs3 ys3 : List Nat) (w : World) (hx1 : Lim w w.heap.size A1 n1 c1 xs1) (hy1 : Lim w w.heap.size E1 m1 d1 ys1) (hx2 : Lim w w.heap.size A2 n2 c2 xs2) (hy2 : Lim w w.heap.size E2 m2 d2 ys2) (hx3 : Lim w w.heap.size A3 n3 c3 xs3) (hy3 : Lim w w.heap.size E3 m3 d3 ys3) :
    Calls Tryz.prog 4 #[.agg #[.slice A1 n1 c1, .slice E1 m1 d1, .bool s1], .agg #[.slice A2 n2 c2, .slice E2 m2 d2, .bool s2], .agg #[.slice A3 n3 c3, .slice E3 m3 d3, .bool s3]] w fun e w' => e = .returned (.bool true) ∧ Below w.heap.size w w' := by
  have HS' := Lib.hid HS
  clear HS
  have HM1 : Hid (∀ W, Below w.heap.size w W → Calls Tryz.prog 11 #[.agg #[.slice A1 n1 c1, .slice E1 m1 d1, .bool s1]] W (RetRat W (rawQ s1 xs1 ys1))) := fun W hW => rqfrom_z A1 E1 n1 c1 m1 d1 s1 w.heap.size xs1 ys1 W (hx1.below hW) (hy1.below hW) hW.size
  have Za := RSz.raw s1 xs1 ys1 hx1.lt hy1.lt
  have HM2 : Hid (∀ W, Below w.heap.size w W → Calls Tryz.prog 11 #[.agg #[.slice A2 n2 c2, .slice E2 m2 d2, .bool s2]] W (RetRat W (rawQ s2 xs2 ys2))) := fun W hW => rqfrom_z A2 E2 n2 c2 m2 d2 s2 w.heap.size xs2 ys2 W (hx2.below hW) (hy2.below hW) hW.size
  have Zb := RSz.raw s2 xs2 ys2 hx2.lt hy2.lt
  have HM3 : Hid (∀ W, Below w.heap.size w W → Calls Tryz.prog 11 #[.agg #[.slice A3 n3 c3, .slice E3 m3 d3, .bool s3]] W (RetRat W (rawQ s3 xs3 ys3))) := fun W hW => rqfrom_z A3 E3 n3 c3 m3 d3 s3 w.heap.size xs3 ys3 W (hx3.below hW) (hy3.below hW) hW.size
  have Zc := RSz.raw s3 xs3 ys3 hx3.lt hy3.lt
  generalize rawQ s1 xs1 ys1 = a at *
  generalize rawQ s2 xs2 ys2 = b at *
  generalize rawQ s3 xs3 ys3 = c at *
  clear hx1 hy1 hx2 hy2 hx3 hy3
  have b0 := (Below.refl w.heap.size w)
  have b1 := b0.alloc b0.size (.cells #[.slice A1 n1 c1, .slice E1 m1 d1, .bool s1] 24)
  have b2 := b1.alloc b1.size (.cells #[.slice A2 n2 c2, .slice E2 m2 d2, .bool s2] 24)
  have b3 := b2.alloc b2.size (.cells #[.slice A3 n3 c3, .slice E3 m3 d3, .bool s3] 24)
  have X1 := Slot3.new w (.slice A1 n1 c1) (.slice E1 m1 d1) (.bool s1) 24
  replace X1 := X1.alloc (.cells #[.slice A2 n2 c2, .slice E2 m2 d2, .bool s2] 24)
  replace X1 := X1.alloc (.cells #[.slice A3 n3 c3, .slice E3 m3 d3, .bool s3] 24)
  have X2 := Slot3.new (w.alloc (.cells #[.slice A1 n1 c1, .slice E1 m1 d1, .bool s1] 24)) (.slice A2 n2 c2) (.slice E2 m2 d2) (.bool s2) 24
  simp only [World.size_alloc] at X2
  replace X2 := X2.alloc (.cells #[.slice A3 n3 c3, .slice E3 m3 d3, .bool s3] 24)
  have X3 := Slot3.new ((w.alloc (.cells #[.slice A1 n1 c1, .slice E1 m1 d1, .bool s1] 24)).alloc (.cells #[.slice A2 n2 c2, .slice E2 m2 d2, .bool s2] 24)) (.slice A3 n3 c3) (.slice E3 m3 d3) (.bool s3) 24
  simp only [World.size_alloc] at X3
  go_enter Tryz.func4, Tryz.ntmps4
  generalize hW : ((w.alloc (.cells #[.slice A1 n1 c1, .slice E1 m1 d1, .bool s1] 24)).alloc (.cells #[.slice A2 n2 c2, .slice E2 m2 d2, .bool s2] 24)).alloc (.cells #[.slice A3 n3 c3, .slice E3 m3 d3, .bool s3] 24) = W0 at *
  go_wp2_with fail
  try rw [hW]
  clear hW
  refine (HS'.out _).mono ?_
  rintro e W1 ⟨rfl, hb1⟩
  have B1 := b3.trans (hb1.mono b3.size)
  replace X1 := X1.after hb1
  replace X2 := X2.after hb1
  replace X3 := X3.after hb1
  have HX : Hid (∀ V, Below W1.heap.size W1 V → (V.cell? ⟨w.heap.size, 0, none⟩ = some (.slice A1 n1 c1) ∧ V.cell? ⟨w.heap.size, 1, none⟩ = some (.slice E1 m1 d1) ∧ V.cell? ⟨w.heap.size, 2, none⟩ = some (.bool s1)) ∧ (V.cell? ⟨w.heap.size + 1, 0, none⟩ = some (.slice A2 n2 c2) ∧ V.cell? ⟨w.heap.size + 1, 1, none⟩ = some (.slice E2 m2 d2) ∧ V.cell? ⟨w.heap.size + 1, 2, none⟩ = some (.bool s2)) ∧ (V.cell? ⟨w.heap.size + 1 + 1, 0, none⟩ = some (.slice A3 n3 c3) ∧ V.cell? ⟨w.heap.size + 1 + 1, 1, none⟩ = some (.slice E3 m3 d3) ∧ V.cell? ⟨w.heap.size + 1 + 1, 2, none⟩ = some (.bool s3))) := fun V hV => ⟨(X1.after hV).cells, (X2.after hV).cells, (X3.after hV).cells⟩
  clear X1 X2 X3 b0 b1 b2 b3 hb1
  go_upto_region 2 with (fail)
  go_cut [8, 9, 10] (fun p0 p1 p2 wx => ∃ ga gb gc, p0 = .pointer (some ⟨ga, 0, none⟩) ∧ p1 = .pointer (some ⟨gb, 0, none⟩) ∧ p2 = .pointer (some ⟨gc, 0, none⟩) ∧ RatAt wx ga a ∧ RatAt wx gb b ∧ RatAt wx gc c ∧ Below w.heap.size w wx)
  case first =>
    as_aux_lemma =>
      refine wp_region_ev (fun d a0 a' w' => ∃ u20 u21 u22 u23 u24 u25 u8 u9 u10 : Value, a' = (((((((((a0.put (some 20) u20).put (some 21) u21).put (some 22) u22).put (some 23) u23).put (some 24) u24).put (some 25) u25).put (some 8) u8).put (some 9) u9).put (some 10) u10) ∧ Below W1.heap.size W1 w' ∧ (d 0 = true → u20 = .agg #[.slice A1 n1 c1, .slice E1 m1 d1, .bool s1]) ∧ (d 1 = true → RatV w' u21 (a)) ∧ (d 2 = true → u22 = .agg #[.slice A2 n2 c2, .slice E2 m2 d2, .bool s2]) ∧ (d 3 = true → RatV w' u23 (b)) ∧ (d 4 = true → u24 = .agg #[.slice A3 n3 c3, .slice E3 m3 d3, .bool s3]) ∧ (d 5 = true → RatV w' u25 (c)) ∧ (d 6 = true → OwnQ W1.heap.size w' u8 (d 9) (a)) ∧ (d 7 = true → OwnQ W1.heap.size w' u9 (d 10) (b)) ∧ (d 8 = true → OwnQ W1.heap.size w' u10 (d 11) (c)) ∧ (d 6 = true → d 7 = true → u8 ≠ u9) ∧ (d 6 = true → d 8 = true → u8 ≠ u10) ∧ (d 7 = true → d 8 = true → u9 ≠ u10) ∧ (d 9 = true → d 6 = true) ∧ (d 10 = true → d 7 = true) ∧ (d 11 = true → d 8 = true)) (by kernel_rfl) (by kernel_rfl) ?_ ?_ ?_ ?_
      · intro d d' h a' w' hh
        obtain rfl : d = d' := funext h
        exact hh
      · exact ⟨_, _, _, _, _, _, _, _, _, (by simp only [Act.put, List.setIfInBounds_toArray, List.set_cons_zero, List.set_cons_succ]; rfl), (Below.refl _ _).drew, (fun h => by cases h), (fun h => by cases h), (fun h => by cases h), (fun h => by cases h), (fun h => by cases h), (fun h => by cases h), (fun h => by cases h), (fun h => by cases h), (fun h => by cases h), (fun h => by cases h), (fun h => by cases h), (fun h => by cases h), (fun h => by cases h), (fun h => by cases h), (fun h => by cases h)⟩
      · refine ⟨?_, ?_, ?_, ?_, ?_, ?_, ?_, ?_, ?_, ?_, ?_, ?_, trivial⟩
        · intro d a2 w2 hd hm ⟨u20, u21, u22, u23, u24, u25, u8, u9, u10, e, HB, f0, f1, f2, f3, f4, f5, f6, f7, f8, n01, n02, n12, t0, t1, t2⟩ K hK
          subst e
          simp only [Act.put, List.setIfInBounds_toArray, List.set_cons_zero, List.set_cons_succ]
          obtain ⟨⟨q0, q1, q2⟩, ⟨q3, q4, q5⟩, ⟨q6, q7, q8⟩⟩ := HX.out w2 HB
          go_simp
          exact hK.out _ _ ⟨.agg #[.slice A1 n1 c1, .slice E1 m1 d1, .bool s1], u21, u22, u23, u24, u25, u8, u9, u10, (by simp only [Act.put, List.setIfInBounds_toArray, List.set_cons_zero, List.set_cons_succ]), HB, (fun _ => rfl), (fun h => (f1 (by simpa using h))), (fun h => f2 (by simpa using h)), (fun h => (f3 (by simpa using h))), (fun h => f4 (by simpa using h)), (fun h => (f5 (by simpa using h))), (fun h => by simpa using (f6 (by simpa using h))), (fun h => by simpa using (f7 (by simpa using h))), (fun h => by simpa using (f8 (by simpa using h))), (fun h h' => n01 (by simpa using h) (by simpa using h')), (fun h h' => n02 (by simpa using h) (by simpa using h')), (fun h h' => n12 (by simpa using h) (by simpa using h')), (fun h => by simpa using t0 (by simpa using h)), (fun h => by simpa using t1 (by simpa using h)), (fun h => by simpa using t2 (by simpa using h))⟩
        · intro d a2 w2 hd hm ⟨u20, u21, u22, u23, u24, u25, u8, u9, u10, e, HB, f0, f1, f2, f3, f4, f5, f6, f7, f8, n01, n02, n12, t0, t1, t2⟩ K hK
          subst e
          simp only [Act.put, List.setIfInBounds_toArray, List.set_cons_zero, List.set_cons_succ]
          obtain rfl := f0 (hm ⟨0, .data⟩ (by simp) rfl)
          clear f0
          go_simp
          (with_reducible refine (HM1.out _ (B1.trans (Below.mono HB B1.size))).mono ?_)
          rintro e w3 ⟨g1, A1', n1', c1', g2, A2', n2', c2', rfl, hi, hb⟩
          have HB3 := HB.trans (hb.mono HB.size)
          go_wp2_with fail
          exact hK.out _ _ ⟨.agg #[.slice A1 n1 c1, .slice E1 m1 d1, .bool s1], .agg #[.bool g1, .slice A1' n1' c1', .bool g2, .slice A2' n2' c2'], u22, u23, u24, u25, u8, u9, u10, (by simp only [Act.put, List.setIfInBounds_toArray, List.set_cons_zero, List.set_cons_succ]), HB3, (fun _ => rfl), (fun _ => ⟨_, _, _, _, _, _, _, _, rfl, hi⟩), (fun h => f2 (by simpa using h)), (fun h => (f3 (by simpa using h)).below hb), (fun h => f4 (by simpa using h)), (fun h => (f5 (by simpa using h)).below hb), (fun h => by simpa using (f6 (by simpa using h)).below hb), (fun h => by simpa using (f7 (by simpa using h)).below hb), (fun h => by simpa using (f8 (by simpa using h)).below hb), (fun h h' => n01 (by simpa using h) (by simpa using h')), (fun h h' => n02 (by simpa using h) (by simpa using h')), (fun h h' => n12 (by simpa using h) (by simpa using h')), (fun h => by simpa using t0 (by simpa using h)), (fun h => by simpa using t1 (by simpa using h)), (fun h => by simpa using t2 (by simpa using h))⟩
        · intro d a2 w2 hd hm ⟨u20, u21, u22, u23, u24, u25, u8, u9, u10, e, HB, f0, f1, f2, f3, f4, f5, f6, f7, f8, n01, n02, n12, t0, t1, t2⟩ K hK
          subst e
          simp only [Act.put, List.setIfInBounds_toArray, List.set_cons_zero, List.set_cons_succ]
          obtain ⟨⟨q0, q1, q2⟩, ⟨q3, q4, q5⟩, ⟨q6, q7, q8⟩⟩ := HX.out w2 HB
          go_simp
          exact hK.out _ _ ⟨u20, u21, .agg #[.slice A2 n2 c2, .slice E2 m2 d2, .bool s2], u23, u24, u25, u8, u9, u10, (by simp only [Act.put, List.setIfInBounds_toArray, List.set_cons_zero, List.set_cons_succ]), HB, (fun h => f0 (by simpa using h)), (fun h => (f1 (by simpa using h))), (fun _ => rfl), (fun h => (f3 (by simpa using h))), (fun h => f4 (by simpa using h)), (fun h => (f5 (by simpa using h))), (fun h => by simpa using (f6 (by simpa using h))), (fun h => by simpa using (f7 (by simpa using h))), (fun h => by simpa using (f8 (by simpa using h))), (fun h h' => n01 (by simpa using h) (by simpa using h')), (fun h h' => n02 (by simpa using h) (by simpa using h')), (fun h h' => n12 (by simpa using h) (by simpa using h')), (fun h => by simpa using t0 (by simpa using h)), (fun h => by simpa using t1 (by simpa using h)), (fun h => by simpa using t2 (by simpa using h))⟩
        · intro d a2 w2 hd hm ⟨u20, u21, u22, u23, u24, u25, u8, u9, u10, e, HB, f0, f1, f2, f3, f4, f5, f6, f7, f8, n01, n02, n12, t0, t1, t2⟩ K hK
          subst e
          simp only [Act.put, List.setIfInBounds_toArray, List.set_cons_zero, List.set_cons_succ]
          obtain rfl := f2 (hm ⟨2, .data⟩ (by simp) rfl)
          clear f2
          go_simp
          (with_reducible refine (HM2.out _ (B1.trans (Below.mono HB B1.size))).mono ?_)
          rintro e w3 ⟨g1, A1', n1', c1', g2, A2', n2', c2', rfl, hi, hb⟩
          have HB3 := HB.trans (hb.mono HB.size)
          go_wp2_with fail
          exact hK.out _ _ ⟨u20, u21, .agg #[.slice A2 n2 c2, .slice E2 m2 d2, .bool s2], .agg #[.bool g1, .slice A1' n1' c1', .bool g2, .slice A2' n2' c2'], u24, u25, u8, u9, u10, (by simp only [Act.put, List.setIfInBounds_toArray, List.set_cons_zero, List.set_cons_succ]), HB3, (fun h => f0 (by simpa using h)), (fun h => (f1 (by simpa using h)).below hb), (fun _ => rfl), (fun _ => ⟨_, _, _, _, _, _, _, _, rfl, hi⟩), (fun h => f4 (by simpa using h)), (fun h => (f5 (by simpa using h)).below hb), (fun h => by simpa using (f6 (by simpa using h)).below hb), (fun h => by simpa using (f7 (by simpa using h)).below hb), (fun h => by simpa using (f8 (by simpa using h)).below hb), (fun h h' => n01 (by simpa using h) (by simpa using h')), (fun h h' => n02 (by simpa using h) (by simpa using h')), (fun h h' => n12 (by simpa using h) (by simpa using h')), (fun h => by simpa using t0 (by simpa using h)), (fun h => by simpa using t1 (by simpa using h)), (fun h => by simpa using t2 (by simpa using h))⟩
        · intro d a2 w2 hd hm ⟨u20, u21, u22, u23, u24, u25, u8, u9, u10, e, HB, f0, f1, f2, f3, f4, f5, f6, f7, f8, n01, n02, n12, t0, t1, t2⟩ K hK
          subst e
          simp only [Act.put, List.setIfInBounds_toArray, List.set_cons_zero, List.set_cons_succ]
          obtain ⟨⟨q0, q1, q2⟩, ⟨q3, q4, q5⟩, ⟨q6, q7, q8⟩⟩ := HX.out w2 HB
          go_simp
          exact hK.out _ _ ⟨u20, u21, u22, u23, .agg #[.slice A3 n3 c3, .slice E3 m3 d3, .bool s3], u25, u8, u9, u10, (by simp only [Act.put, List.setIfInBounds_toArray, List.set_cons_zero, List.set_cons_succ]), HB, (fun h => f0 (by simpa using h)), (fun h => (f1 (by simpa using h))), (fun h => f2 (by simpa using h)), (fun h => (f3 (by simpa using h))), (fun _ => rfl), (fun h => (f5 (by simpa using h))), (fun h => by simpa using (f6 (by simpa using h))), (fun h => by simpa using (f7 (by simpa using h))), (fun h => by simpa using (f8 (by simpa using h))), (fun h h' => n01 (by simpa using h) (by simpa using h')), (fun h h' => n02 (by simpa using h) (by simpa using h')), (fun h h' => n12 (by simpa using h) (by simpa using h')), (fun h => by simpa using t0 (by simpa using h)), (fun h => by simpa using t1 (by simpa using h)), (fun h => by simpa using t2 (by simpa using h))⟩
        · intro d a2 w2 hd hm ⟨u20, u21, u22, u23, u24, u25, u8, u9, u10, e, HB, f0, f1, f2, f3, f4, f5, f6, f7, f8, n01, n02, n12, t0, t1, t2⟩ K hK
          subst e
          simp only [Act.put, List.setIfInBounds_toArray, List.set_cons_zero, List.set_cons_succ]
          obtain rfl := f4 (hm ⟨4, .data⟩ (by simp) rfl)
          clear f4
          go_simp
          (with_reducible refine (HM3.out _ (B1.trans (Below.mono HB B1.size))).mono ?_)
          rintro e w3 ⟨g1, A1', n1', c1', g2, A2', n2', c2', rfl, hi, hb⟩
          have HB3 := HB.trans (hb.mono HB.size)
          go_wp2_with fail
          exact hK.out _ _ ⟨u20, u21, u22, u23, .agg #[.slice A3 n3 c3, .slice E3 m3 d3, .bool s3], .agg #[.bool g1, .slice A1' n1' c1', .bool g2, .slice A2' n2' c2'], u8, u9, u10, (by simp only [Act.put, List.setIfInBounds_toArray, List.set_cons_zero, List.set_cons_succ]), HB3, (fun h => f0 (by simpa using h)), (fun h => (f1 (by simpa using h)).below hb), (fun h => f2 (by simpa using h)), (fun h => (f3 (by simpa using h)).below hb), (fun _ => rfl), (fun _ => ⟨_, _, _, _, _, _, _, _, rfl, hi⟩), (fun h => by simpa using (f6 (by simpa using h)).below hb), (fun h => by simpa using (f7 (by simpa using h)).below hb), (fun h => by simpa using (f8 (by simpa using h)).below hb), (fun h h' => n01 (by simpa using h) (by simpa using h')), (fun h h' => n02 (by simpa using h) (by simpa using h')), (fun h h' => n12 (by simpa using h) (by simpa using h')), (fun h => by simpa using t0 (by simpa using h)), (fun h => by simpa using t1 (by simpa using h)), (fun h => by simpa using t2 (by simpa using h))⟩
        · intro d a2 w2 hd hm ⟨u20, u21, u22, u23, u24, u25, u8, u9, u10, e, HB, f0, f1, f2, f3, f4, f5, f6, f7, f8, n01, n02, n12, t0, t1, t2⟩ K hK
          subst e
          simp only [Act.put, List.setIfInBounds_toArray, List.set_cons_zero, List.set_cons_succ]
          have hb : Below w2.heap.size w2 (w2.alloc (.cells #[.bool false, .slice none 0 0, .bool false, .slice none 0 0] 28)) := (Below.refl _ _).alloc (Nat.le_refl _) _
          have HB3 := HB.trans (hb.mono HB.size)
          go_simp
          exact hK.out _ _ ⟨u20, u21, u22, u23, u24, u25, .pointer (some ⟨w2.heap.size, 0, none⟩), u9, u10, (by simp only [Act.put, List.setIfInBounds_toArray, List.set_cons_zero, List.set_cons_succ]), HB3, (fun h => f0 (by simpa using h)), (fun h => (f1 (by simpa using h)).below hb), (fun h => f2 (by simpa using h)), (fun h => (f3 (by simpa using h)).below hb), (fun h => f4 (by simpa using h)), (fun h => (f5 (by simpa using h)).below hb), (fun _ => by have hs : d 9 = false := (by cases hq : d 9 with | false => rfl | true => (have hz := t0 hq; rw [hd] at hz; cases hz)); simpa [hs] using OwnQ.new HB.size (a)), (fun h => by simpa using (f7 (by simpa using h)).below hb), (fun h => by simpa using (f8 (by simpa using h)).below hb), (fun _ h' => ((f7 (by simpa using h')).lt).symm), (fun _ h' => ((f8 (by simpa using h')).lt).symm), (fun h h' => n12 (by simpa using h) (by simpa using h')), (fun _ => by simp), (fun h => by simpa using t1 (by simpa using h)), (fun h => by simpa using t2 (by simpa using h))⟩
        · intro d a2 w2 hd hm ⟨u20, u21, u22, u23, u24, u25, u8, u9, u10, e, HB, f0, f1, f2, f3, f4, f5, f6, f7, f8, n01, n02, n12, t0, t1, t2⟩ K hK
          subst e
          simp only [Act.put, List.setIfInBounds_toArray, List.set_cons_zero, List.set_cons_succ]
          have hb : Below w2.heap.size w2 (w2.alloc (.cells #[.bool false, .slice none 0 0, .bool false, .slice none 0 0] 28)) := (Below.refl _ _).alloc (Nat.le_refl _) _
          have HB3 := HB.trans (hb.mono HB.size)
          go_simp
          exact hK.out _ _ ⟨u20, u21, u22, u23, u24, u25, u8, .pointer (some ⟨w2.heap.size, 0, none⟩), u10, (by simp only [Act.put, List.setIfInBounds_toArray, List.set_cons_zero, List.set_cons_succ]), HB3, (fun h => f0 (by simpa using h)), (fun h => (f1 (by simpa using h)).below hb), (fun h => f2 (by simpa using h)), (fun h => (f3 (by simpa using h)).below hb), (fun h => f4 (by simpa using h)), (fun h => (f5 (by simpa using h)).below hb), (fun h => by simpa using (f6 (by simpa using h)).below hb), (fun _ => by have hs : d 10 = false := (by cases hq : d 10 with | false => rfl | true => (have hz := t1 hq; rw [hd] at hz; cases hz)); simpa [hs] using OwnQ.new HB.size (b)), (fun h => by simpa using (f8 (by simpa using h)).below hb), (fun h _ => (f6 (by simpa using h)).lt), (fun h h' => n02 (by simpa using h) (by simpa using h')), (fun _ h' => ((f8 (by simpa using h')).lt).symm), (fun h => by simpa using t0 (by simpa using h)), (fun _ => by simp), (fun h => by simpa using t2 (by simpa using h))⟩
        · intro d a2 w2 hd hm ⟨u20, u21, u22, u23, u24, u25, u8, u9, u10, e, HB, f0, f1, f2, f3, f4, f5, f6, f7, f8, n01, n02, n12, t0, t1, t2⟩ K hK
          subst e
          simp only [Act.put, List.setIfInBounds_toArray, List.set_cons_zero, List.set_cons_succ]
          have hb : Below w2.heap.size w2 (w2.alloc (.cells #[.bool false, .slice none 0 0, .bool false, .slice none 0 0] 28)) := (Below.refl _ _).alloc (Nat.le_refl _) _
          have HB3 := HB.trans (hb.mono HB.size)
          go_simp
          exact hK.out _ _ ⟨u20, u21, u22, u23, u24, u25, u8, u9, .pointer (some ⟨w2.heap.size, 0, none⟩), (by simp only [Act.put, List.setIfInBounds_toArray, List.set_cons_zero, List.set_cons_succ]), HB3, (fun h => f0 (by simpa using h)), (fun h => (f1 (by simpa using h)).below hb), (fun h => f2 (by simpa using h)), (fun h => (f3 (by simpa using h)).below hb), (fun h => f4 (by simpa using h)), (fun h => (f5 (by simpa using h)).below hb), (fun h => by simpa using (f6 (by simpa using h)).below hb), (fun h => by simpa using (f7 (by simpa using h)).below hb), (fun _ => by have hs : d 11 = false := (by cases hq : d 11 with | false => rfl | true => (have hz := t2 hq; rw [hd] at hz; cases hz)); simpa [hs] using OwnQ.new HB.size (c)), (fun h h' => n01 (by simpa using h) (by simpa using h')), (fun h _ => (f6 (by simpa using h)).lt), (fun h _ => (f7 (by simpa using h)).lt), (fun h => by simpa using t0 (by simpa using h)), (fun h => by simpa using t1 (by simpa using h)), (fun _ => by simp)⟩
        · intro d a2 w2 hd hm ⟨u20, u21, u22, u23, u24, u25, u8, u9, u10, e, HB, f0, f1, f2, f3, f4, f5, f6, f7, f8, n01, n02, n12, t0, t1, t2⟩ K hK
          subst e
          simp only [Act.put, List.setIfInBounds_toArray, List.set_cons_zero, List.set_cons_succ]
          obtain ⟨gg, AA, nn, cc, gg', AA', nn', cc', rfl, hi⟩ := f1 (hm ⟨1, .data⟩ (by simp) rfl)
          obtain ⟨g, rfl, hg, b0, b1, b2, b3, hs, n0, n1, n2, n3, _⟩ := f6 (hm ⟨6, .data⟩ (by simp) rfl)
          obtain ⟨k0, k1, k2, k3, k4, k5, k6, k7, k8⟩ := id hs
          go_simp
          exact hK.out _ _ ⟨u20, .agg #[.bool gg, .slice AA nn cc, .bool gg', .slice AA' nn' cc'], u22, u23, u24, u25, .pointer (some ⟨g, 0, none⟩), u9, u10, (by simp only [Act.put, List.setIfInBounds_toArray, List.set_cons_zero, List.set_cons_succ]), Below.set4 HB hg _ _ _ _, (fun h => f0 (by simpa using h)), (fun h => (f1 (by simpa using h)).set4 hs n0 n1 n2 n3 _ _ _ _), (fun h => f2 (by simpa using h)), (fun h => (f3 (by simpa using h)).set4 hs n0 n1 n2 n3 _ _ _ _), (fun h => f4 (by simpa using h)), (fun h => (f5 (by simpa using h)).set4 hs n0 n1 n2 n3 _ _ _ _), (fun _ => by simpa using OwnQ.near hi hg hs n0 n1 n2 n3), (fun h => by simpa using (f7 (by simpa using h)).far ((n01 (hm ⟨6, .data⟩ (by simp) rfl) (by simpa using h)).symm) hs n0 n1 n2 n3 _ _ _ _), (fun h => by simpa using (f8 (by simpa using h)).far ((n02 (hm ⟨6, .data⟩ (by simp) rfl) (by simpa using h)).symm) hs n0 n1 n2 n3 _ _ _ _), (fun h h' => n01 (by simpa using h) (by simpa using h')), (fun h h' => n02 (by simpa using h) (by simpa using h')), (fun h h' => n12 (by simpa using h) (by simpa using h')), (fun _ => by simpa using hm ⟨6, .data⟩ (by simp) rfl), (fun h => by simpa using t1 (by simpa using h)), (fun h => by simpa using t2 (by simpa using h))⟩
        · intro d a2 w2 hd hm ⟨u20, u21, u22, u23, u24, u25, u8, u9, u10, e, HB, f0, f1, f2, f3, f4, f5, f6, f7, f8, n01, n02, n12, t0, t1, t2⟩ K hK
          subst e
          simp only [Act.put, List.setIfInBounds_toArray, List.set_cons_zero, List.set_cons_succ]
          obtain ⟨gg, AA, nn, cc, gg', AA', nn', cc', rfl, hi⟩ := f3 (hm ⟨3, .data⟩ (by simp) rfl)
          obtain ⟨g, rfl, hg, b0, b1, b2, b3, hs, n0, n1, n2, n3, _⟩ := f7 (hm ⟨7, .data⟩ (by simp) rfl)
          obtain ⟨k0, k1, k2, k3, k4, k5, k6, k7, k8⟩ := id hs
          go_simp
          exact hK.out _ _ ⟨u20, u21, u22, .agg #[.bool gg, .slice AA nn cc, .bool gg', .slice AA' nn' cc'], u24, u25, u8, .pointer (some ⟨g, 0, none⟩), u10, (by simp only [Act.put, List.setIfInBounds_toArray, List.set_cons_zero, List.set_cons_succ]), Below.set4 HB hg _ _ _ _, (fun h => f0 (by simpa using h)), (fun h => (f1 (by simpa using h)).set4 hs n0 n1 n2 n3 _ _ _ _), (fun h => f2 (by simpa using h)), (fun h => (f3 (by simpa using h)).set4 hs n0 n1 n2 n3 _ _ _ _), (fun h => f4 (by simpa using h)), (fun h => (f5 (by simpa using h)).set4 hs n0 n1 n2 n3 _ _ _ _), (fun h => by simpa using (f6 (by simpa using h)).far (n01 (by simpa using h) (hm ⟨7, .data⟩ (by simp) rfl)) hs n0 n1 n2 n3 _ _ _ _), (fun _ => by simpa using OwnQ.near hi hg hs n0 n1 n2 n3), (fun h => by simpa using (f8 (by simpa using h)).far ((n12 (hm ⟨7, .data⟩ (by simp) rfl) (by simpa using h)).symm) hs n0 n1 n2 n3 _ _ _ _), (fun h h' => n01 (by simpa using h) (by simpa using h')), (fun h h' => n02 (by simpa using h) (by simpa using h')), (fun h h' => n12 (by simpa using h) (by simpa using h')), (fun h => by simpa using t0 (by simpa using h)), (fun _ => by simpa using hm ⟨7, .data⟩ (by simp) rfl), (fun h => by simpa using t2 (by simpa using h))⟩
        · intro d a2 w2 hd hm ⟨u20, u21, u22, u23, u24, u25, u8, u9, u10, e, HB, f0, f1, f2, f3, f4, f5, f6, f7, f8, n01, n02, n12, t0, t1, t2⟩ K hK
          subst e
          simp only [Act.put, List.setIfInBounds_toArray, List.set_cons_zero, List.set_cons_succ]
          obtain ⟨gg, AA, nn, cc, gg', AA', nn', cc', rfl, hi⟩ := f5 (hm ⟨5, .data⟩ (by simp) rfl)
          obtain ⟨g, rfl, hg, b0, b1, b2, b3, hs, n0, n1, n2, n3, _⟩ := f8 (hm ⟨8, .data⟩ (by simp) rfl)
          obtain ⟨k0, k1, k2, k3, k4, k5, k6, k7, k8⟩ := id hs
          go_simp
          exact hK.out _ _ ⟨u20, u21, u22, u23, u24, .agg #[.bool gg, .slice AA nn cc, .bool gg', .slice AA' nn' cc'], u8, u9, .pointer (some ⟨g, 0, none⟩), (by simp only [Act.put, List.setIfInBounds_toArray, List.set_cons_zero, List.set_cons_succ]), Below.set4 HB hg _ _ _ _, (fun h => f0 (by simpa using h)), (fun h => (f1 (by simpa using h)).set4 hs n0 n1 n2 n3 _ _ _ _), (fun h => f2 (by simpa using h)), (fun h => (f3 (by simpa using h)).set4 hs n0 n1 n2 n3 _ _ _ _), (fun h => f4 (by simpa using h)), (fun h => (f5 (by simpa using h)).set4 hs n0 n1 n2 n3 _ _ _ _), (fun h => by simpa using (f6 (by simpa using h)).far (n02 (by simpa using h) (hm ⟨8, .data⟩ (by simp) rfl)) hs n0 n1 n2 n3 _ _ _ _), (fun h => by simpa using (f7 (by simpa using h)).far (n12 (by simpa using h) (hm ⟨8, .data⟩ (by simp) rfl)) hs n0 n1 n2 n3 _ _ _ _), (fun _ => by simpa using OwnQ.near hi hg hs n0 n1 n2 n3), (fun h h' => n01 (by simpa using h) (by simpa using h')), (fun h h' => n02 (by simpa using h) (by simpa using h')), (fun h h' => n12 (by simpa using h) (by simpa using h')), (fun h => by simpa using t0 (by simpa using h)), (fun h => by simpa using t1 (by simpa using h)), (fun _ => by simpa using hm ⟨8, .data⟩ (by simp) rfl)⟩
      · intro d a2 w2 hall ⟨u20, u21, u22, u23, u24, u25, u8, u9, u10, e, HB, f0, f1, f2, f3, f4, f5, f6, f7, f8, n01, n02, n12, t0, t1, t2⟩
        subst e
        simp only [Act.put, List.setIfInBounds_toArray, List.set_cons_zero, List.set_cons_succ]
        obtain rfl := f0 (hall _ (by decide))
        obtain rfl := f2 (hall _ (by decide))
        obtain rfl := f4 (hall _ (by decide))
        obtain ⟨g0, rfl, h0, b0⟩ := OwnQ.ratAtB (by have := f6 (hall _ (by decide)); rwa [hall 9 (by decide)] at this)
        obtain ⟨g1, rfl, h1, b1⟩ := OwnQ.ratAtB (by have := f7 (hall _ (by decide)); rwa [hall 10 (by decide)] at this)
        obtain ⟨g2, rfl, h2, b2⟩ := OwnQ.ratAtB (by have := f8 (hall _ (by decide)); rwa [hall 11 (by decide)] at this)
        go_wp2_with fail
        go_meet
        exact ⟨g0, g1, g2, rfl, rfl, rfl, h0, h1, h2, B1.trans (HB.mono B1.size)⟩
  case rest =>
  obtain ⟨ga, gb, gc, rfl, rfl, rfl, Ta, Tb, Tc, B⟩ := hcut
  clear B1 HX HM1 HM2 HM3
  obtain ⟨W2, rfl⟩ : ∃ x : World, x = wc := ⟨_, rfl⟩

  have Zs : RSz 7 (a + b) := RSz.add Za Zb (by decide)
  have Zp : RSz 6 (a * b) := RSz.mul Za Zb (by decide)
  go_upto_region 3 with (fail)
  go_cut [11, 12] (fun p0 p1 wx => ∃ gs gp, p0 = .pointer (some ⟨gs, 0, none⟩) ∧ p1 = .pointer (some ⟨gp, 0, none⟩) ∧ RatAt wx gs (a + b) ∧ RatAt wx gp (a * b) ∧ Below W2.heap.size W2 wx)
  case first =>
    as_aux_lemma =>
      obtain ⟨gn_a, An_a, nn_a, cn_a, gd_a, Ad_a, nd_a, cd_a, Sa, Ia⟩ := Ta
      obtain ⟨gn_b, An_b, nn_b, cn_b, gd_b, Ad_b, nd_b, cd_b, Sb, Ib⟩ := Tb
      have HX : Hid (∀ V, Below W2.heap.size W2 V → (V.cell? ⟨ga, 0, none⟩ = some (.bool gn_a) ∧ V.cell? ⟨ga, 1, none⟩ = some (.slice An_a nn_a cn_a) ∧ V.cell? ⟨ga, 2, none⟩ = some (.bool gd_a) ∧ V.cell? ⟨ga, 3, none⟩ = some (.slice Ad_a nd_a cd_a)) ∧ (V.cell? ⟨gb, 0, none⟩ = some (.bool gn_b) ∧ V.cell? ⟨gb, 1, none⟩ = some (.slice An_b nn_b cn_b) ∧ V.cell? ⟨gb, 2, none⟩ = some (.bool gd_b) ∧ V.cell? ⟨gb, 3, none⟩ = some (.slice Ad_b nd_b cd_b))) := fun V hV => ⟨(Sa.after hV).cells, (Sb.after hV).cells⟩
      refine wp_region_ev (fun d a0 a' w' => ∃ u26 u27 u28 u29 u30 u31 u11 u12 : Value, a' = ((((((((a0.put (some 26) u26).put (some 27) u27).put (some 28) u28).put (some 29) u29).put (some 30) u30).put (some 31) u31).put (some 11) u11).put (some 12) u12) ∧ Below W2.heap.size W2 w' ∧ (d 0 = true → u26 = .agg #[.bool gn_a, .slice An_a nn_a cn_a, .bool gd_a, .slice Ad_a nd_a cd_a]) ∧ (d 1 = true → u27 = .agg #[.bool gn_b, .slice An_b nn_b cn_b, .bool gd_b, .slice Ad_b nd_b cd_b]) ∧ (d 2 = true → RatV w' u28 (a + b)) ∧ (d 3 = true → u29 = .agg #[.bool gn_a, .slice An_a nn_a cn_a, .bool gd_a, .slice Ad_a nd_a cd_a]) ∧ (d 4 = true → u30 = .agg #[.bool gn_b, .slice An_b nn_b cn_b, .bool gd_b, .slice Ad_b nd_b cd_b]) ∧ (d 5 = true → RatV w' u31 (a * b)) ∧ (d 6 = true → OwnQ W2.heap.size w' u11 (d 8) (a + b)) ∧ (d 7 = true → OwnQ W2.heap.size w' u12 (d 9) (a * b)) ∧ (d 6 = true → d 7 = true → u11 ≠ u12) ∧ (d 8 = true → d 6 = true) ∧ (d 9 = true → d 7 = true)) (by kernel_rfl) (by kernel_rfl) ?_ ?_ ?_ ?_
      · intro d d' h a' w' hh
        obtain rfl : d = d' := funext h
        exact hh
      · exact ⟨_, _, _, _, _, _, _, _, (by simp only [Act.put, List.setIfInBounds_toArray, List.set_cons_zero, List.set_cons_succ]; rfl), (Below.refl _ _).drew, (fun h => by cases h), (fun h => by cases h), (fun h => by cases h), (fun h => by cases h), (fun h => by cases h), (fun h => by cases h), (fun h => by cases h), (fun h => by cases h), (fun h => by cases h), (fun h => by cases h), (fun h => by cases h)⟩
      · refine ⟨?_, ?_, ?_, ?_, ?_, ?_, ?_, ?_, ?_, ?_, trivial⟩
        · intro d a2 w2 hd hm ⟨u26, u27, u28, u29, u30, u31, u11, u12, e, HB, f0, f1, f2, f3, f4, f5, f6, f7, n01, t0, t1⟩ K hK
          subst e
          simp only [Act.put, List.setIfInBounds_toArray, List.set_cons_zero, List.set_cons_succ]
          obtain ⟨⟨q0, q1, q2, q3⟩, ⟨q4, q5, q6, q7⟩⟩ := HX.out w2 HB
          go_simp
          exact hK.out _ _ ⟨.agg #[.bool gn_a, .slice An_a nn_a cn_a, .bool gd_a, .slice Ad_a nd_a cd_a], u27, u28, u29, u30, u31, u11, u12, (by simp only [Act.put, List.setIfInBounds_toArray, List.set_cons_zero, List.set_cons_succ]), HB, (fun _ => rfl), (fun h => f1 (by simpa using h)), (fun h => (f2 (by simpa using h))), (fun h => f3 (by simpa using h)), (fun h => f4 (by simpa using h)), (fun h => (f5 (by simpa using h))), (fun h => by simpa using (f6 (by simpa using h))), (fun h => by simpa using (f7 (by simpa using h))), (fun h h' => n01 (by simpa using h) (by simpa using h')), (fun h => by simpa using t0 (by simpa using h)), (fun h => by simpa using t1 (by simpa using h))⟩
        · intro d a2 w2 hd hm ⟨u26, u27, u28, u29, u30, u31, u11, u12, e, HB, f0, f1, f2, f3, f4, f5, f6, f7, n01, t0, t1⟩ K hK
          subst e
          simp only [Act.put, List.setIfInBounds_toArray, List.set_cons_zero, List.set_cons_succ]
          obtain ⟨⟨q0, q1, q2, q3⟩, ⟨q4, q5, q6, q7⟩⟩ := HX.out w2 HB
          go_simp
          exact hK.out _ _ ⟨u26, .agg #[.bool gn_b, .slice An_b nn_b cn_b, .bool gd_b, .slice Ad_b nd_b cd_b], u28, u29, u30, u31, u11, u12, (by simp only [Act.put, List.setIfInBounds_toArray, List.set_cons_zero, List.set_cons_succ]), HB, (fun h => f0 (by simpa using h)), (fun _ => rfl), (fun h => (f2 (by simpa using h))), (fun h => f3 (by simpa using h)), (fun h => f4 (by simpa using h)), (fun h => (f5 (by simpa using h))), (fun h => by simpa using (f6 (by simpa using h))), (fun h => by simpa using (f7 (by simpa using h))), (fun h h' => n01 (by simpa using h) (by simpa using h')), (fun h => by simpa using t0 (by simpa using h)), (fun h => by simpa using t1 (by simpa using h))⟩
        · intro d a2 w2 hd hm ⟨u26, u27, u28, u29, u30, u31, u11, u12, e, HB, f0, f1, f2, f3, f4, f5, f6, f7, n01, t0, t1⟩ K hK
          subst e
          simp only [Act.put, List.setIfInBounds_toArray, List.set_cons_zero, List.set_cons_succ]
          obtain rfl := f0 (hm ⟨0, .data⟩ (by simp) rfl)
          clear f0
          obtain rfl := f1 (hm ⟨1, .data⟩ (by simp) rfl)
          clear f1
          go_simp
          (with_reducible refine (qadd_z gn_a An_a nn_a cn_a gd_a Ad_a nd_a cd_a gn_b An_b nn_b cn_b gd_b Ad_b nd_b cd_b _ (Ia.below HB) (Ib.below HB) Za Zb (by decide)).mono ?_)
          rintro e w3 ⟨g1, A1', n1', c1', g2, A2', n2', c2', rfl, hi, hb⟩
          have HB3 := HB.trans (hb.mono HB.size)
          go_wp2_with fail
          exact hK.out _ _ ⟨.agg #[.bool gn_a, .slice An_a nn_a cn_a, .bool gd_a, .slice Ad_a nd_a cd_a], .agg #[.bool gn_b, .slice An_b nn_b cn_b, .bool gd_b, .slice Ad_b nd_b cd_b], .agg #[.bool g1, .slice A1' n1' c1', .bool g2, .slice A2' n2' c2'], u29, u30, u31, u11, u12, (by simp only [Act.put, List.setIfInBounds_toArray, List.set_cons_zero, List.set_cons_succ]), HB3, (fun _ => rfl), (fun _ => rfl), (fun _ => ⟨_, _, _, _, _, _, _, _, rfl, hi⟩), (fun h => f3 (by simpa using h)), (fun h => f4 (by simpa using h)), (fun h => (f5 (by simpa using h)).below hb), (fun h => by simpa using (f6 (by simpa using h)).below hb), (fun h => by simpa using (f7 (by simpa using h)).below hb), (fun h h' => n01 (by simpa using h) (by simpa using h')), (fun h => by simpa using t0 (by simpa using h)), (fun h => by simpa using t1 (by simpa using h))⟩
        · intro d a2 w2 hd hm ⟨u26, u27, u28, u29, u30, u31, u11, u12, e, HB, f0, f1, f2, f3, f4, f5, f6, f7, n01, t0, t1⟩ K hK
          subst e
          simp only [Act.put, List.setIfInBounds_toArray, List.set_cons_zero, List.set_cons_succ]
          obtain ⟨⟨q0, q1, q2, q3⟩, ⟨q4, q5, q6, q7⟩⟩ := HX.out w2 HB
          go_simp
          exact hK.out _ _ ⟨u26, u27, u28, .agg #[.bool gn_a, .slice An_a nn_a cn_a, .bool gd_a, .slice Ad_a nd_a cd_a], u30, u31, u11, u12, (by simp only [Act.put, List.setIfInBounds_toArray, List.set_cons_zero, List.set_cons_succ]), HB, (fun h => f0 (by simpa using h)), (fun h => f1 (by simpa using h)), (fun h => (f2 (by simpa using h))), (fun _ => rfl), (fun h => f4 (by simpa using h)), (fun h => (f5 (by simpa using h))), (fun h => by simpa using (f6 (by simpa using h))), (fun h => by simpa using (f7 (by simpa using h))), (fun h h' => n01 (by simpa using h) (by simpa using h')), (fun h => by simpa using t0 (by simpa using h)), (fun h => by simpa using t1 (by simpa using h))⟩
        · intro d a2 w2 hd hm ⟨u26, u27, u28, u29, u30, u31, u11, u12, e, HB, f0, f1, f2, f3, f4, f5, f6, f7, n01, t0, t1⟩ K hK
          subst e
          simp only [Act.put, List.setIfInBounds_toArray, List.set_cons_zero, List.set_cons_succ]
          obtain ⟨⟨q0, q1, q2, q3⟩, ⟨q4, q5, q6, q7⟩⟩ := HX.out w2 HB
          go_simp
          exact hK.out _ _ ⟨u26, u27, u28, u29, .agg #[.bool gn_b, .slice An_b nn_b cn_b, .bool gd_b, .slice Ad_b nd_b cd_b], u31, u11, u12, (by simp only [Act.put, List.setIfInBounds_toArray, List.set_cons_zero, List.set_cons_succ]), HB, (fun h => f0 (by simpa using h)), (fun h => f1 (by simpa using h)), (fun h => (f2 (by simpa using h))), (fun h => f3 (by simpa using h)), (fun _ => rfl), (fun h => (f5 (by simpa using h))), (fun h => by simpa using (f6 (by simpa using h))), (fun h => by simpa using (f7 (by simpa using h))), (fun h h' => n01 (by simpa using h) (by simpa using h')), (fun h => by simpa using t0 (by simpa using h)), (fun h => by simpa using t1 (by simpa using h))⟩
        · intro d a2 w2 hd hm ⟨u26, u27, u28, u29, u30, u31, u11, u12, e, HB, f0, f1, f2, f3, f4, f5, f6, f7, n01, t0, t1⟩ K hK
          subst e
          simp only [Act.put, List.setIfInBounds_toArray, List.set_cons_zero, List.set_cons_succ]
          obtain rfl := f3 (hm ⟨3, .data⟩ (by simp) rfl)
          clear f3
          obtain rfl := f4 (hm ⟨4, .data⟩ (by simp) rfl)
          clear f4
          go_simp
          (with_reducible refine (qmul_z gn_a An_a nn_a cn_a gd_a Ad_a nd_a cd_a gn_b An_b nn_b cn_b gd_b Ad_b nd_b cd_b _ (Ia.below HB) (Ib.below HB) Za Zb (by decide)).mono ?_)
          rintro e w3 ⟨g1, A1', n1', c1', g2, A2', n2', c2', rfl, hi, hb⟩
          have HB3 := HB.trans (hb.mono HB.size)
          go_wp2_with fail
          exact hK.out _ _ ⟨u26, u27, u28, .agg #[.bool gn_a, .slice An_a nn_a cn_a, .bool gd_a, .slice Ad_a nd_a cd_a], .agg #[.bool gn_b, .slice An_b nn_b cn_b, .bool gd_b, .slice Ad_b nd_b cd_b], .agg #[.bool g1, .slice A1' n1' c1', .bool g2, .slice A2' n2' c2'], u11, u12, (by simp only [Act.put, List.setIfInBounds_toArray, List.set_cons_zero, List.set_cons_succ]), HB3, (fun h => f0 (by simpa using h)), (fun h => f1 (by simpa using h)), (fun h => (f2 (by simpa using h)).below hb), (fun _ => rfl), (fun _ => rfl), (fun _ => ⟨_, _, _, _, _, _, _, _, rfl, hi⟩), (fun h => by simpa using (f6 (by simpa using h)).below hb), (fun h => by simpa using (f7 (by simpa using h)).below hb), (fun h h' => n01 (by simpa using h) (by simpa using h')), (fun h => by simpa using t0 (by simpa using h)), (fun h => by simpa using t1 (by simpa using h))⟩
        · intro d a2 w2 hd hm ⟨u26, u27, u28, u29, u30, u31, u11, u12, e, HB, f0, f1, f2, f3, f4, f5, f6, f7, n01, t0, t1⟩ K hK
          subst e
          simp only [Act.put, List.setIfInBounds_toArray, List.set_cons_zero, List.set_cons_succ]
          have hb : Below w2.heap.size w2 (w2.alloc (.cells #[.bool false, .slice none 0 0, .bool false, .slice none 0 0] 28)) := (Below.refl _ _).alloc (Nat.le_refl _) _
          have HB3 := HB.trans (hb.mono HB.size)
          go_simp
          exact hK.out _ _ ⟨u26, u27, u28, u29, u30, u31, .pointer (some ⟨w2.heap.size, 0, none⟩), u12, (by simp only [Act.put, List.setIfInBounds_toArray, List.set_cons_zero, List.set_cons_succ]), HB3, (fun h => f0 (by simpa using h)), (fun h => f1 (by simpa using h)), (fun h => (f2 (by simpa using h)).below hb), (fun h => f3 (by simpa using h)), (fun h => f4 (by simpa using h)), (fun h => (f5 (by simpa using h)).below hb), (fun _ => by have hs : d 8 = false := (by cases hq : d 8 with | false => rfl | true => (have hz := t0 hq; rw [hd] at hz; cases hz)); simpa [hs] using OwnQ.new HB.size (a + b)), (fun h => by simpa using (f7 (by simpa using h)).below hb), (fun _ h' => ((f7 (by simpa using h')).lt).symm), (fun _ => by simp), (fun h => by simpa using t1 (by simpa using h))⟩
        · intro d a2 w2 hd hm ⟨u26, u27, u28, u29, u30, u31, u11, u12, e, HB, f0, f1, f2, f3, f4, f5, f6, f7, n01, t0, t1⟩ K hK
          subst e
          simp only [Act.put, List.setIfInBounds_toArray, List.set_cons_zero, List.set_cons_succ]
          have hb : Below w2.heap.size w2 (w2.alloc (.cells #[.bool false, .slice none 0 0, .bool false, .slice none 0 0] 28)) := (Below.refl _ _).alloc (Nat.le_refl _) _
          have HB3 := HB.trans (hb.mono HB.size)
          go_simp
          exact hK.out _ _ ⟨u26, u27, u28, u29, u30, u31, u11, .pointer (some ⟨w2.heap.size, 0, none⟩), (by simp only [Act.put, List.setIfInBounds_toArray, List.set_cons_zero, List.set_cons_succ]), HB3, (fun h => f0 (by simpa using h)), (fun h => f1 (by simpa using h)), (fun h => (f2 (by simpa using h)).below hb), (fun h => f3 (by simpa using h)), (fun h => f4 (by simpa using h)), (fun h => (f5 (by simpa using h)).below hb), (fun h => by simpa using (f6 (by simpa using h)).below hb), (fun _ => by have hs : d 9 = false := (by cases hq : d 9 with | false => rfl | true => (have hz := t1 hq; rw [hd] at hz; cases hz)); simpa [hs] using OwnQ.new HB.size (a * b)), (fun h _ => (f6 (by simpa using h)).lt), (fun h => by simpa using t0 (by simpa using h)), (fun _ => by simp)⟩
        · intro d a2 w2 hd hm ⟨u26, u27, u28, u29, u30, u31, u11, u12, e, HB, f0, f1, f2, f3, f4, f5, f6, f7, n01, t0, t1⟩ K hK
          subst e
          simp only [Act.put, List.setIfInBounds_toArray, List.set_cons_zero, List.set_cons_succ]
          obtain ⟨gg, AA, nn, cc, gg', AA', nn', cc', rfl, hi⟩ := f2 (hm ⟨2, .data⟩ (by simp) rfl)
          obtain ⟨g, rfl, hg, b0, b1, b2, b3, hs, n0, n1, n2, n3, _⟩ := f6 (hm ⟨6, .data⟩ (by simp) rfl)
          obtain ⟨k0, k1, k2, k3, k4, k5, k6, k7, k8⟩ := id hs
          go_simp
          exact hK.out _ _ ⟨u26, u27, .agg #[.bool gg, .slice AA nn cc, .bool gg', .slice AA' nn' cc'], u29, u30, u31, .pointer (some ⟨g, 0, none⟩), u12, (by simp only [Act.put, List.setIfInBounds_toArray, List.set_cons_zero, List.set_cons_succ]), Below.set4 HB hg _ _ _ _, (fun h => f0 (by simpa using h)), (fun h => f1 (by simpa using h)), (fun h => (f2 (by simpa using h)).set4 hs n0 n1 n2 n3 _ _ _ _), (fun h => f3 (by simpa using h)), (fun h => f4 (by simpa using h)), (fun h => (f5 (by simpa using h)).set4 hs n0 n1 n2 n3 _ _ _ _), (fun _ => by simpa using OwnQ.near hi hg hs n0 n1 n2 n3), (fun h => by simpa using (f7 (by simpa using h)).far ((n01 (hm ⟨6, .data⟩ (by simp) rfl) (by simpa using h)).symm) hs n0 n1 n2 n3 _ _ _ _), (fun h h' => n01 (by simpa using h) (by simpa using h')), (fun _ => by simpa using hm ⟨6, .data⟩ (by simp) rfl), (fun h => by simpa using t1 (by simpa using h))⟩
        · intro d a2 w2 hd hm ⟨u26, u27, u28, u29, u30, u31, u11, u12, e, HB, f0, f1, f2, f3, f4, f5, f6, f7, n01, t0, t1⟩ K hK
          subst e
          simp only [Act.put, List.setIfInBounds_toArray, List.set_cons_zero, List.set_cons_succ]
          obtain ⟨gg, AA, nn, cc, gg', AA', nn', cc', rfl, hi⟩ := f5 (hm ⟨5, .data⟩ (by simp) rfl)
          obtain ⟨g, rfl, hg, b0, b1, b2, b3, hs, n0, n1, n2, n3, _⟩ := f7 (hm ⟨7, .data⟩ (by simp) rfl)
          obtain ⟨k0, k1, k2, k3, k4, k5, k6, k7, k8⟩ := id hs
          go_simp
          exact hK.out _ _ ⟨u26, u27, u28, u29, u30, .agg #[.bool gg, .slice AA nn cc, .bool gg', .slice AA' nn' cc'], u11, .pointer (some ⟨g, 0, none⟩), (by simp only [Act.put, List.setIfInBounds_toArray, List.set_cons_zero, List.set_cons_succ]), Below.set4 HB hg _ _ _ _, (fun h => f0 (by simpa using h)), (fun h => f1 (by simpa using h)), (fun h => (f2 (by simpa using h)).set4 hs n0 n1 n2 n3 _ _ _ _), (fun h => f3 (by simpa using h)), (fun h => f4 (by simpa using h)), (fun h => (f5 (by simpa using h)).set4 hs n0 n1 n2 n3 _ _ _ _), (fun h => by simpa using (f6 (by simpa using h)).far (n01 (by simpa using h) (hm ⟨7, .data⟩ (by simp) rfl)) hs n0 n1 n2 n3 _ _ _ _), (fun _ => by simpa using OwnQ.near hi hg hs n0 n1 n2 n3), (fun h h' => n01 (by simpa using h) (by simpa using h')), (fun h => by simpa using t0 (by simpa using h)), (fun _ => by simpa using hm ⟨7, .data⟩ (by simp) rfl)⟩
      · intro d a2 w2 hall ⟨u26, u27, u28, u29, u30, u31, u11, u12, e, HB, f0, f1, f2, f3, f4, f5, f6, f7, n01, t0, t1⟩
        subst e
        simp only [Act.put, List.setIfInBounds_toArray, List.set_cons_zero, List.set_cons_succ]
        obtain rfl := f0 (hall _ (by decide))
        obtain rfl := f1 (hall _ (by decide))
        obtain rfl := f3 (hall _ (by decide))
        obtain rfl := f4 (hall _ (by decide))
        obtain ⟨g0, rfl, h0, b0⟩ := OwnQ.ratAtB (by have := f6 (hall _ (by decide)); rwa [hall 8 (by decide)] at this)
        obtain ⟨g1, rfl, h1, b1⟩ := OwnQ.ratAtB (by have := f7 (hall _ (by decide)); rwa [hall 9 (by decide)] at this)
        go_wp2_with fail
        go_meet
        exact ⟨g0, g1, rfl, rfl, h0, h1, HB⟩
  case rest =>
  obtain ⟨gs, gp, rfl, rfl, Ts, Tp, DC⟩ := hcut
  obtain ⟨W3, rfl⟩ : ∃ x : World, x = wc := ⟨_, rfl⟩
  replace Ta := Ta.after DC
  replace Tb := Tb.after DC
  replace Tc := Tc.after DC
  replace B := B.trans (DC.mono B.size)
  clear DC
  obtain ⟨gn_a, An_a, nn_a, cn_a, gd_a, Ad_a, nd_a, cd_a, Sa, Ia⟩ := Ta
  obtain ⟨gn_b, An_b, nn_b, cn_b, gd_b, Ad_b, nd_b, cd_b, Sb, Ib⟩ := Tb
  obtain ⟨gn_c, An_c, nn_c, cn_c, gd_c, Ad_c, nd_c, cd_c, Sc, Ic⟩ := Tc
  obtain ⟨gn_s, An_s, nn_s, cn_s, gd_s, Ad_s, nd_s, cd_s, Ss, Is⟩ := Ts
  obtain ⟨gn_p, An_p, nn_p, cn_p, gd_p, Ad_p, nd_p, cd_p, Sp, Ip⟩ := Tp
  go_wp2_with fail
  (with_reducible refine (rof_any (0) _ (by decide) (by decide)).mono ?_)
  rintro e w1 ⟨gx1, Ax1, nx1, cx1, rfl, ix1, bx1⟩
  replace Sa := Sa.after bx1
  replace Ia := Ia.below bx1
  replace Sb := Sb.after bx1
  replace Ib := Ib.below bx1
  replace Sc := Sc.after bx1
  replace Ic := Ic.below bx1
  replace Ss := Ss.after bx1
  replace Is := Is.below bx1
  replace Sp := Sp.after bx1
  replace Ip := Ip.below bx1
  replace B := B.trans (bx1.mono B.size)
  clear bx1
  go_wp2_with fail
  (with_reducible refine (qwhole_z gx1 Ax1 nx1 cx1 _ ix1 (Sz.of (by decide) (by decide) : Sz 1 0) (by decide)).mono ?_)
  rintro e w2 ⟨gnz, Anz, nnz, cnz, gdz, Adz, ndz, cdz, rfl, iz, bz⟩
  replace Sa := Sa.after bz
  replace Ia := Ia.below bz
  replace Sb := Sb.after bz
  replace Ib := Ib.below bz
  replace Sc := Sc.after bz
  replace Ic := Ic.below bz
  replace Ss := Ss.after bz
  replace Is := Is.below bz
  replace Sp := Sp.after bz
  replace Ip := Ip.below bz
  replace ix1 := ix1.below bz
  replace B := B.trans (bz.mono B.size)
  clear bz
  clear ix1
  go_wp2_with fail
  (with_reducible refine (rof_any (1) _ (by decide) (by decide)).mono ?_)
  rintro e w3 ⟨gx2, Ax2, nx2, cx2, rfl, ix2, bx2⟩
  replace Sa := Sa.after bx2
  replace Ia := Ia.below bx2
  replace Sb := Sb.after bx2
  replace Ib := Ib.below bx2
  replace Sc := Sc.after bx2
  replace Ic := Ic.below bx2
  replace Ss := Ss.after bx2
  replace Is := Is.below bx2
  replace Sp := Sp.after bx2
  replace Ip := Ip.below bx2
  replace iz := iz.below bx2
  replace B := B.trans (bx2.mono B.size)
  clear bx2
  go_wp2_with fail
  (with_reducible refine (qwhole_z gx2 Ax2 nx2 cx2 _ ix2 (Sz.of (by decide) (by decide) : Sz 1 1) (by decide)).mono ?_)
  rintro e w4 ⟨gno, Ano, nno, cno, gdo, Ado, ndo, cdo, rfl, io, bo⟩
  replace Sa := Sa.after bo
  replace Ia := Ia.below bo
  replace Sb := Sb.after bo
  replace Ib := Ib.below bo
  replace Sc := Sc.after bo
  replace Ic := Ic.below bo
  replace Ss := Ss.after bo
  replace Is := Is.below bo
  replace Sp := Sp.after bo
  replace Ip := Ip.below bo
  replace iz := iz.below bo
  replace ix2 := ix2.below bo
  replace B := B.trans (bo.mono B.size)
  clear bo
  clear ix2
  have hal1 := (Below.refl w4.heap.size w4).alloc (Nat.le_refl _) (.cells #[.bool gnz, .slice Anz nnz cnz, .bool gdz, .slice Adz ndz cdz] 28)
  have hal := hal1.alloc hal1.size (.cells #[.bool gno, .slice Ano nno cno, .bool gdo, .slice Ado ndo cdo] 28)
  have Sz := (Slot4.new w4 (.bool gnz) (.slice Anz nnz cnz) (.bool gdz) (.slice Adz ndz cdz) 28).alloc (.cells #[.bool gno, .slice Ano nno cno, .bool gdo, .slice Ado ndo cdo] 28)
  have So := Slot4.new (w4.alloc (.cells #[.bool gnz, .slice Anz nnz cnz, .bool gdz, .slice Adz ndz cdz] 28)) (.bool gno) (.slice Ano nno cno) (.bool gdo) (.slice Ado ndo cdo) 28
  rw [World.size_alloc] at So
  replace Sa := Sa.after hal
  replace Ia := Ia.below hal
  replace Sb := Sb.after hal
  replace Ib := Ib.below hal
  replace Sc := Sc.after hal
  replace Ic := Ic.below hal
  replace Ss := Ss.after hal
  replace Is := Is.below hal
  replace Sp := Sp.after hal
  replace Ip := Ip.below hal
  replace iz := iz.below hal
  replace io := io.below hal
  replace B := B.trans (hal.mono B.size)
  clear hal hal1
  go_upto_region 5 with (fail)
  generalize (w4.alloc (.cells #[.bool gnz, .slice Anz nnz cnz, .bool gdz, .slice Adz ndz cdz] 28)).alloc (.cells #[.bool gno, .slice Ano nno cno, .bool gdo, .slice Ado ndo cdo] 28) = W4 at *
  generalize w4.heap.size = gz at *
  obtain ⟨gn_z, An_z, nn_z, cn_z, gd_z, Ad_z, nd_z, cd_z, Sz', Iz'⟩ : RatAt W4 gz ((0 : Int) : Rat) := ⟨_, _, _, _, _, _, _, _, Sz, iz⟩
  obtain ⟨gn_o, An_o, nn_o, cn_o, gd_o, Ad_o, nd_o, cd_o, So', Io'⟩ : RatAt W4 (gz + 1) ((1 : Int) : Rat) := ⟨_, _, _, _, _, _, _, _, So, io⟩
  clear Sz So iz io
  have Zz : RSz 1 ((0 : Int) : Rat) := RSz.whole (Sz.of (by decide) (by decide)) (by decide)
  have Zo : RSz 1 ((1 : Int) : Rat) := RSz.whole (Sz.of (by decide) (by decide)) (by decide)
  have Sz := Sz'
  have Iz := Iz'
  have So := So'
  have Io := Io'
  clear Sz' Iz' So' Io'
  go_cut [15] (fun s wx => s = .bool true ∧ Below W4.heap.size W4 wx)
  case first =>
    as_aux_lemma =>
      have HS : Hid (∀ V, Below W4.heap.size W4 V → (V.cell? ⟨ga, 0, none⟩ = some (.bool gn_a) ∧ V.cell? ⟨ga, 1, none⟩ = some (.slice An_a nn_a cn_a) ∧ V.cell? ⟨ga, 2, none⟩ = some (.bool gd_a) ∧ V.cell? ⟨ga, 3, none⟩ = some (.slice Ad_a nd_a cd_a)) ∧ (V.cell? ⟨gb, 0, none⟩ = some (.bool gn_b) ∧ V.cell? ⟨gb, 1, none⟩ = some (.slice An_b nn_b cn_b) ∧ V.cell? ⟨gb, 2, none⟩ = some (.bool gd_b) ∧ V.cell? ⟨gb, 3, none⟩ = some (.slice Ad_b nd_b cd_b)) ∧ (V.cell? ⟨gc, 0, none⟩ = some (.bool gn_c) ∧ V.cell? ⟨gc, 1, none⟩ = some (.slice An_c nn_c cn_c) ∧ V.cell? ⟨gc, 2, none⟩ = some (.bool gd_c) ∧ V.cell? ⟨gc, 3, none⟩ = some (.slice Ad_c nd_c cd_c)) ∧ (V.cell? ⟨gs, 0, none⟩ = some (.bool gn_s) ∧ V.cell? ⟨gs, 1, none⟩ = some (.slice An_s nn_s cn_s) ∧ V.cell? ⟨gs, 2, none⟩ = some (.bool gd_s) ∧ V.cell? ⟨gs, 3, none⟩ = some (.slice Ad_s nd_s cd_s)) ∧ (V.cell? ⟨gz, 0, none⟩ = some (.bool gn_z) ∧ V.cell? ⟨gz, 1, none⟩ = some (.slice An_z nn_z cn_z) ∧ V.cell? ⟨gz, 2, none⟩ = some (.bool gd_z) ∧ V.cell? ⟨gz, 3, none⟩ = some (.slice Ad_z nd_z cd_z))) := fun V hV => ⟨(Sa.after hV).cells, (Sb.after hV).cells, (Sc.after hV).cells, (Ss.after hV).cells, (Sz.after hV).cells⟩
      have Zp1 : RSz 11 ((a + b) + c) := RSz.add Zs Zc (by decide)
      have Zp2 : RSz 7 (b + c) := RSz.add Zb Zc (by decide)
      have Zp3 : RSz 11 (a + (b + c)) := RSz.add Za Zp2 (by decide)
      have Zp5 : RSz 7 (b + a) := RSz.add Zb Za (by decide)
      have Zp7 : RSz 5 (a + (((0 : Int) : Rat))) := RSz.add Za Zz (by decide)
      have Zp9 : RSz 3 (-a) := RSz.neg Za
      have Zp10 : RSz 7 (a + (-a)) := RSz.add Za Zp9 (by decide)
      have Zp12 : RSz 11 ((a + b) - b) := RSz.sub Zs Zb (by decide)
      have Dp0 : Below W4.heap.size W4 W4.drew := (Below.refl _ _).drew
      refine wp_region_seq (.pre [(0, true), (1, true), (3, true), (4, true), (5, true), (2, false), (6, false), (7, false), (8, false), (9, true), (10, true), (11, true), (12, true), (13, false), (14, false), (15, true), (16, true), (17, true), (18, true), (20, true), (19, false), (21, false), (22, true), (23, true), (24, true)] (.pre [(25, true), (28, true), (26, false), (27, false), (29, false), (30, true), (31, true), (32, true), (33, true), (35, true), (34, false), (36, false), (37, true), (38, true)] .done)) (fun W => (W.cell? ⟨ga, 0, none⟩ = some (.bool gn_a) ∧ W.cell? ⟨ga, 1, none⟩ = some (.slice An_a nn_a cn_a) ∧ W.cell? ⟨ga, 2, none⟩ = some (.bool gd_a) ∧ W.cell? ⟨ga, 3, none⟩ = some (.slice Ad_a nd_a cd_a)) ∧ (W.cell? ⟨gb, 0, none⟩ = some (.bool gn_b) ∧ W.cell? ⟨gb, 1, none⟩ = some (.slice An_b nn_b cn_b) ∧ W.cell? ⟨gb, 2, none⟩ = some (.bool gd_b) ∧ W.cell? ⟨gb, 3, none⟩ = some (.slice Ad_b nd_b cd_b)) ∧ (W.cell? ⟨gc, 0, none⟩ = some (.bool gn_c) ∧ W.cell? ⟨gc, 1, none⟩ = some (.slice An_c nn_c cn_c) ∧ W.cell? ⟨gc, 2, none⟩ = some (.bool gd_c) ∧ W.cell? ⟨gc, 3, none⟩ = some (.slice Ad_c nd_c cd_c)) ∧ (W.cell? ⟨gs, 0, none⟩ = some (.bool gn_s) ∧ W.cell? ⟨gs, 1, none⟩ = some (.slice An_s nn_s cn_s) ∧ W.cell? ⟨gs, 2, none⟩ = some (.bool gd_s) ∧ W.cell? ⟨gs, 3, none⟩ = some (.slice Ad_s nd_s cd_s)) ∧ (W.cell? ⟨gz, 0, none⟩ = some (.bool gn_z) ∧ W.cell? ⟨gz, 1, none⟩ = some (.slice An_z nn_z cn_z) ∧ W.cell? ⟨gz, 2, none⟩ = some (.bool gd_z) ∧ W.cell? ⟨gz, 3, none⟩ = some (.slice Ad_z nd_z cd_z))) (by kernel_rfl) (by kernel_rfl) ?_ (by kernel_rfl) (HS.out _ Dp0) ?_
      · refine chk_pre _ _ _ (by as_aux_lemma => kernel_rfl) ?_
        refine chk_pre _ _ _ (by as_aux_lemma => kernel_rfl) ?_
        exact (by as_aux_lemma => kernel_rfl)
      refine seq_take _ ?_ rfl (Or.inl ⟨by rfl, ?_⟩) ?_
      rotate_left
      · (intro w hSw; (try dsimp only at hSw); go_simp; (try with_reducible rfl))
      try simp only [Act.put, List.setIfInBounds_toArray, List.set_cons_zero, List.set_cons_succ]
      refine seq_take _ ?_ rfl (Or.inl ⟨by rfl, ?_⟩) ?_
      rotate_left
      · (intro w hSw; (try dsimp only at hSw); go_simp; (try with_reducible rfl))
      try simp only [Act.put, List.setIfInBounds_toArray, List.set_cons_zero, List.set_cons_succ]
      refine seq_take _ ?_ rfl (Or.inl ⟨by rfl, ?_⟩) ?_
      rotate_left
      · (intro w hSw; (try dsimp only at hSw); go_simp; (try with_reducible rfl))
      try simp only [Act.put, List.setIfInBounds_toArray, List.set_cons_zero, List.set_cons_succ]
      refine seq_take _ ?_ rfl (Or.inl ⟨by rfl, ?_⟩) ?_
      rotate_left
      · (intro w hSw; (try dsimp only at hSw); go_simp; (try with_reducible rfl))
      try simp only [Act.put, List.setIfInBounds_toArray, List.set_cons_zero, List.set_cons_succ]
      refine seq_take _ ?_ rfl (Or.inl ⟨by rfl, ?_⟩) ?_
      rotate_left
      · (intro w hSw; (try dsimp only at hSw); go_simp; (try with_reducible rfl))
      try simp only [Act.put, List.setIfInBounds_toArray, List.set_cons_zero, List.set_cons_succ]
      refine seq_one _ rfl fun K hK => ?_
      go_simp
      (with_reducible refine (qadd_z gn_s An_s nn_s cn_s gd_s Ad_s nd_s cd_s gn_c An_c nn_c cn_c gd_c Ad_c nd_c cd_c _ (Is.below Dp0) (Ic.below Dp0) Zs Zc (by decide)).mono ?_)
      rintro e vp1 ⟨gnp1, Anp1, nnp1, cnp1, gdp1, Adp1, ndp1, cdp1, rfl, ip1, bp1⟩
      have Dp1 : Below W4.heap.size W4 vp1 := Below.trans Dp0 (bp1.mono (Below.size Dp0))
      go_wp2_with fail
      refine hK.out _ _ (HS.out _ Dp1) (fun hHeld => ?_)
      clear hK K hHeld
      try simp only [Act.put, List.setIfInBounds_toArray, List.set_cons_zero, List.set_cons_succ]
      refine seq_one _ rfl fun K hK => ?_
      go_simp
      (with_reducible refine (qadd_z gn_b An_b nn_b cn_b gd_b Ad_b nd_b cd_b gn_c An_c nn_c cn_c gd_c Ad_c nd_c cd_c _ (Ib.below Dp1) (Ic.below Dp1) Zb Zc (by decide)).mono ?_)
      rintro e vp2 ⟨gnp2, Anp2, nnp2, cnp2, gdp2, Adp2, ndp2, cdp2, rfl, ip2, bp2⟩
      have Dp2 : Below W4.heap.size W4 vp2 := Below.trans Dp1 (bp2.mono (Below.size Dp1))
      go_wp2_with fail
      refine hK.out _ _ (HS.out _ Dp2) (fun hHeld => ?_)
      clear hK K hHeld
      try simp only [Act.put, List.setIfInBounds_toArray, List.set_cons_zero, List.set_cons_succ]
      refine seq_one _ rfl fun K hK => ?_
      go_simp
      (with_reducible refine (qadd_z gn_a An_a nn_a cn_a gd_a Ad_a nd_a cd_a gnp2 Anp2 nnp2 cnp2 gdp2 Adp2 ndp2 cdp2 _ (Ia.below Dp2) ip2 Za Zp2 (by decide)).mono ?_)
      rintro e vp3 ⟨gnp3, Anp3, nnp3, cnp3, gdp3, Adp3, ndp3, cdp3, rfl, ip3, bp3⟩
      have Dp3 : Below W4.heap.size W4 vp3 := Below.trans Dp2 (bp3.mono (Below.size Dp2))
      go_wp2_with fail
      refine hK.out _ _ (HS.out _ Dp3) (fun hHeld => ?_)
      clear hK K hHeld
      try simp only [Act.put, List.setIfInBounds_toArray, List.set_cons_zero, List.set_cons_succ]
      refine seq_one _ rfl fun K hK => ?_
      go_simp
      (with_reducible refine (rqsame_z gnp1 Anp1 nnp1 cnp1 gdp1 Adp1 ndp1 cdp1 gnp3 Anp3 nnp3 cnp3 gdp3 Adp3 ndp3 cdp3 _ ((ip1.below bp2).below bp3) ip3 (Rat.add_assoc a b c)).mono ?_)
      rintro e vp4 ⟨rfl, bp4⟩
      have Dp4 : Below W4.heap.size W4 vp4 := Below.trans Dp3 (bp4.mono (Below.size Dp3))
      go_wp2_with fail
      refine hK.out _ _ (HS.out _ Dp4) (fun hHeld => ?_)
      clear hK K hHeld
      try simp only [Act.put, List.setIfInBounds_toArray, List.set_cons_zero, List.set_cons_succ]
      refine seq_take _ ?_ rfl (Or.inl ⟨by rfl, ?_⟩) ?_
      rotate_left
      · (intro w hSw; (try dsimp only at hSw); go_simp; (try with_reducible rfl))
      try simp only [Act.put, List.setIfInBounds_toArray, List.set_cons_zero, List.set_cons_succ]
      refine seq_take _ ?_ rfl (Or.inl ⟨by rfl, ?_⟩) ?_
      rotate_left
      · (intro w hSw; (try dsimp only at hSw); go_simp; (try with_reducible rfl))
      try simp only [Act.put, List.setIfInBounds_toArray, List.set_cons_zero, List.set_cons_succ]
      refine seq_take _ ?_ rfl (Or.inl ⟨by rfl, ?_⟩) ?_
      rotate_left
      · (intro w hSw; (try dsimp only at hSw); go_simp; (try with_reducible rfl))
      try simp only [Act.put, List.setIfInBounds_toArray, List.set_cons_zero, List.set_cons_succ]
      refine seq_take _ ?_ rfl (Or.inl ⟨by rfl, ?_⟩) ?_
      rotate_left
      · (intro w hSw; (try dsimp only at hSw); go_simp; (try with_reducible rfl))
      try simp only [Act.put, List.setIfInBounds_toArray, List.set_cons_zero, List.set_cons_succ]
      refine seq_one _ rfl fun K hK => ?_
      go_simp
      (with_reducible refine (qadd_z gn_b An_b nn_b cn_b gd_b Ad_b nd_b cd_b gn_a An_a nn_a cn_a gd_a Ad_a nd_a cd_a _ (Ib.below Dp4) (Ia.below Dp4) Zb Za (by decide)).mono ?_)
      rintro e vp5 ⟨gnp5, Anp5, nnp5, cnp5, gdp5, Adp5, ndp5, cdp5, rfl, ip5, bp5⟩
      have Dp5 : Below W4.heap.size W4 vp5 := Below.trans Dp4 (bp5.mono (Below.size Dp4))
      go_wp2_with fail
      refine hK.out _ _ (HS.out _ Dp5) (fun hHeld => ?_)
      clear hK K hHeld
      try simp only [Act.put, List.setIfInBounds_toArray, List.set_cons_zero, List.set_cons_succ]
      refine seq_one _ rfl fun K hK => ?_
      go_simp
      (with_reducible refine (rqsame_z gn_s An_s nn_s cn_s gd_s Ad_s nd_s cd_s gnp5 Anp5 nnp5 cnp5 gdp5 Adp5 ndp5 cdp5 _ (Is.below Dp5) ip5 (Rat.add_comm a b)).mono ?_)
      rintro e vp6 ⟨rfl, bp6⟩
      have Dp6 : Below W4.heap.size W4 vp6 := Below.trans Dp5 (bp6.mono (Below.size Dp5))
      go_wp2_with fail
      refine hK.out _ _ (HS.out _ Dp6) (fun hHeld => ?_)
      clear hK K hHeld
      try simp only [Act.put, List.setIfInBounds_toArray, List.set_cons_zero, List.set_cons_succ]
      refine seq_take _ ?_ rfl (Or.inl ⟨by rfl, ?_⟩) ?_
      rotate_left
      · (intro w hSw; (try dsimp only at hSw); go_simp; (try with_reducible rfl))
      try simp only [Act.put, List.setIfInBounds_toArray, List.set_cons_zero, List.set_cons_succ]
      refine seq_take _ ?_ rfl (Or.inl ⟨by rfl, ?_⟩) ?_
      rotate_left
      · (intro w hSw; (try dsimp only at hSw); go_simp; (try with_reducible rfl))
      try simp only [Act.put, List.setIfInBounds_toArray, List.set_cons_zero, List.set_cons_succ]
      refine seq_take _ ?_ rfl (Or.inl ⟨by rfl, ?_⟩) ?_
      rotate_left
      · (intro w hSw; (try dsimp only at hSw); go_simp; (try with_reducible rfl))
      try simp only [Act.put, List.setIfInBounds_toArray, List.set_cons_zero, List.set_cons_succ]
      refine seq_take _ ?_ rfl (Or.inl ⟨by rfl, ?_⟩) ?_
      rotate_left
      · (intro w hSw; (try dsimp only at hSw); go_simp; (try with_reducible rfl))
      try simp only [Act.put, List.setIfInBounds_toArray, List.set_cons_zero, List.set_cons_succ]
      refine seq_take _ ?_ rfl (Or.inl ⟨by rfl, ?_⟩) ?_
      rotate_left
      · (intro w hSw; (try dsimp only at hSw); go_simp; (try with_reducible rfl))
      try simp only [Act.put, List.setIfInBounds_toArray, List.set_cons_zero, List.set_cons_succ]
      refine seq_one _ rfl fun K hK => ?_
      go_simp
      (with_reducible refine (qadd_z gn_a An_a nn_a cn_a gd_a Ad_a nd_a cd_a gn_z An_z nn_z cn_z gd_z Ad_z nd_z cd_z _ (Ia.below Dp6) (Iz.below Dp6) Za Zz (by decide)).mono ?_)
      rintro e vp7 ⟨gnp7, Anp7, nnp7, cnp7, gdp7, Adp7, ndp7, cdp7, rfl, ip7, bp7⟩
      have Dp7 : Below W4.heap.size W4 vp7 := Below.trans Dp6 (bp7.mono (Below.size Dp6))
      go_wp2_with fail
      refine hK.out _ _ (HS.out _ Dp7) (fun hHeld => ?_)
      clear hK K hHeld
      try simp only [Act.put, List.setIfInBounds_toArray, List.set_cons_zero, List.set_cons_succ]
      refine seq_one _ rfl fun K hK => ?_
      go_simp
      (with_reducible refine (rqsame_z gnp7 Anp7 nnp7 cnp7 gdp7 Adp7 ndp7 cdp7 gn_a An_a nn_a cn_a gd_a Ad_a nd_a cd_a _ ip7 (Ia.below Dp7) (z_add a)).mono ?_)
      rintro e vp8 ⟨rfl, bp8⟩
      have Dp8 : Below W4.heap.size W4 vp8 := Below.trans Dp7 (bp8.mono (Below.size Dp7))
      go_wp2_with fail
      refine hK.out _ _ (HS.out _ Dp8) (fun hHeld => ?_)
      clear hK K hHeld
      try simp only [Act.put, List.setIfInBounds_toArray, List.set_cons_zero, List.set_cons_succ]
      refine seq_take _ ?_ rfl (Or.inl ⟨by rfl, ?_⟩) ?_
      rotate_left
      · (intro w hSw; (try dsimp only at hSw); go_simp; (try with_reducible rfl))
      try simp only [Act.put, List.setIfInBounds_toArray, List.set_cons_zero, List.set_cons_succ]
      refine seq_take _ ?_ rfl (Or.inl ⟨by rfl, ?_⟩) ?_
      rotate_left
      · (intro w hSw; (try dsimp only at hSw); go_simp; (try with_reducible rfl))
      try simp only [Act.put, List.setIfInBounds_toArray, List.set_cons_zero, List.set_cons_succ]
      refine seq_take _ ?_ rfl (Or.inl ⟨by rfl, ?_⟩) ?_
      rotate_left
      · (intro w hSw; (try dsimp only at hSw); go_simp; (try with_reducible rfl))
      try simp only [Act.put, List.setIfInBounds_toArray, List.set_cons_zero, List.set_cons_succ]
      refine seq_take _ ?_ rfl (Or.inl ⟨by rfl, ?_⟩) ?_
      rotate_left
      · (intro w hSw; (try dsimp only at hSw); go_simp; (try with_reducible rfl))
      try simp only [Act.put, List.setIfInBounds_toArray, List.set_cons_zero, List.set_cons_succ]
      refine seq_take _ ?_ rfl (Or.inl ⟨by rfl, ?_⟩) ?_
      rotate_left
      · (intro w hSw; (try dsimp only at hSw); go_simp; (try with_reducible rfl))
      try simp only [Act.put, List.setIfInBounds_toArray, List.set_cons_zero, List.set_cons_succ]
      refine seq_one _ rfl fun K hK => ?_
      go_simp
      (with_reducible refine (qneg_z gn_a An_a nn_a cn_a gd_a Ad_a nd_a cd_a _ (Ia.below Dp8) Za).mono ?_)
      rintro e vp9 ⟨gnp9, Anp9, nnp9, cnp9, gdp9, Adp9, ndp9, cdp9, rfl, ip9, bp9⟩
      have Dp9 : Below W4.heap.size W4 vp9 := Below.trans Dp8 (bp9.mono (Below.size Dp8))
      go_wp2_with fail
      refine hK.out _ _ (HS.out _ Dp9) (fun hHeld => ?_)
      clear hK K hHeld
      try simp only [Act.put, List.setIfInBounds_toArray, List.set_cons_zero, List.set_cons_succ]
      refine seq_one _ rfl fun K hK => ?_
      go_simp
      (with_reducible refine (qadd_z gn_a An_a nn_a cn_a gd_a Ad_a nd_a cd_a gnp9 Anp9 nnp9 cnp9 gdp9 Adp9 ndp9 cdp9 _ (Ia.below Dp9) ip9 Za Zp9 (by decide)).mono ?_)
      rintro e vp10 ⟨gnp10, Anp10, nnp10, cnp10, gdp10, Adp10, ndp10, cdp10, rfl, ip10, bp10⟩
      have Dp10 : Below W4.heap.size W4 vp10 := Below.trans Dp9 (bp10.mono (Below.size Dp9))
      go_wp2_with fail
      refine hK.out _ _ (HS.out _ Dp10) (fun hHeld => ?_)
      clear hK K hHeld
      try simp only [Act.put, List.setIfInBounds_toArray, List.set_cons_zero, List.set_cons_succ]
      refine seq_one _ rfl fun K hK => ?_
      go_simp
      (with_reducible refine (rqsame_z gnp10 Anp10 nnp10 cnp10 gdp10 Adp10 ndp10 cdp10 gn_z An_z nn_z cn_z gd_z Ad_z nd_z cd_z _ ip10 (Iz.below Dp10) (z_neg a)).mono ?_)
      rintro e vp11 ⟨rfl, bp11⟩
      have Dp11 : Below W4.heap.size W4 vp11 := Below.trans Dp10 (bp11.mono (Below.size Dp10))
      go_wp2_with fail
      refine hK.out _ _ (HS.out _ Dp11) (fun hHeld => ?_)
      clear hK K hHeld
      try simp only [Act.put, List.setIfInBounds_toArray, List.set_cons_zero, List.set_cons_succ]
      refine seq_take _ ?_ rfl (Or.inl ⟨by rfl, ?_⟩) ?_
      rotate_left
      · (intro w hSw; (try dsimp only at hSw); go_simp; (try with_reducible rfl))
      try simp only [Act.put, List.setIfInBounds_toArray, List.set_cons_zero, List.set_cons_succ]
      refine seq_take _ ?_ rfl (Or.inl ⟨by rfl, ?_⟩) ?_
      rotate_left
      · (intro w hSw; (try dsimp only at hSw); go_simp; (try with_reducible rfl))
      try simp only [Act.put, List.setIfInBounds_toArray, List.set_cons_zero, List.set_cons_succ]
      refine seq_take _ ?_ rfl (Or.inl ⟨by rfl, ?_⟩) ?_
      rotate_left
      · (intro w hSw; (try dsimp only at hSw); go_simp; (try with_reducible rfl))
      try simp only [Act.put, List.setIfInBounds_toArray, List.set_cons_zero, List.set_cons_succ]
      refine seq_take _ ?_ rfl (Or.inl ⟨by rfl, ?_⟩) ?_
      rotate_left
      · (intro w hSw; (try dsimp only at hSw); go_simp; (try with_reducible rfl))
      try simp only [Act.put, List.setIfInBounds_toArray, List.set_cons_zero, List.set_cons_succ]
      refine seq_take _ ?_ rfl (Or.inl ⟨by rfl, ?_⟩) ?_
      rotate_left
      · (intro w hSw; (try dsimp only at hSw); go_simp; (try with_reducible rfl))
      try simp only [Act.put, List.setIfInBounds_toArray, List.set_cons_zero, List.set_cons_succ]
      refine seq_one _ rfl fun K hK => ?_
      go_simp
      (with_reducible refine (qsub_z gn_s An_s nn_s cn_s gd_s Ad_s nd_s cd_s gn_b An_b nn_b cn_b gd_b Ad_b nd_b cd_b _ (Is.below Dp11) (Ib.below Dp11) Zs Zb (by decide)).mono ?_)
      rintro e vp12 ⟨gnp12, Anp12, nnp12, cnp12, gdp12, Adp12, ndp12, cdp12, rfl, ip12, bp12⟩
      have Dp12 : Below W4.heap.size W4 vp12 := Below.trans Dp11 (bp12.mono (Below.size Dp11))
      go_wp2_with fail
      refine hK.out _ _ (HS.out _ Dp12) (fun hHeld => ?_)
      clear hK K hHeld
      try simp only [Act.put, List.setIfInBounds_toArray, List.set_cons_zero, List.set_cons_succ]
      refine seq_one _ rfl fun K hK => ?_
      go_simp
      (with_reducible refine (rqsame_z gnp12 Anp12 nnp12 cnp12 gdp12 Adp12 ndp12 cdp12 gn_a An_a nn_a cn_a gd_a Ad_a nd_a cd_a _ ip12 (Ia.below Dp12) (f_sub a b)).mono ?_)
      rintro e vp13 ⟨rfl, bp13⟩
      have Dp13 : Below W4.heap.size W4 vp13 := Below.trans Dp12 (bp13.mono (Below.size Dp12))
      go_wp2_with fail
      refine hK.out _ _ (HS.out _ Dp13) (fun hHeld => ?_)
      clear hK K hHeld
      try simp only [Act.put, List.setIfInBounds_toArray, List.set_cons_zero, List.set_cons_succ]
      refine seq_take _ ?_ rfl (Or.inl ⟨by rfl, ?_⟩) ?_
      rotate_left
      · (intro w hSw; (try dsimp only at hSw); go_simp; (try with_reducible rfl))
      try simp only [Act.put, List.setIfInBounds_toArray, List.set_cons_zero, List.set_cons_succ]
      refine seq_take _ ?_ rfl (Or.inl ⟨by rfl, ?_⟩) ?_
      rotate_left
      · (intro w hSw; (try dsimp only at hSw); go_simp; (try with_reducible rfl))
      try simp only [Act.put, List.setIfInBounds_toArray, List.set_cons_zero, List.set_cons_succ]
      refine NoPanic.normal ?_
      go_wp2_with fail
      go_meet
      exact ⟨rfl, Dp13⟩
  case rest =>
  obtain ⟨rfl, DC⟩ := hcut
  replace B := B.trans (DC.mono B.size)
  obtain ⟨W5, rfl⟩ : ∃ x : World, x = wc := ⟨_, rfl⟩
  replace Sa := Sa.after DC
  replace Ia := Ia.below DC
  replace Sb := Sb.after DC
  replace Ib := Ib.below DC
  replace Sc := Sc.after DC
  replace Ic := Ic.below DC
  replace Ss := Ss.after DC
  replace Is := Is.below DC
  replace Sp := Sp.after DC
  replace Ip := Ip.below DC
  replace Sz := Sz.after DC
  replace Iz := Iz.below DC
  replace So := So.after DC
  replace Io := Io.below DC
  clear DC
  go_upto_region 6 with (fail)
  go_cut [16] (fun s wx => s = .bool true ∧ Below W5.heap.size W5 wx)
  case first =>
    as_aux_lemma =>
      have HS : Hid (∀ V, Below W5.heap.size W5 V → (V.cell? ⟨ga, 0, none⟩ = some (.bool gn_a) ∧ V.cell? ⟨ga, 1, none⟩ = some (.slice An_a nn_a cn_a) ∧ V.cell? ⟨ga, 2, none⟩ = some (.bool gd_a) ∧ V.cell? ⟨ga, 3, none⟩ = some (.slice Ad_a nd_a cd_a)) ∧ (V.cell? ⟨gb, 0, none⟩ = some (.bool gn_b) ∧ V.cell? ⟨gb, 1, none⟩ = some (.slice An_b nn_b cn_b) ∧ V.cell? ⟨gb, 2, none⟩ = some (.bool gd_b) ∧ V.cell? ⟨gb, 3, none⟩ = some (.slice Ad_b nd_b cd_b)) ∧ (V.cell? ⟨gc, 0, none⟩ = some (.bool gn_c) ∧ V.cell? ⟨gc, 1, none⟩ = some (.slice An_c nn_c cn_c) ∧ V.cell? ⟨gc, 2, none⟩ = some (.bool gd_c) ∧ V.cell? ⟨gc, 3, none⟩ = some (.slice Ad_c nd_c cd_c)) ∧ (V.cell? ⟨gs, 0, none⟩ = some (.bool gn_s) ∧ V.cell? ⟨gs, 1, none⟩ = some (.slice An_s nn_s cn_s) ∧ V.cell? ⟨gs, 2, none⟩ = some (.bool gd_s) ∧ V.cell? ⟨gs, 3, none⟩ = some (.slice Ad_s nd_s cd_s)) ∧ (V.cell? ⟨gp, 0, none⟩ = some (.bool gn_p) ∧ V.cell? ⟨gp, 1, none⟩ = some (.slice An_p nn_p cn_p) ∧ V.cell? ⟨gp, 2, none⟩ = some (.bool gd_p) ∧ V.cell? ⟨gp, 3, none⟩ = some (.slice Ad_p nd_p cd_p)) ∧ (V.cell? ⟨gz + 1, 0, none⟩ = some (.bool gn_o) ∧ V.cell? ⟨gz + 1, 1, none⟩ = some (.slice An_o nn_o cn_o) ∧ V.cell? ⟨gz + 1, 2, none⟩ = some (.bool gd_o) ∧ V.cell? ⟨gz + 1, 3, none⟩ = some (.slice Ad_o nd_o cd_o))) := fun V hV => ⟨(Sa.after hV).cells, (Sb.after hV).cells, (Sc.after hV).cells, (Ss.after hV).cells, (Sp.after hV).cells, (So.after hV).cells⟩
      have Zr1 : RSz 9 ((a * b) * c) := RSz.mul Zp Zc (by decide)
      have Zr2 : RSz 6 (b * c) := RSz.mul Zb Zc (by decide)
      have Zr3 : RSz 9 (a * (b * c)) := RSz.mul Za Zr2 (by decide)
      have Zr5 : RSz 6 (b * a) := RSz.mul Zb Za (by decide)
      have Zr7 : RSz 4 (a * (((1 : Int) : Rat))) := RSz.mul Za Zo (by decide)
      have Zr9 : RSz 10 ((a + b) * c) := RSz.mul Zs Zc (by decide)
      have Zr10 : RSz 6 (a * c) := RSz.mul Za Zc (by decide)
      have Zr11 : RSz 6 (b * c) := RSz.mul Zb Zc (by decide)
      have Zr12 : RSz 13 ((a * c) + (b * c)) := RSz.add Zr10 Zr11 (by decide)
      have Dr0 : Below W5.heap.size W5 W5.drew := (Below.refl _ _).drew
      refine wp_region_seq (.pre [(0, true), (1, true), (3, true), (4, true), (5, true), (2, false), (6, false), (7, false), (8, false), (9, true), (10, true), (11, true), (12, true), (13, false), (14, false), (15, true), (16, true), (17, true), (18, true), (20, true), (19, false), (21, false), (22, true), (23, true), (24, true)] (.pre [(25, true), (27, true), (28, true), (30, true), (31, true), (26, false), (29, false), (32, false), (33, false), (34, false), (35, true), (36, true)] .done)) (fun W => (W.cell? ⟨ga, 0, none⟩ = some (.bool gn_a) ∧ W.cell? ⟨ga, 1, none⟩ = some (.slice An_a nn_a cn_a) ∧ W.cell? ⟨ga, 2, none⟩ = some (.bool gd_a) ∧ W.cell? ⟨ga, 3, none⟩ = some (.slice Ad_a nd_a cd_a)) ∧ (W.cell? ⟨gb, 0, none⟩ = some (.bool gn_b) ∧ W.cell? ⟨gb, 1, none⟩ = some (.slice An_b nn_b cn_b) ∧ W.cell? ⟨gb, 2, none⟩ = some (.bool gd_b) ∧ W.cell? ⟨gb, 3, none⟩ = some (.slice Ad_b nd_b cd_b)) ∧ (W.cell? ⟨gc, 0, none⟩ = some (.bool gn_c) ∧ W.cell? ⟨gc, 1, none⟩ = some (.slice An_c nn_c cn_c) ∧ W.cell? ⟨gc, 2, none⟩ = some (.bool gd_c) ∧ W.cell? ⟨gc, 3, none⟩ = some (.slice Ad_c nd_c cd_c)) ∧ (W.cell? ⟨gs, 0, none⟩ = some (.bool gn_s) ∧ W.cell? ⟨gs, 1, none⟩ = some (.slice An_s nn_s cn_s) ∧ W.cell? ⟨gs, 2, none⟩ = some (.bool gd_s) ∧ W.cell? ⟨gs, 3, none⟩ = some (.slice Ad_s nd_s cd_s)) ∧ (W.cell? ⟨gp, 0, none⟩ = some (.bool gn_p) ∧ W.cell? ⟨gp, 1, none⟩ = some (.slice An_p nn_p cn_p) ∧ W.cell? ⟨gp, 2, none⟩ = some (.bool gd_p) ∧ W.cell? ⟨gp, 3, none⟩ = some (.slice Ad_p nd_p cd_p)) ∧ (W.cell? ⟨gz + 1, 0, none⟩ = some (.bool gn_o) ∧ W.cell? ⟨gz + 1, 1, none⟩ = some (.slice An_o nn_o cn_o) ∧ W.cell? ⟨gz + 1, 2, none⟩ = some (.bool gd_o) ∧ W.cell? ⟨gz + 1, 3, none⟩ = some (.slice Ad_o nd_o cd_o))) (by kernel_rfl) (by kernel_rfl) ?_ (by kernel_rfl) (HS.out _ Dr0) ?_
      · refine chk_pre _ _ _ (by as_aux_lemma => kernel_rfl) ?_
        refine chk_pre _ _ _ (by as_aux_lemma => kernel_rfl) ?_
        exact (by as_aux_lemma => kernel_rfl)
      refine seq_take _ ?_ rfl (Or.inl ⟨by rfl, ?_⟩) ?_
      rotate_left
      · (intro w hSw; (try dsimp only at hSw); go_simp; (try with_reducible rfl))
      try simp only [Act.put, List.setIfInBounds_toArray, List.set_cons_zero, List.set_cons_succ]
      refine seq_take _ ?_ rfl (Or.inl ⟨by rfl, ?_⟩) ?_
      rotate_left
      · (intro w hSw; (try dsimp only at hSw); go_simp; (try with_reducible rfl))
      try simp only [Act.put, List.setIfInBounds_toArray, List.set_cons_zero, List.set_cons_succ]
      refine seq_take _ ?_ rfl (Or.inl ⟨by rfl, ?_⟩) ?_
      rotate_left
      · (intro w hSw; (try dsimp only at hSw); go_simp; (try with_reducible rfl))
      try simp only [Act.put, List.setIfInBounds_toArray, List.set_cons_zero, List.set_cons_succ]
      refine seq_take _ ?_ rfl (Or.inl ⟨by rfl, ?_⟩) ?_
      rotate_left
      · (intro w hSw; (try dsimp only at hSw); go_simp; (try with_reducible rfl))
      try simp only [Act.put, List.setIfInBounds_toArray, List.set_cons_zero, List.set_cons_succ]
      refine seq_take _ ?_ rfl (Or.inl ⟨by rfl, ?_⟩) ?_
      rotate_left
      · (intro w hSw; (try dsimp only at hSw); go_simp; (try with_reducible rfl))
      try simp only [Act.put, List.setIfInBounds_toArray, List.set_cons_zero, List.set_cons_succ]
      refine seq_one _ rfl fun K hK => ?_
      go_simp
      (with_reducible refine (qmul_z gn_p An_p nn_p cn_p gd_p Ad_p nd_p cd_p gn_c An_c nn_c cn_c gd_c Ad_c nd_c cd_c _ (Ip.below Dr0) (Ic.below Dr0) Zp Zc (by decide)).mono ?_)
      rintro e vr1 ⟨gnr1, Anr1, nnr1, cnr1, gdr1, Adr1, ndr1, cdr1, rfl, ir1, br1⟩
      have Dr1 : Below W5.heap.size W5 vr1 := Below.trans Dr0 (br1.mono (Below.size Dr0))
      go_wp2_with fail
      refine hK.out _ _ (HS.out _ Dr1) (fun hHeld => ?_)
      clear hK K hHeld
      try simp only [Act.put, List.setIfInBounds_toArray, List.set_cons_zero, List.set_cons_succ]
      refine seq_one _ rfl fun K hK => ?_
      go_simp
      (with_reducible refine (qmul_z gn_b An_b nn_b cn_b gd_b Ad_b nd_b cd_b gn_c An_c nn_c cn_c gd_c Ad_c nd_c cd_c _ (Ib.below Dr1) (Ic.below Dr1) Zb Zc (by decide)).mono ?_)
      rintro e vr2 ⟨gnr2, Anr2, nnr2, cnr2, gdr2, Adr2, ndr2, cdr2, rfl, ir2, br2⟩
      have Dr2 : Below W5.heap.size W5 vr2 := Below.trans Dr1 (br2.mono (Below.size Dr1))
      go_wp2_with fail
      refine hK.out _ _ (HS.out _ Dr2) (fun hHeld => ?_)
      clear hK K hHeld
      try simp only [Act.put, List.setIfInBounds_toArray, List.set_cons_zero, List.set_cons_succ]
      refine seq_one _ rfl fun K hK => ?_
      go_simp
      (with_reducible refine (qmul_z gn_a An_a nn_a cn_a gd_a Ad_a nd_a cd_a gnr2 Anr2 nnr2 cnr2 gdr2 Adr2 ndr2 cdr2 _ (Ia.below Dr2) ir2 Za Zr2 (by decide)).mono ?_)
      rintro e vr3 ⟨gnr3, Anr3, nnr3, cnr3, gdr3, Adr3, ndr3, cdr3, rfl, ir3, br3⟩
      have Dr3 : Below W5.heap.size W5 vr3 := Below.trans Dr2 (br3.mono (Below.size Dr2))
      go_wp2_with fail
      refine hK.out _ _ (HS.out _ Dr3) (fun hHeld => ?_)
      clear hK K hHeld
      try simp only [Act.put, List.setIfInBounds_toArray, List.set_cons_zero, List.set_cons_succ]
      refine seq_one _ rfl fun K hK => ?_
      go_simp
      (with_reducible refine (rqsame_z gnr1 Anr1 nnr1 cnr1 gdr1 Adr1 ndr1 cdr1 gnr3 Anr3 nnr3 cnr3 gdr3 Adr3 ndr3 cdr3 _ ((ir1.below br2).below br3) ir3 (Rat.mul_assoc a b c)).mono ?_)
      rintro e vr4 ⟨rfl, br4⟩
      have Dr4 : Below W5.heap.size W5 vr4 := Below.trans Dr3 (br4.mono (Below.size Dr3))
      go_wp2_with fail
      refine hK.out _ _ (HS.out _ Dr4) (fun hHeld => ?_)
      clear hK K hHeld
      try simp only [Act.put, List.setIfInBounds_toArray, List.set_cons_zero, List.set_cons_succ]
      refine seq_take _ ?_ rfl (Or.inl ⟨by rfl, ?_⟩) ?_
      rotate_left
      · (intro w hSw; (try dsimp only at hSw); go_simp; (try with_reducible rfl))
      try simp only [Act.put, List.setIfInBounds_toArray, List.set_cons_zero, List.set_cons_succ]
      refine seq_take _ ?_ rfl (Or.inl ⟨by rfl, ?_⟩) ?_
      rotate_left
      · (intro w hSw; (try dsimp only at hSw); go_simp; (try with_reducible rfl))
      try simp only [Act.put, List.setIfInBounds_toArray, List.set_cons_zero, List.set_cons_succ]
      refine seq_take _ ?_ rfl (Or.inl ⟨by rfl, ?_⟩) ?_
      rotate_left
      · (intro w hSw; (try dsimp only at hSw); go_simp; (try with_reducible rfl))
      try simp only [Act.put, List.setIfInBounds_toArray, List.set_cons_zero, List.set_cons_succ]
      refine seq_take _ ?_ rfl (Or.inl ⟨by rfl, ?_⟩) ?_
      rotate_left
      · (intro w hSw; (try dsimp only at hSw); go_simp; (try with_reducible rfl))
      try simp only [Act.put, List.setIfInBounds_toArray, List.set_cons_zero, List.set_cons_succ]
      refine seq_one _ rfl fun K hK => ?_
      go_simp
      (with_reducible refine (qmul_z gn_b An_b nn_b cn_b gd_b Ad_b nd_b cd_b gn_a An_a nn_a cn_a gd_a Ad_a nd_a cd_a _ (Ib.below Dr4) (Ia.below Dr4) Zb Za (by decide)).mono ?_)
      rintro e vr5 ⟨gnr5, Anr5, nnr5, cnr5, gdr5, Adr5, ndr5, cdr5, rfl, ir5, br5⟩
      have Dr5 : Below W5.heap.size W5 vr5 := Below.trans Dr4 (br5.mono (Below.size Dr4))
      go_wp2_with fail
      refine hK.out _ _ (HS.out _ Dr5) (fun hHeld => ?_)
      clear hK K hHeld
      try simp only [Act.put, List.setIfInBounds_toArray, List.set_cons_zero, List.set_cons_succ]
      refine seq_one _ rfl fun K hK => ?_
      go_simp
      (with_reducible refine (rqsame_z gn_p An_p nn_p cn_p gd_p Ad_p nd_p cd_p gnr5 Anr5 nnr5 cnr5 gdr5 Adr5 ndr5 cdr5 _ (Ip.below Dr5) ir5 (Rat.mul_comm a b)).mono ?_)
      rintro e vr6 ⟨rfl, br6⟩
      have Dr6 : Below W5.heap.size W5 vr6 := Below.trans Dr5 (br6.mono (Below.size Dr5))
      go_wp2_with fail
      refine hK.out _ _ (HS.out _ Dr6) (fun hHeld => ?_)
      clear hK K hHeld
      try simp only [Act.put, List.setIfInBounds_toArray, List.set_cons_zero, List.set_cons_succ]
      refine seq_take _ ?_ rfl (Or.inl ⟨by rfl, ?_⟩) ?_
      rotate_left
      · (intro w hSw; (try dsimp only at hSw); go_simp; (try with_reducible rfl))
      try simp only [Act.put, List.setIfInBounds_toArray, List.set_cons_zero, List.set_cons_succ]
      refine seq_take _ ?_ rfl (Or.inl ⟨by rfl, ?_⟩) ?_
      rotate_left
      · (intro w hSw; (try dsimp only at hSw); go_simp; (try with_reducible rfl))
      try simp only [Act.put, List.setIfInBounds_toArray, List.set_cons_zero, List.set_cons_succ]
      refine seq_take _ ?_ rfl (Or.inl ⟨by rfl, ?_⟩) ?_
      rotate_left
      · (intro w hSw; (try dsimp only at hSw); go_simp; (try with_reducible rfl))
      try simp only [Act.put, List.setIfInBounds_toArray, List.set_cons_zero, List.set_cons_succ]
      refine seq_take _ ?_ rfl (Or.inl ⟨by rfl, ?_⟩) ?_
      rotate_left
      · (intro w hSw; (try dsimp only at hSw); go_simp; (try with_reducible rfl))
      try simp only [Act.put, List.setIfInBounds_toArray, List.set_cons_zero, List.set_cons_succ]
      refine seq_take _ ?_ rfl (Or.inl ⟨by rfl, ?_⟩) ?_
      rotate_left
      · (intro w hSw; (try dsimp only at hSw); go_simp; (try with_reducible rfl))
      try simp only [Act.put, List.setIfInBounds_toArray, List.set_cons_zero, List.set_cons_succ]
      refine seq_one _ rfl fun K hK => ?_
      go_simp
      (with_reducible refine (qmul_z gn_a An_a nn_a cn_a gd_a Ad_a nd_a cd_a gn_o An_o nn_o cn_o gd_o Ad_o nd_o cd_o _ (Ia.below Dr6) (Io.below Dr6) Za Zo (by decide)).mono ?_)
      rintro e vr7 ⟨gnr7, Anr7, nnr7, cnr7, gdr7, Adr7, ndr7, cdr7, rfl, ir7, br7⟩
      have Dr7 : Below W5.heap.size W5 vr7 := Below.trans Dr6 (br7.mono (Below.size Dr6))
      go_wp2_with fail
      refine hK.out _ _ (HS.out _ Dr7) (fun hHeld => ?_)
      clear hK K hHeld
      try simp only [Act.put, List.setIfInBounds_toArray, List.set_cons_zero, List.set_cons_succ]
      refine seq_one _ rfl fun K hK => ?_
      go_simp
      (with_reducible refine (rqsame_z gnr7 Anr7 nnr7 cnr7 gdr7 Adr7 ndr7 cdr7 gn_a An_a nn_a cn_a gd_a Ad_a nd_a cd_a _ ir7 (Ia.below Dr7) (z_mul a)).mono ?_)
      rintro e vr8 ⟨rfl, br8⟩
      have Dr8 : Below W5.heap.size W5 vr8 := Below.trans Dr7 (br8.mono (Below.size Dr7))
      go_wp2_with fail
      refine hK.out _ _ (HS.out _ Dr8) (fun hHeld => ?_)
      clear hK K hHeld
      try simp only [Act.put, List.setIfInBounds_toArray, List.set_cons_zero, List.set_cons_succ]
      refine seq_take _ ?_ rfl (Or.inl ⟨by rfl, ?_⟩) ?_
      rotate_left
      · (intro w hSw; (try dsimp only at hSw); go_simp; (try with_reducible rfl))
      try simp only [Act.put, List.setIfInBounds_toArray, List.set_cons_zero, List.set_cons_succ]
      refine seq_take _ ?_ rfl (Or.inl ⟨by rfl, ?_⟩) ?_
      rotate_left
      · (intro w hSw; (try dsimp only at hSw); go_simp; (try with_reducible rfl))
      try simp only [Act.put, List.setIfInBounds_toArray, List.set_cons_zero, List.set_cons_succ]
      refine seq_take _ ?_ rfl (Or.inl ⟨by rfl, ?_⟩) ?_
      rotate_left
      · (intro w hSw; (try dsimp only at hSw); go_simp; (try with_reducible rfl))
      try simp only [Act.put, List.setIfInBounds_toArray, List.set_cons_zero, List.set_cons_succ]
      refine seq_take _ ?_ rfl (Or.inl ⟨by rfl, ?_⟩) ?_
      rotate_left
      · (intro w hSw; (try dsimp only at hSw); go_simp; (try with_reducible rfl))
      try simp only [Act.put, List.setIfInBounds_toArray, List.set_cons_zero, List.set_cons_succ]
      refine seq_take _ ?_ rfl (Or.inl ⟨by rfl, ?_⟩) ?_
      rotate_left
      · (intro w hSw; (try dsimp only at hSw); go_simp; (try with_reducible rfl))
      try simp only [Act.put, List.setIfInBounds_toArray, List.set_cons_zero, List.set_cons_succ]
      refine seq_take _ ?_ rfl (Or.inl ⟨by rfl, ?_⟩) ?_
      rotate_left
      · (intro w hSw; (try dsimp only at hSw); go_simp; (try with_reducible rfl))
      try simp only [Act.put, List.setIfInBounds_toArray, List.set_cons_zero, List.set_cons_succ]
      refine seq_take _ ?_ rfl (Or.inl ⟨by rfl, ?_⟩) ?_
      rotate_left
      · (intro w hSw; (try dsimp only at hSw); go_simp; (try with_reducible rfl))
      try simp only [Act.put, List.setIfInBounds_toArray, List.set_cons_zero, List.set_cons_succ]
      refine seq_take _ ?_ rfl (Or.inl ⟨by rfl, ?_⟩) ?_
      rotate_left
      · (intro w hSw; (try dsimp only at hSw); go_simp; (try with_reducible rfl))
      try simp only [Act.put, List.setIfInBounds_toArray, List.set_cons_zero, List.set_cons_succ]
      refine seq_one _ rfl fun K hK => ?_
      go_simp
      (with_reducible refine (qmul_z gn_s An_s nn_s cn_s gd_s Ad_s nd_s cd_s gn_c An_c nn_c cn_c gd_c Ad_c nd_c cd_c _ (Is.below Dr8) (Ic.below Dr8) Zs Zc (by decide)).mono ?_)
      rintro e vr9 ⟨gnr9, Anr9, nnr9, cnr9, gdr9, Adr9, ndr9, cdr9, rfl, ir9, br9⟩
      have Dr9 : Below W5.heap.size W5 vr9 := Below.trans Dr8 (br9.mono (Below.size Dr8))
      go_wp2_with fail
      refine hK.out _ _ (HS.out _ Dr9) (fun hHeld => ?_)
      clear hK K hHeld
      try simp only [Act.put, List.setIfInBounds_toArray, List.set_cons_zero, List.set_cons_succ]
      refine seq_one _ rfl fun K hK => ?_
      go_simp
      (with_reducible refine (qmul_z gn_a An_a nn_a cn_a gd_a Ad_a nd_a cd_a gn_c An_c nn_c cn_c gd_c Ad_c nd_c cd_c _ (Ia.below Dr9) (Ic.below Dr9) Za Zc (by decide)).mono ?_)
      rintro e vr10 ⟨gnr10, Anr10, nnr10, cnr10, gdr10, Adr10, ndr10, cdr10, rfl, ir10, br10⟩
      have Dr10 : Below W5.heap.size W5 vr10 := Below.trans Dr9 (br10.mono (Below.size Dr9))
      go_wp2_with fail
      refine hK.out _ _ (HS.out _ Dr10) (fun hHeld => ?_)
      clear hK K hHeld
      try simp only [Act.put, List.setIfInBounds_toArray, List.set_cons_zero, List.set_cons_succ]
      refine seq_one _ rfl fun K hK => ?_
      go_simp
      (with_reducible refine (qmul_z gn_b An_b nn_b cn_b gd_b Ad_b nd_b cd_b gn_c An_c nn_c cn_c gd_c Ad_c nd_c cd_c _ (Ib.below Dr10) (Ic.below Dr10) Zb Zc (by decide)).mono ?_)
      rintro e vr11 ⟨gnr11, Anr11, nnr11, cnr11, gdr11, Adr11, ndr11, cdr11, rfl, ir11, br11⟩
      have Dr11 : Below W5.heap.size W5 vr11 := Below.trans Dr10 (br11.mono (Below.size Dr10))
      go_wp2_with fail
      refine hK.out _ _ (HS.out _ Dr11) (fun hHeld => ?_)
      clear hK K hHeld
      try simp only [Act.put, List.setIfInBounds_toArray, List.set_cons_zero, List.set_cons_succ]
      refine seq_one _ rfl fun K hK => ?_
      go_simp
      (with_reducible refine (qadd_z gnr10 Anr10 nnr10 cnr10 gdr10 Adr10 ndr10 cdr10 gnr11 Anr11 nnr11 cnr11 gdr11 Adr11 ndr11 cdr11 _ (ir10.below br11) ir11 Zr10 Zr11 (by decide)).mono ?_)
      rintro e vr12 ⟨gnr12, Anr12, nnr12, cnr12, gdr12, Adr12, ndr12, cdr12, rfl, ir12, br12⟩
      have Dr12 : Below W5.heap.size W5 vr12 := Below.trans Dr11 (br12.mono (Below.size Dr11))
      go_wp2_with fail
      refine hK.out _ _ (HS.out _ Dr12) (fun hHeld => ?_)
      clear hK K hHeld
      try simp only [Act.put, List.setIfInBounds_toArray, List.set_cons_zero, List.set_cons_succ]
      refine seq_one _ rfl fun K hK => ?_
      go_simp
      (with_reducible refine (rqsame_z gnr9 Anr9 nnr9 cnr9 gdr9 Adr9 ndr9 cdr9 gnr12 Anr12 nnr12 cnr12 gdr12 Adr12 ndr12 cdr12 _ (((ir9.below br10).below br11).below br12) ir12 (Rat.add_mul a b c)).mono ?_)
      rintro e vr13 ⟨rfl, br13⟩
      have Dr13 : Below W5.heap.size W5 vr13 := Below.trans Dr12 (br13.mono (Below.size Dr12))
      go_wp2_with fail
      refine hK.out _ _ (HS.out _ Dr13) (fun hHeld => ?_)
      clear hK K hHeld
      try simp only [Act.put, List.setIfInBounds_toArray, List.set_cons_zero, List.set_cons_succ]
      refine seq_take _ ?_ rfl (Or.inl ⟨by rfl, ?_⟩) ?_
      rotate_left
      · (intro w hSw; (try dsimp only at hSw); go_simp; (try with_reducible rfl))
      try simp only [Act.put, List.setIfInBounds_toArray, List.set_cons_zero, List.set_cons_succ]
      refine seq_take _ ?_ rfl (Or.inl ⟨by rfl, ?_⟩) ?_
      rotate_left
      · (intro w hSw; (try dsimp only at hSw); go_simp; (try with_reducible rfl))
      try simp only [Act.put, List.setIfInBounds_toArray, List.set_cons_zero, List.set_cons_succ]
      refine NoPanic.normal ?_
      go_wp2_with fail
      go_meet
      exact ⟨rfl, Dr13⟩
  case rest =>
  obtain ⟨rfl, DC⟩ := hcut
  replace B := B.trans (DC.mono B.size)
  obtain ⟨W6, rfl⟩ : ∃ x : World, x = wc := ⟨_, rfl⟩
  replace Sa := Sa.after DC
  replace Ia := Ia.below DC
  replace Sb := Sb.after DC
  replace Ib := Ib.below DC
  replace Sp := Sp.after DC
  replace Ip := Ip.below DC
  clear DC Sc Ss Sz So Ic Is Iz Io
  by_cases hb0 : b = 0
  · have HSG : Hid (sgn b.num = 0) := rsgn_zero hb0
    have HB0 := Lib.hid hb0
    clear hb0
    have ⟨Spc0, Spc1, Spc2, Spc3, _⟩ := Sp
    have ⟨Sbc0, Sbc1, Sbc2, Sbc3, _⟩ := Sb
    go_wp2_with fail
    (with_reducible refine (qdiv_bad gn_p An_p nn_p cn_p gd_p Ad_p nd_p cd_p gn_b An_b nn_b cn_b gd_b Ad_b nd_b cd_b _ Ip Ib Zp Zb (by decide) HB0.out).mono ?_)
    rintro e w1 ⟨rfl, bq⟩
    clear Spc0 Spc1 Spc2 Spc3 Sbc0 Sbc1 Sbc2 Sbc3
    replace Sa := Sa.after bq
    replace Ia := Ia.below bq
    replace Sb := Sb.after bq
    replace Ib := Ib.below bq
    replace Sp := Sp.after bq
    replace Ip := Ip.below bq
    replace B := B.trans (bq.mono B.size)
    clear bq
    have hal := (Below.refl w1.heap.size w1).alloc (Nat.le_refl _) (.cells #[.bool false, .slice none 0 0, .bool false, .slice none 0 0] 28)
    replace Sa := Sa.after hal
    replace Ia := Ia.below hal
    replace Sb := Sb.after hal
    replace Ib := Ib.below hal
    replace Sp := Sp.after hal
    replace Ip := Ip.below hal
    replace B := B.trans (hal.mono B.size)
    clear hal
    have ⟨Sbc0, Sbc1, Sbc2, Sbc3, _⟩ := Sb
    go_wp2_with fail
    (with_reducible refine (qsign_z gn_b An_b nn_b cn_b gd_b Ad_b nd_b cd_b 0 _ Ib.num HSG.out).mono ?_)
    rintro e w2 ⟨rfl, bsg⟩
    clear Sbc0 Sbc1 Sbc2 Sbc3
    replace Sa := Sa.after bsg
    replace Ia := Ia.below bsg
    replace Sb := Sb.after bsg
    replace Ib := Ib.below bsg
    replace Sp := Sp.after bsg
    replace Ip := Ip.below bsg
    replace B := B.trans (bsg.mono B.size)
    clear bsg
    go_wp2
    go_ret
    exact ⟨rfl, B⟩
  · obtain ⟨sg, hsg⟩ : ∃ sg, sgn b.num = sg := ⟨_, rfl⟩
    have hs0 : (sg == 0) = false := by rw [← hsg]; exact sgn_ne' (num_ne hb0)
    have HSG := Lib.hid hsg
    have HB0 := Lib.hid hb0
    clear hb0 hsg
    have ⟨Spc0, Spc1, Spc2, Spc3, _⟩ := Sp
    have ⟨Sbc0, Sbc1, Sbc2, Sbc3, _⟩ := Sb
    go_wp2_with fail
    (with_reducible refine (qdiv_z gn_p An_p nn_p cn_p gd_p Ad_p nd_p cd_p gn_b An_b nn_b cn_b gd_b Ad_b nd_b cd_b _ Ip Ib Zp Zb (by decide) HB0.out).mono ?_)
    rintro e w1 ⟨gnq, Anq, nnq, cnq, gdq, Adq, ndq, cdq, rfl, iq, bq⟩
    clear Spc0 Spc1 Spc2 Spc3 Sbc0 Sbc1 Sbc2 Sbc3
    replace Sa := Sa.after bq
    replace Ia := Ia.below bq
    replace Sb := Sb.after bq
    replace Ib := Ib.below bq
    replace Sp := Sp.after bq
    replace Ip := Ip.below bq
    replace B := B.trans (bq.mono B.size)
    clear bq
    have hal := (Below.refl w1.heap.size w1).alloc (Nat.le_refl _) (.cells #[.bool gnq, .slice Anq nnq cnq, .bool gdq, .slice Adq ndq cdq] 28)
    have Sq := Slot4.new w1 (.bool gnq) (.slice Anq nnq cnq) (.bool gdq) (.slice Adq ndq cdq) 28
    replace Sa := Sa.after hal
    replace Ia := Ia.below hal
    replace Sb := Sb.after hal
    replace Ib := Ib.below hal
    replace Sp := Sp.after hal
    replace Ip := Ip.below hal
    replace iq := iq.below hal
    replace B := B.trans (hal.mono B.size)
    clear hal
    generalize hW : w1.alloc (.cells #[.bool gnq, .slice Anq nnq cnq, .bool gdq, .slice Adq ndq cdq] 28) = W1 at *
    have ⟨Sbc0, Sbc1, Sbc2, Sbc3, _⟩ := Sb
    go_wp2_with fail
    try rw [hW]
    clear hW
    (with_reducible refine (qsign_z gn_b An_b nn_b cn_b gd_b Ad_b nd_b cd_b sg _ Ib.num HSG.out).mono ?_)
    rintro e w2 ⟨rfl, bsg⟩
    clear Sbc0 Sbc1 Sbc2 Sbc3
    replace Sa := Sa.after bsg
    replace Ia := Ia.below bsg
    replace Sb := Sb.after bsg
    replace Ib := Ib.below bsg
    replace Sp := Sp.after bsg
    replace Ip := Ip.below bsg
    replace iq := iq.below bsg
    replace Sq := Sq.after bsg
    replace B := B.trans (bsg.mono B.size)
    clear bsg
    have ⟨Sqc0, Sqc1, Sqc2, Sqc3, _⟩ := Sq
    have ⟨Sac0, Sac1, Sac2, Sac3, _⟩ := Sa
    go_wp2_with fail
    (with_reducible refine (rqsame_z gnq Anq nnq cnq gdq Adq ndq cdq gn_a An_a nn_a cn_a gd_a Ad_a nd_a cd_a _ iq Ia (f_div a b HB0.out)).mono ?_)
    rintro e w3 ⟨rfl, be⟩
    clear Sqc0 Sqc1 Sqc2 Sqc3 Sac0 Sac1 Sac2 Sac3
    replace Sa := Sa.after be
    replace Ia := Ia.below be
    replace Sb := Sb.after be
    replace Ib := Ib.below be
    replace Sp := Sp.after be
    replace Ip := Ip.below be
    replace iq := iq.below be
    replace Sq := Sq.after be
    replace B := B.trans (be.mono B.size)
    clear be
    go_wp2
    go_ret
    exact ⟨rfl, B⟩
end Go.Proofs.YtlpoboikompjfaaGreatDoor
