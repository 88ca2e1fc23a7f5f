/- The walk of the law RationalOrder, given what its fixed examples return. -/
import Derived.Test.YtlpoboikompjfaaGreatDoorVG28RatT
import Derived.Test.YtlpoboikompjfaaGreatDoorVRefFrom
import Derived.Test.YtlpoboikompjfaaGreatDoorVRaw3
import Derived.Deep.DeepCutAuto
namespace Go.Proofs.YtlpoboikompjfaaGreatDoor
open Go.RowKit
theorem cq_three (a b : Rat) : cq a b = -1 ∨ cq a b = 0 ∨ cq a b = 1 := by
  unfold cq; split
  · exact .inl rfl
  · split
    · exact .inr (.inr rfl)
    · exact .inr (.inl rfl)
theorem sgn_sub (a b : Rat) : sgn (a - b).num = cq a b := cq_sub a b
theorem sgn_pos {c : Rat} (h : ¬ sgn c.num ≤ 0) : 0 < c := by
  rw [← num_pos]
  unfold sgn at h
  split at h
  · exact absurd (by decide) h
  · split at h
    · assumption
    · exact absurd (by decide) h

set_option maxRecDepth 1000000 in
set_option maxHeartbeats 8000000 in
theorem qorder_walk (HS : SanQ) (A1 E1 : Option Addr) (n1 c1 m1 d1 : Nat) (s1 : Bool) (xs1 ys1 : List Nat) (A2 E2 : Option Addr) (n2 c2 m2 d2 : Nat) (s2 : Bool) (xs2 ys2 : List Nat) (A3 E3 : Option Addr) (n3 c3 m3 d3 : Nat) (s3 : Bool) (xs3 ys3 : List Nat) (w : World) (hx1 : Lim w w.heap.size A1 n1 c1 xs1) (hy1 : Lim w w.heap.size E1 m1 d1 ys1) (hx2 : Lim w w.heap.size A2 n2 c2 xs2) (hy2 : Lim w w.heap.size E2 m2 d2 ys2) (hx3 : Lim w w.heap.size A3 n3 c3 xs3) (hy3 : Lim w w.heap.size E3 m3 d3 ys3) :
    Calls Tryz.prog 5 #[.agg #[.slice A1 n1 c1, .slice E1 m1 d1, .bool s1], .agg #[.slice A2 n2 c2, .slice E2 m2 d2, .bool s2], .agg #[.slice A3 n3 c3, .slice E3 m3 d3, .bool s3]] w fun e w' => e = .returned (.bool true) ∧ Below w.heap.size w w' := by
  have HS' := Lib.hid HS
  clear HS
  have HM1 : Hid (∀ W, Below w.heap.size w W → Calls Tryz.prog 11 #[.agg #[.slice A1 n1 c1, .slice E1 m1 d1, .bool s1]] W (RetRat W (rawQ s1 xs1 ys1))) := fun W hW => rqfrom_z A1 E1 n1 c1 m1 d1 s1 w.heap.size xs1 ys1 W (hx1.below hW) (hy1.below hW) hW.size
  have Za := RSz.raw s1 xs1 ys1 hx1.lt hy1.lt
  have HM2 : Hid (∀ W, Below w.heap.size w W → Calls Tryz.prog 11 #[.agg #[.slice A2 n2 c2, .slice E2 m2 d2, .bool s2]] W (RetRat W (rawQ s2 xs2 ys2))) := fun W hW => rqfrom_z A2 E2 n2 c2 m2 d2 s2 w.heap.size xs2 ys2 W (hx2.below hW) (hy2.below hW) hW.size
  have Zb := RSz.raw s2 xs2 ys2 hx2.lt hy2.lt
  have HM3 : Hid (∀ W, Below w.heap.size w W → Calls Tryz.prog 11 #[.agg #[.slice A3 n3 c3, .slice E3 m3 d3, .bool s3]] W (RetRat W (rawQ s3 xs3 ys3))) := fun W hW => rqfrom_z A3 E3 n3 c3 m3 d3 s3 w.heap.size xs3 ys3 W (hx3.below hW) (hy3.below hW) hW.size
  have Zc := RSz.raw s3 xs3 ys3 hx3.lt hy3.lt
  generalize rawQ s1 xs1 ys1 = a at *
  generalize rawQ s2 xs2 ys2 = b at *
  generalize rawQ s3 xs3 ys3 = c at *
  clear hx1 hy1 hx2 hy2 hx3 hy3
  have b0 := (Below.refl w.heap.size w)
  have b1 := b0.alloc b0.size (.cells #[.slice A1 n1 c1, .slice E1 m1 d1, .bool s1] 24)
  have b2 := b1.alloc b1.size (.cells #[.slice A2 n2 c2, .slice E2 m2 d2, .bool s2] 24)
  have b3 := b2.alloc b2.size (.cells #[.slice A3 n3 c3, .slice E3 m3 d3, .bool s3] 24)
  have X1 := Slot3.new w (.slice A1 n1 c1) (.slice E1 m1 d1) (.bool s1) 24
  replace X1 := X1.alloc (.cells #[.slice A2 n2 c2, .slice E2 m2 d2, .bool s2] 24)
  replace X1 := X1.alloc (.cells #[.slice A3 n3 c3, .slice E3 m3 d3, .bool s3] 24)
  have X2 := Slot3.new (w.alloc (.cells #[.slice A1 n1 c1, .slice E1 m1 d1, .bool s1] 24)) (.slice A2 n2 c2) (.slice E2 m2 d2) (.bool s2) 24
  simp only [World.size_alloc] at X2
  replace X2 := X2.alloc (.cells #[.slice A3 n3 c3, .slice E3 m3 d3, .bool s3] 24)
  have X3 := Slot3.new ((w.alloc (.cells #[.slice A1 n1 c1, .slice E1 m1 d1, .bool s1] 24)).alloc (.cells #[.slice A2 n2 c2, .slice E2 m2 d2, .bool s2] 24)) (.slice A3 n3 c3) (.slice E3 m3 d3) (.bool s3) 24
  simp only [World.size_alloc] at X3
  go_enter Tryz.func5, Tryz.ntmps5
  generalize hW : ((w.alloc (.cells #[.slice A1 n1 c1, .slice E1 m1 d1, .bool s1] 24)).alloc (.cells #[.slice A2 n2 c2, .slice E2 m2 d2, .bool s2] 24)).alloc (.cells #[.slice A3 n3 c3, .slice E3 m3 d3, .bool s3] 24) = W0 at *
  go_wp2_with fail
  try rw [hW]
  clear hW
  refine (HS'.out _).mono ?_
  rintro e W1 ⟨rfl, hb1⟩
  have B1 := b3.trans (hb1.mono b3.size)
  replace X1 := X1.after hb1
  replace X2 := X2.after hb1
  replace X3 := X3.after hb1
  have HX : Hid (∀ V, Below W1.heap.size W1 V → (V.cell? ⟨w.heap.size, 0, none⟩ = some (.slice A1 n1 c1) ∧ V.cell? ⟨w.heap.size, 1, none⟩ = some (.slice E1 m1 d1) ∧ V.cell? ⟨w.heap.size, 2, none⟩ = some (.bool s1)) ∧ (V.cell? ⟨w.heap.size + 1, 0, none⟩ = some (.slice A2 n2 c2) ∧ V.cell? ⟨w.heap.size + 1, 1, none⟩ = some (.slice E2 m2 d2) ∧ V.cell? ⟨w.heap.size + 1, 2, none⟩ = some (.bool s2)) ∧ (V.cell? ⟨w.heap.size + 1 + 1, 0, none⟩ = some (.slice A3 n3 c3) ∧ V.cell? ⟨w.heap.size + 1 + 1, 1, none⟩ = some (.slice E3 m3 d3) ∧ V.cell? ⟨w.heap.size + 1 + 1, 2, none⟩ = some (.bool s3))) := fun V hV => ⟨(X1.after hV).cells, (X2.after hV).cells, (X3.after hV).cells⟩
  clear X1 X2 X3 b0 b1 b2 b3 hb1
  go_upto_region 2 with (fail)
  go_cut [8, 9, 10] (fun p0 p1 p2 wx => ∃ ga gb gc, p0 = .pointer (some ⟨ga, 0, none⟩) ∧ p1 = .pointer (some ⟨gb, 0, none⟩) ∧ p2 = .pointer (some ⟨gc, 0, none⟩) ∧ RatAt wx ga a ∧ RatAt wx gb b ∧ RatAt wx gc c ∧ Below w.heap.size w wx)
  case first =>
    as_aux_lemma =>
      refine wp_region_ev (fun d a0 a' w' => ∃ u16 u17 u18 u19 u20 u21 u8 u9 u10 : Value, a' = (((((((((a0.put (some 16) u16).put (some 17) u17).put (some 18) u18).put (some 19) u19).put (some 20) u20).put (some 21) u21).put (some 8) u8).put (some 9) u9).put (some 10) u10) ∧ Below W1.heap.size W1 w' ∧ (d 0 = true → u16 = .agg #[.slice A1 n1 c1, .slice E1 m1 d1, .bool s1]) ∧ (d 1 = true → RatV w' u17 (a)) ∧ (d 2 = true → u18 = .agg #[.slice A2 n2 c2, .slice E2 m2 d2, .bool s2]) ∧ (d 3 = true → RatV w' u19 (b)) ∧ (d 4 = true → u20 = .agg #[.slice A3 n3 c3, .slice E3 m3 d3, .bool s3]) ∧ (d 5 = true → RatV w' u21 (c)) ∧ (d 6 = true → OwnQ W1.heap.size w' u8 (d 9) (a)) ∧ (d 7 = true → OwnQ W1.heap.size w' u9 (d 10) (b)) ∧ (d 8 = true → OwnQ W1.heap.size w' u10 (d 11) (c)) ∧ (d 6 = true → d 7 = true → u8 ≠ u9) ∧ (d 6 = true → d 8 = true → u8 ≠ u10) ∧ (d 7 = true → d 8 = true → u9 ≠ u10) ∧ (d 9 = true → d 6 = true) ∧ (d 10 = true → d 7 = true) ∧ (d 11 = true → d 8 = true)) (by kernel_rfl) (by kernel_rfl) ?_ ?_ ?_ ?_
      · intro d d' h a' w' hh
        obtain rfl : d = d' := funext h
        exact hh
      · exact ⟨_, _, _, _, _, _, _, _, _, (by simp only [Act.put, List.setIfInBounds_toArray, List.set_cons_zero, List.set_cons_succ]; rfl), (Below.refl _ _).drew, (fun h => by cases h), (fun h => by cases h), (fun h => by cases h), (fun h => by cases h), (fun h => by cases h), (fun h => by cases h), (fun h => by cases h), (fun h => by cases h), (fun h => by cases h), (fun h => by cases h), (fun h => by cases h), (fun h => by cases h), (fun h => by cases h), (fun h => by cases h), (fun h => by cases h)⟩
      · refine ⟨?_, ?_, ?_, ?_, ?_, ?_, ?_, ?_, ?_, ?_, ?_, ?_, trivial⟩
        · intro d a2 w2 hd hm ⟨u16, u17, u18, u19, u20, u21, u8, u9, u10, e, HB, f0, f1, f2, f3, f4, f5, f6, f7, f8, n01, n02, n12, t0, t1, t2⟩ K hK
          subst e
          simp only [Act.put, List.setIfInBounds_toArray, List.set_cons_zero, List.set_cons_succ]
          obtain ⟨⟨q0, q1, q2⟩, ⟨q3, q4, q5⟩, ⟨q6, q7, q8⟩⟩ := HX.out w2 HB
          go_simp
          exact hK.out _ _ ⟨.agg #[.slice A1 n1 c1, .slice E1 m1 d1, .bool s1], u17, u18, u19, u20, u21, u8, u9, u10, (by simp only [Act.put, List.setIfInBounds_toArray, List.set_cons_zero, List.set_cons_succ]), HB, (fun _ => rfl), (fun h => (f1 (by simpa using h))), (fun h => f2 (by simpa using h)), (fun h => (f3 (by simpa using h))), (fun h => f4 (by simpa using h)), (fun h => (f5 (by simpa using h))), (fun h => by simpa using (f6 (by simpa using h))), (fun h => by simpa using (f7 (by simpa using h))), (fun h => by simpa using (f8 (by simpa using h))), (fun h h' => n01 (by simpa using h) (by simpa using h')), (fun h h' => n02 (by simpa using h) (by simpa using h')), (fun h h' => n12 (by simpa using h) (by simpa using h')), (fun h => by simpa using t0 (by simpa using h)), (fun h => by simpa using t1 (by simpa using h)), (fun h => by simpa using t2 (by simpa using h))⟩
        · intro d a2 w2 hd hm ⟨u16, u17, u18, u19, u20, u21, u8, u9, u10, e, HB, f0, f1, f2, f3, f4, f5, f6, f7, f8, n01, n02, n12, t0, t1, t2⟩ K hK
          subst e
          simp only [Act.put, List.setIfInBounds_toArray, List.set_cons_zero, List.set_cons_succ]
          obtain rfl := f0 (hm ⟨0, .data⟩ (by simp) rfl)
          clear f0
          go_simp
          (with_reducible refine (HM1.out _ (B1.trans (Below.mono HB B1.size))).mono ?_)
          rintro e w3 ⟨g1, A1', n1', c1', g2, A2', n2', c2', rfl, hi, hb⟩
          have HB3 := HB.trans (hb.mono HB.size)
          go_wp2_with fail
          exact hK.out _ _ ⟨.agg #[.slice A1 n1 c1, .slice E1 m1 d1, .bool s1], .agg #[.bool g1, .slice A1' n1' c1', .bool g2, .slice A2' n2' c2'], u18, u19, u20, u21, u8, u9, u10, (by simp only [Act.put, List.setIfInBounds_toArray, List.set_cons_zero, List.set_cons_succ]), HB3, (fun _ => rfl), (fun _ => ⟨_, _, _, _, _, _, _, _, rfl, hi⟩), (fun h => f2 (by simpa using h)), (fun h => (f3 (by simpa using h)).below hb), (fun h => f4 (by simpa using h)), (fun h => (f5 (by simpa using h)).below hb), (fun h => by simpa using (f6 (by simpa using h)).below hb), (fun h => by simpa using (f7 (by simpa using h)).below hb), (fun h => by simpa using (f8 (by simpa using h)).below hb), (fun h h' => n01 (by simpa using h) (by simpa using h')), (fun h h' => n02 (by simpa using h) (by simpa using h')), (fun h h' => n12 (by simpa using h) (by simpa using h')), (fun h => by simpa using t0 (by simpa using h)), (fun h => by simpa using t1 (by simpa using h)), (fun h => by simpa using t2 (by simpa using h))⟩
        · intro d a2 w2 hd hm ⟨u16, u17, u18, u19, u20, u21, u8, u9, u10, e, HB, f0, f1, f2, f3, f4, f5, f6, f7, f8, n01, n02, n12, t0, t1, t2⟩ K hK
          subst e
          simp only [Act.put, List.setIfInBounds_toArray, List.set_cons_zero, List.set_cons_succ]
          obtain ⟨⟨q0, q1, q2⟩, ⟨q3, q4, q5⟩, ⟨q6, q7, q8⟩⟩ := HX.out w2 HB
          go_simp
          exact hK.out _ _ ⟨u16, u17, .agg #[.slice A2 n2 c2, .slice E2 m2 d2, .bool s2], u19, u20, u21, u8, u9, u10, (by simp only [Act.put, List.setIfInBounds_toArray, List.set_cons_zero, List.set_cons_succ]), HB, (fun h => f0 (by simpa using h)), (fun h => (f1 (by simpa using h))), (fun _ => rfl), (fun h => (f3 (by simpa using h))), (fun h => f4 (by simpa using h)), (fun h => (f5 (by simpa using h))), (fun h => by simpa using (f6 (by simpa using h))), (fun h => by simpa using (f7 (by simpa using h))), (fun h => by simpa using (f8 (by simpa using h))), (fun h h' => n01 (by simpa using h) (by simpa using h')), (fun h h' => n02 (by simpa using h) (by simpa using h')), (fun h h' => n12 (by simpa using h) (by simpa using h')), (fun h => by simpa using t0 (by simpa using h)), (fun h => by simpa using t1 (by simpa using h)), (fun h => by simpa using t2 (by simpa using h))⟩
        · intro d a2 w2 hd hm ⟨u16, u17, u18, u19, u20, u21, u8, u9, u10, e, HB, f0, f1, f2, f3, f4, f5, f6, f7, f8, n01, n02, n12, t0, t1, t2⟩ K hK
          subst e
          simp only [Act.put, List.setIfInBounds_toArray, List.set_cons_zero, List.set_cons_succ]
          obtain rfl := f2 (hm ⟨2, .data⟩ (by simp) rfl)
          clear f2
          go_simp
          (with_reducible refine (HM2.out _ (B1.trans (Below.mono HB B1.size))).mono ?_)
          rintro e w3 ⟨g1, A1', n1', c1', g2, A2', n2', c2', rfl, hi, hb⟩
          have HB3 := HB.trans (hb.mono HB.size)
          go_wp2_with fail
          exact hK.out _ _ ⟨u16, u17, .agg #[.slice A2 n2 c2, .slice E2 m2 d2, .bool s2], .agg #[.bool g1, .slice A1' n1' c1', .bool g2, .slice A2' n2' c2'], u20, u21, u8, u9, u10, (by simp only [Act.put, List.setIfInBounds_toArray, List.set_cons_zero, List.set_cons_succ]), HB3, (fun h => f0 (by simpa using h)), (fun h => (f1 (by simpa using h)).below hb), (fun _ => rfl), (fun _ => ⟨_, _, _, _, _, _, _, _, rfl, hi⟩), (fun h => f4 (by simpa using h)), (fun h => (f5 (by simpa using h)).below hb), (fun h => by simpa using (f6 (by simpa using h)).below hb), (fun h => by simpa using (f7 (by simpa using h)).below hb), (fun h => by simpa using (f8 (by simpa using h)).below hb), (fun h h' => n01 (by simpa using h) (by simpa using h')), (fun h h' => n02 (by simpa using h) (by simpa using h')), (fun h h' => n12 (by simpa using h) (by simpa using h')), (fun h => by simpa using t0 (by simpa using h)), (fun h => by simpa using t1 (by simpa using h)), (fun h => by simpa using t2 (by simpa using h))⟩
        · intro d a2 w2 hd hm ⟨u16, u17, u18, u19, u20, u21, u8, u9, u10, e, HB, f0, f1, f2, f3, f4, f5, f6, f7, f8, n01, n02, n12, t0, t1, t2⟩ K hK
          subst e
          simp only [Act.put, List.setIfInBounds_toArray, List.set_cons_zero, List.set_cons_succ]
          obtain ⟨⟨q0, q1, q2⟩, ⟨q3, q4, q5⟩, ⟨q6, q7, q8⟩⟩ := HX.out w2 HB
          go_simp
          exact hK.out _ _ ⟨u16, u17, u18, u19, .agg #[.slice A3 n3 c3, .slice E3 m3 d3, .bool s3], u21, u8, u9, u10, (by simp only [Act.put, List.setIfInBounds_toArray, List.set_cons_zero, List.set_cons_succ]), HB, (fun h => f0 (by simpa using h)), (fun h => (f1 (by simpa using h))), (fun h => f2 (by simpa using h)), (fun h => (f3 (by simpa using h))), (fun _ => rfl), (fun h => (f5 (by simpa using h))), (fun h => by simpa using (f6 (by simpa using h))), (fun h => by simpa using (f7 (by simpa using h))), (fun h => by simpa using (f8 (by simpa using h))), (fun h h' => n01 (by simpa using h) (by simpa using h')), (fun h h' => n02 (by simpa using h) (by simpa using h')), (fun h h' => n12 (by simpa using h) (by simpa using h')), (fun h => by simpa using t0 (by simpa using h)), (fun h => by simpa using t1 (by simpa using h)), (fun h => by simpa using t2 (by simpa using h))⟩
        · intro d a2 w2 hd hm ⟨u16, u17, u18, u19, u20, u21, u8, u9, u10, e, HB, f0, f1, f2, f3, f4, f5, f6, f7, f8, n01, n02, n12, t0, t1, t2⟩ K hK
          subst e
          simp only [Act.put, List.setIfInBounds_toArray, List.set_cons_zero, List.set_cons_succ]
          obtain rfl := f4 (hm ⟨4, .data⟩ (by simp) rfl)
          clear f4
          go_simp
          (with_reducible refine (HM3.out _ (B1.trans (Below.mono HB B1.size))).mono ?_)
          rintro e w3 ⟨g1, A1', n1', c1', g2, A2', n2', c2', rfl, hi, hb⟩
          have HB3 := HB.trans (hb.mono HB.size)
          go_wp2_with fail
          exact hK.out _ _ ⟨u16, u17, u18, u19, .agg #[.slice A3 n3 c3, .slice E3 m3 d3, .bool s3], .agg #[.bool g1, .slice A1' n1' c1', .bool g2, .slice A2' n2' c2'], u8, u9, u10, (by simp only [Act.put, List.setIfInBounds_toArray, List.set_cons_zero, List.set_cons_succ]), HB3, (fun h => f0 (by simpa using h)), (fun h => (f1 (by simpa using h)).below hb), (fun h => f2 (by simpa using h)), (fun h => (f3 (by simpa using h)).below hb), (fun _ => rfl), (fun _ => ⟨_, _, _, _, _, _, _, _, rfl, hi⟩), (fun h => by simpa using (f6 (by simpa using h)).below hb), (fun h => by simpa using (f7 (by simpa using h)).below hb), (fun h => by simpa using (f8 (by simpa using h)).below hb), (fun h h' => n01 (by simpa using h) (by simpa using h')), (fun h h' => n02 (by simpa using h) (by simpa using h')), (fun h h' => n12 (by simpa using h) (by simpa using h')), (fun h => by simpa using t0 (by simpa using h)), (fun h => by simpa using t1 (by simpa using h)), (fun h => by simpa using t2 (by simpa using h))⟩
        · intro d a2 w2 hd hm ⟨u16, u17, u18, u19, u20, u21, u8, u9, u10, e, HB, f0, f1, f2, f3, f4, f5, f6, f7, f8, n01, n02, n12, t0, t1, t2⟩ K hK
          subst e
          simp only [Act.put, List.setIfInBounds_toArray, List.set_cons_zero, List.set_cons_succ]
          have hb : Below w2.heap.size w2 (w2.alloc (.cells #[.bool false, .slice none 0 0, .bool false, .slice none 0 0] 28)) := (Below.refl _ _).alloc (Nat.le_refl _) _
          have HB3 := HB.trans (hb.mono HB.size)
          go_simp
          exact hK.out _ _ ⟨u16, u17, u18, u19, u20, u21, .pointer (some ⟨w2.heap.size, 0, none⟩), u9, u10, (by simp only [Act.put, List.setIfInBounds_toArray, List.set_cons_zero, List.set_cons_succ]), HB3, (fun h => f0 (by simpa using h)), (fun h => (f1 (by simpa using h)).below hb), (fun h => f2 (by simpa using h)), (fun h => (f3 (by simpa using h)).below hb), (fun h => f4 (by simpa using h)), (fun h => (f5 (by simpa using h)).below hb), (fun _ => by have hs : d 9 = false := (by cases hq : d 9 with | false => rfl | true => (have hz := t0 hq; rw [hd] at hz; cases hz)); simpa [hs] using OwnQ.new HB.size (a)), (fun h => by simpa using (f7 (by simpa using h)).below hb), (fun h => by simpa using (f8 (by simpa using h)).below hb), (fun _ h' => ((f7 (by simpa using h')).lt).symm), (fun _ h' => ((f8 (by simpa using h')).lt).symm), (fun h h' => n12 (by simpa using h) (by simpa using h')), (fun _ => by simp), (fun h => by simpa using t1 (by simpa using h)), (fun h => by simpa using t2 (by simpa using h))⟩
        · intro d a2 w2 hd hm ⟨u16, u17, u18, u19, u20, u21, u8, u9, u10, e, HB, f0, f1, f2, f3, f4, f5, f6, f7, f8, n01, n02, n12, t0, t1, t2⟩ K hK
          subst e
          simp only [Act.put, List.setIfInBounds_toArray, List.set_cons_zero, List.set_cons_succ]
          have hb : Below w2.heap.size w2 (w2.alloc (.cells #[.bool false, .slice none 0 0, .bool false, .slice none 0 0] 28)) := (Below.refl _ _).alloc (Nat.le_refl _) _
          have HB3 := HB.trans (hb.mono HB.size)
          go_simp
          exact hK.out _ _ ⟨u16, u17, u18, u19, u20, u21, u8, .pointer (some ⟨w2.heap.size, 0, none⟩), u10, (by simp only [Act.put, List.setIfInBounds_toArray, List.set_cons_zero, List.set_cons_succ]), HB3, (fun h => f0 (by simpa using h)), (fun h => (f1 (by simpa using h)).below hb), (fun h => f2 (by simpa using h)), (fun h => (f3 (by simpa using h)).below hb), (fun h => f4 (by simpa using h)), (fun h => (f5 (by simpa using h)).below hb), (fun h => by simpa using (f6 (by simpa using h)).below hb), (fun _ => by have hs : d 10 = false := (by cases hq : d 10 with | false => rfl | true => (have hz := t1 hq; rw [hd] at hz; cases hz)); simpa [hs] using OwnQ.new HB.size (b)), (fun h => by simpa using (f8 (by simpa using h)).below hb), (fun h _ => (f6 (by simpa using h)).lt), (fun h h' => n02 (by simpa using h) (by simpa using h')), (fun _ h' => ((f8 (by simpa using h')).lt).symm), (fun h => by simpa using t0 (by simpa using h)), (fun _ => by simp), (fun h => by simpa using t2 (by simpa using h))⟩
        · intro d a2 w2 hd hm ⟨u16, u17, u18, u19, u20, u21, u8, u9, u10, e, HB, f0, f1, f2, f3, f4, f5, f6, f7, f8, n01, n02, n12, t0, t1, t2⟩ K hK
          subst e
          simp only [Act.put, List.setIfInBounds_toArray, List.set_cons_zero, List.set_cons_succ]
          have hb : Below w2.heap.size w2 (w2.alloc (.cells #[.bool false, .slice none 0 0, .bool false, .slice none 0 0] 28)) := (Below.refl _ _).alloc (Nat.le_refl _) _
          have HB3 := HB.trans (hb.mono HB.size)
          go_simp
          exact hK.out _ _ ⟨u16, u17, u18, u19, u20, u21, u8, u9, .pointer (some ⟨w2.heap.size, 0, none⟩), (by simp only [Act.put, List.setIfInBounds_toArray, List.set_cons_zero, List.set_cons_succ]), HB3, (fun h => f0 (by simpa using h)), (fun h => (f1 (by simpa using h)).below hb), (fun h => f2 (by simpa using h)), (fun h => (f3 (by simpa using h)).below hb), (fun h => f4 (by simpa using h)), (fun h => (f5 (by simpa using h)).below hb), (fun h => by simpa using (f6 (by simpa using h)).below hb), (fun h => by simpa using (f7 (by simpa using h)).below hb), (fun _ => by have hs : d 11 = false := (by cases hq : d 11 with | false => rfl | true => (have hz := t2 hq; rw [hd] at hz; cases hz)); simpa [hs] using OwnQ.new HB.size (c)), (fun h h' => n01 (by simpa using h) (by simpa using h')), (fun h _ => (f6 (by simpa using h)).lt), (fun h _ => (f7 (by simpa using h)).lt), (fun h => by simpa using t0 (by simpa using h)), (fun h => by simpa using t1 (by simpa using h)), (fun _ => by simp)⟩
        · intro d a2 w2 hd hm ⟨u16, u17, u18, u19, u20, u21, u8, u9, u10, e, HB, f0, f1, f2, f3, f4, f5, f6, f7, f8, n01, n02, n12, t0, t1, t2⟩ K hK
          subst e
          simp only [Act.put, List.setIfInBounds_toArray, List.set_cons_zero, List.set_cons_succ]
          obtain ⟨gg, AA, nn, cc, gg', AA', nn', cc', rfl, hi⟩ := f1 (hm ⟨1, .data⟩ (by simp) rfl)
          obtain ⟨g, rfl, hg, b0, b1, b2, b3, hs, n0, n1, n2, n3, _⟩ := f6 (hm ⟨6, .data⟩ (by simp) rfl)
          obtain ⟨k0, k1, k2, k3, k4, k5, k6, k7, k8⟩ := id hs
          go_simp
          exact hK.out _ _ ⟨u16, .agg #[.bool gg, .slice AA nn cc, .bool gg', .slice AA' nn' cc'], u18, u19, u20, u21, .pointer (some ⟨g, 0, none⟩), u9, u10, (by simp only [Act.put, List.setIfInBounds_toArray, List.set_cons_zero, List.set_cons_succ]), Below.set4 HB hg _ _ _ _, (fun h => f0 (by simpa using h)), (fun h => (f1 (by simpa using h)).set4 hs n0 n1 n2 n3 _ _ _ _), (fun h => f2 (by simpa using h)), (fun h => (f3 (by simpa using h)).set4 hs n0 n1 n2 n3 _ _ _ _), (fun h => f4 (by simpa using h)), (fun h => (f5 (by simpa using h)).set4 hs n0 n1 n2 n3 _ _ _ _), (fun _ => by simpa using OwnQ.near hi hg hs n0 n1 n2 n3), (fun h => by simpa using (f7 (by simpa using h)).far ((n01 (hm ⟨6, .data⟩ (by simp) rfl) (by simpa using h)).symm) hs n0 n1 n2 n3 _ _ _ _), (fun h => by simpa using (f8 (by simpa using h)).far ((n02 (hm ⟨6, .data⟩ (by simp) rfl) (by simpa using h)).symm) hs n0 n1 n2 n3 _ _ _ _), (fun h h' => n01 (by simpa using h) (by simpa using h')), (fun h h' => n02 (by simpa using h) (by simpa using h')), (fun h h' => n12 (by simpa using h) (by simpa using h')), (fun _ => by simpa using hm ⟨6, .data⟩ (by simp) rfl), (fun h => by simpa using t1 (by simpa using h)), (fun h => by simpa using t2 (by simpa using h))⟩
        · intro d a2 w2 hd hm ⟨u16, u17, u18, u19, u20, u21, u8, u9, u10, e, HB, f0, f1, f2, f3, f4, f5, f6, f7, f8, n01, n02, n12, t0, t1, t2⟩ K hK
          subst e
          simp only [Act.put, List.setIfInBounds_toArray, List.set_cons_zero, List.set_cons_succ]
          obtain ⟨gg, AA, nn, cc, gg', AA', nn', cc', rfl, hi⟩ := f3 (hm ⟨3, .data⟩ (by simp) rfl)
          obtain ⟨g, rfl, hg, b0, b1, b2, b3, hs, n0, n1, n2, n3, _⟩ := f7 (hm ⟨7, .data⟩ (by simp) rfl)
          obtain ⟨k0, k1, k2, k3, k4, k5, k6, k7, k8⟩ := id hs
          go_simp
          exact hK.out _ _ ⟨u16, u17, u18, .agg #[.bool gg, .slice AA nn cc, .bool gg', .slice AA' nn' cc'], u20, u21, u8, .pointer (some ⟨g, 0, none⟩), u10, (by simp only [Act.put, List.setIfInBounds_toArray, List.set_cons_zero, List.set_cons_succ]), Below.set4 HB hg _ _ _ _, (fun h => f0 (by simpa using h)), (fun h => (f1 (by simpa using h)).set4 hs n0 n1 n2 n3 _ _ _ _), (fun h => f2 (by simpa using h)), (fun h => (f3 (by simpa using h)).set4 hs n0 n1 n2 n3 _ _ _ _), (fun h => f4 (by simpa using h)), (fun h => (f5 (by simpa using h)).set4 hs n0 n1 n2 n3 _ _ _ _), (fun h => by simpa using (f6 (by simpa using h)).far (n01 (by simpa using h) (hm ⟨7, .data⟩ (by simp) rfl)) hs n0 n1 n2 n3 _ _ _ _), (fun _ => by simpa using OwnQ.near hi hg hs n0 n1 n2 n3), (fun h => by simpa using (f8 (by simpa using h)).far ((n12 (hm ⟨7, .data⟩ (by simp) rfl) (by simpa using h)).symm) hs n0 n1 n2 n3 _ _ _ _), (fun h h' => n01 (by simpa using h) (by simpa using h')), (fun h h' => n02 (by simpa using h) (by simpa using h')), (fun h h' => n12 (by simpa using h) (by simpa using h')), (fun h => by simpa using t0 (by simpa using h)), (fun _ => by simpa using hm ⟨7, .data⟩ (by simp) rfl), (fun h => by simpa using t2 (by simpa using h))⟩
        · intro d a2 w2 hd hm ⟨u16, u17, u18, u19, u20, u21, u8, u9, u10, e, HB, f0, f1, f2, f3, f4, f5, f6, f7, f8, n01, n02, n12, t0, t1, t2⟩ K hK
          subst e
          simp only [Act.put, List.setIfInBounds_toArray, List.set_cons_zero, List.set_cons_succ]
          obtain ⟨gg, AA, nn, cc, gg', AA', nn', cc', rfl, hi⟩ := f5 (hm ⟨5, .data⟩ (by simp) rfl)
          obtain ⟨g, rfl, hg, b0, b1, b2, b3, hs, n0, n1, n2, n3, _⟩ := f8 (hm ⟨8, .data⟩ (by simp) rfl)
          obtain ⟨k0, k1, k2, k3, k4, k5, k6, k7, k8⟩ := id hs
          go_simp
          exact hK.out _ _ ⟨u16, u17, u18, u19, u20, .agg #[.bool gg, .slice AA nn cc, .bool gg', .slice AA' nn' cc'], u8, u9, .pointer (some ⟨g, 0, none⟩), (by simp only [Act.put, List.setIfInBounds_toArray, List.set_cons_zero, List.set_cons_succ]), Below.set4 HB hg _ _ _ _, (fun h => f0 (by simpa using h)), (fun h => (f1 (by simpa using h)).set4 hs n0 n1 n2 n3 _ _ _ _), (fun h => f2 (by simpa using h)), (fun h => (f3 (by simpa using h)).set4 hs n0 n1 n2 n3 _ _ _ _), (fun h => f4 (by simpa using h)), (fun h => (f5 (by simpa using h)).set4 hs n0 n1 n2 n3 _ _ _ _), (fun h => by simpa using (f6 (by simpa using h)).far (n02 (by simpa using h) (hm ⟨8, .data⟩ (by simp) rfl)) hs n0 n1 n2 n3 _ _ _ _), (fun h => by simpa using (f7 (by simpa using h)).far (n12 (by simpa using h) (hm ⟨8, .data⟩ (by simp) rfl)) hs n0 n1 n2 n3 _ _ _ _), (fun _ => by simpa using OwnQ.near hi hg hs n0 n1 n2 n3), (fun h h' => n01 (by simpa using h) (by simpa using h')), (fun h h' => n02 (by simpa using h) (by simpa using h')), (fun h h' => n12 (by simpa using h) (by simpa using h')), (fun h => by simpa using t0 (by simpa using h)), (fun h => by simpa using t1 (by simpa using h)), (fun _ => by simpa using hm ⟨8, .data⟩ (by simp) rfl)⟩
      · intro d a2 w2 hall ⟨u16, u17, u18, u19, u20, u21, u8, u9, u10, e, HB, f0, f1, f2, f3, f4, f5, f6, f7, f8, n01, n02, n12, t0, t1, t2⟩
        subst e
        simp only [Act.put, List.setIfInBounds_toArray, List.set_cons_zero, List.set_cons_succ]
        obtain rfl := f0 (hall _ (by decide))
        obtain rfl := f2 (hall _ (by decide))
        obtain rfl := f4 (hall _ (by decide))
        obtain ⟨g0, rfl, h0, b0⟩ := OwnQ.ratAtB (by have := f6 (hall _ (by decide)); rwa [hall 9 (by decide)] at this)
        obtain ⟨g1, rfl, h1, b1⟩ := OwnQ.ratAtB (by have := f7 (hall _ (by decide)); rwa [hall 10 (by decide)] at this)
        obtain ⟨g2, rfl, h2, b2⟩ := OwnQ.ratAtB (by have := f8 (hall _ (by decide)); rwa [hall 11 (by decide)] at this)
        go_wp2_with fail
        go_meet
        exact ⟨g0, g1, g2, rfl, rfl, rfl, h0, h1, h2, B1.trans (HB.mono B1.size)⟩
  case rest =>
  obtain ⟨ga, gb, gc, rfl, rfl, rfl, Ta, Tb, Tc, B⟩ := hcut
  clear B1 HX HM1 HM2 HM3
  obtain ⟨W2, rfl⟩ : ∃ x : World, x = wc := ⟨_, rfl⟩

  obtain ⟨gn_a, An_a, nn_a, cn_a, gd_a, Ad_a, nd_a, cd_a, Sa, Ia⟩ := Ta
  obtain ⟨gn_b, An_b, nn_b, cn_b, gd_b, Ad_b, nd_b, cd_b, Sb, Ib⟩ := Tb
  obtain ⟨gn_c, An_c, nn_c, cn_c, gd_c, Ad_c, nd_c, cd_c, Sc, Ic⟩ := Tc
  obtain ⟨x, hx⟩ : ∃ x, cq a b = x := ⟨_, rfl⟩
  have HX := Lib.hid hx
  clear hx
  have ⟨Sac0, Sac1, Sac2, Sac3, _⟩ := Sa
  have ⟨Sbc0, Sbc1, Sbc2, Sbc3, _⟩ := Sb
  go_wp2_with fail
  (with_reducible refine (qcmp_z gn_a An_a nn_a cn_a gd_a Ad_a nd_a cd_a gn_b An_b nn_b cn_b gd_b Ad_b nd_b cd_b _ x Ia Ib Za Zb (by decide) HX.out).mono ?_)
  rintro e w1 ⟨rfl, bx⟩
  clear Sac0 Sac1 Sac2 Sac3 Sbc0 Sbc1 Sbc2 Sbc3
  replace Sa := Sa.after bx
  replace Ia := Ia.below bx
  replace Sb := Sb.after bx
  replace Ib := Ib.below bx
  replace Sc := Sc.after bx
  replace Ic := Ic.below bx
  replace B := B.trans (bx.mono B.size)
  clear bx
  generalize w1 = W3 at *
  go_upto_region 4 with (fail)
  go_cut [12] (fun s wx => s = .bool true ∧ Below W3.heap.size W3 wx)
  case first =>
    have h3 := cq_three a b
    rw [HX.out] at h3
    clear B
    rcases h3 with h | h | h
    case' inl =>
      as_aux_lemma =>
        subst h
        have HN : Hid (cq b a = 1) := by have h := cq_neg b a; rw [HX.out] at h; exact h
        have HE : Hid (false = decide (a = b)) := (decide_eq_false (fun h => by have h2 := (cq_zero a b).2 h; rw [HX.out] at h2; cases h2)).symm
        have HG : Hid (sgn (a - b).num = -1) := (sgn_sub a b).trans HX.out
        have D := Below.refl W3.heap.size W3
        have ⟨Sac0, Sac1, Sac2, Sac3, _⟩ := Sa
        have ⟨Sbc0, Sbc1, Sbc2, Sbc3, _⟩ := Sb
        go_wp2_with fail
        (with_reducible refine (qcmp_z gn_b An_b nn_b cn_b gd_b Ad_b nd_b cd_b gn_a An_a nn_a cn_a gd_a Ad_a nd_a cd_a _ (1) Ib Ia Zb Za (by decide) HN.out).mono ?_)
        rintro e w1 ⟨rfl, bm⟩
        clear Sac0 Sac1 Sac2 Sac3 Sbc0 Sbc1 Sbc2 Sbc3
        replace Sa := Sa.after bm
        replace Ia := Ia.below bm
        replace Sb := Sb.after bm
        replace Ib := Ib.below bm
        replace D := D.trans (bm.mono D.size)
        clear bm
        have ⟨Sac0, Sac1, Sac2, Sac3, _⟩ := Sa
        have ⟨Sbc0, Sbc1, Sbc2, Sbc3, _⟩ := Sb
        go_wp2_with fail
        (with_reducible refine (rqsame_v gn_a An_a nn_a cn_a gd_a Ad_a nd_a cd_a gn_b An_b nn_b cn_b gd_b Ad_b nd_b cd_b _ false Ia Ib HE.out).mono ?_)
        rintro e w2 ⟨rfl, bs⟩
        clear Sac0 Sac1 Sac2 Sac3 Sbc0 Sbc1 Sbc2 Sbc3
        replace Sa := Sa.after bs
        replace Ia := Ia.below bs
        replace Sb := Sb.after bs
        replace Ib := Ib.below bs
        replace D := D.trans (bs.mono D.size)
        clear bs
        have ⟨Sac0, Sac1, Sac2, Sac3, _⟩ := Sa
        have ⟨Sbc0, Sbc1, Sbc2, Sbc3, _⟩ := Sb
        go_wp2_with fail
        (with_reducible refine (qsub_z gn_a An_a nn_a cn_a gd_a Ad_a nd_a cd_a gn_b An_b nn_b cn_b gd_b Ad_b nd_b cd_b _ Ia Ib Za Zb (by decide)).mono ?_)
        rintro e w3 ⟨gnd, And, nnd, cnd, gdd, Add, ndd, cdd, rfl, id, bd⟩
        clear Sac0 Sac1 Sac2 Sac3 Sbc0 Sbc1 Sbc2 Sbc3
        replace Sa := Sa.after bd
        replace Ia := Ia.below bd
        replace Sb := Sb.after bd
        replace Ib := Ib.below bd
        replace D := D.trans (bd.mono D.size)
        clear bd
        go_wp2_with fail
        (with_reducible refine (qsign_z gnd And nnd cnd gdd Add ndd cdd (-1) _ id.num HG.out).mono ?_)
        rintro e w4 ⟨rfl, bg⟩
        replace Sa := Sa.after bg
        replace Ia := Ia.below bg
        replace Sb := Sb.after bg
        replace Ib := Ib.below bg
        replace id := id.below bg
        replace D := D.trans (bg.mono D.size)
        clear bg
        go_wp2_with fail
        go_meet
        exact ⟨rfl, D⟩
    case' inr.inl =>
      as_aux_lemma =>
        subst h
        have HN : Hid (cq b a = 0) := by have h := cq_neg b a; rw [HX.out] at h; exact h
        have HE : Hid (true = decide (a = b)) := (decide_eq_true ((cq_zero a b).1 HX.out)).symm
        have HG : Hid (sgn (a - b).num = 0) := (sgn_sub a b).trans HX.out
        have D := Below.refl W3.heap.size W3
        have ⟨Sac0, Sac1, Sac2, Sac3, _⟩ := Sa
        have ⟨Sbc0, Sbc1, Sbc2, Sbc3, _⟩ := Sb
        go_wp2_with fail
        (with_reducible refine (qcmp_z gn_b An_b nn_b cn_b gd_b Ad_b nd_b cd_b gn_a An_a nn_a cn_a gd_a Ad_a nd_a cd_a _ (0) Ib Ia Zb Za (by decide) HN.out).mono ?_)
        rintro e w1 ⟨rfl, bm⟩
        clear Sac0 Sac1 Sac2 Sac3 Sbc0 Sbc1 Sbc2 Sbc3
        replace Sa := Sa.after bm
        replace Ia := Ia.below bm
        replace Sb := Sb.after bm
        replace Ib := Ib.below bm
        replace D := D.trans (bm.mono D.size)
        clear bm
        have ⟨Sac0, Sac1, Sac2, Sac3, _⟩ := Sa
        have ⟨Sbc0, Sbc1, Sbc2, Sbc3, _⟩ := Sb
        go_wp2_with fail
        (with_reducible refine (rqsame_v gn_a An_a nn_a cn_a gd_a Ad_a nd_a cd_a gn_b An_b nn_b cn_b gd_b Ad_b nd_b cd_b _ true Ia Ib HE.out).mono ?_)
        rintro e w2 ⟨rfl, bs⟩
        clear Sac0 Sac1 Sac2 Sac3 Sbc0 Sbc1 Sbc2 Sbc3
        replace Sa := Sa.after bs
        replace Ia := Ia.below bs
        replace Sb := Sb.after bs
        replace Ib := Ib.below bs
        replace D := D.trans (bs.mono D.size)
        clear bs
        have ⟨Sac0, Sac1, Sac2, Sac3, _⟩ := Sa
        have ⟨Sbc0, Sbc1, Sbc2, Sbc3, _⟩ := Sb
        go_wp2_with fail
        (with_reducible refine (qsub_z gn_a An_a nn_a cn_a gd_a Ad_a nd_a cd_a gn_b An_b nn_b cn_b gd_b Ad_b nd_b cd_b _ Ia Ib Za Zb (by decide)).mono ?_)
        rintro e w3 ⟨gnd, And, nnd, cnd, gdd, Add, ndd, cdd, rfl, id, bd⟩
        clear Sac0 Sac1 Sac2 Sac3 Sbc0 Sbc1 Sbc2 Sbc3
        replace Sa := Sa.after bd
        replace Ia := Ia.below bd
        replace Sb := Sb.after bd
        replace Ib := Ib.below bd
        replace D := D.trans (bd.mono D.size)
        clear bd
        go_wp2_with fail
        (with_reducible refine (qsign_z gnd And nnd cnd gdd Add ndd cdd (0) _ id.num HG.out).mono ?_)
        rintro e w4 ⟨rfl, bg⟩
        replace Sa := Sa.after bg
        replace Ia := Ia.below bg
        replace Sb := Sb.after bg
        replace Ib := Ib.below bg
        replace id := id.below bg
        replace D := D.trans (bg.mono D.size)
        clear bg
        go_wp2_with fail
        go_meet
        exact ⟨rfl, D⟩
    case' inr.inr =>
      as_aux_lemma =>
        subst h
        have HN : Hid (cq b a = -1) := by have h := cq_neg b a; rw [HX.out] at h; exact h
        have HE : Hid (false = decide (a = b)) := (decide_eq_false (fun h => by have h2 := (cq_zero a b).2 h; rw [HX.out] at h2; cases h2)).symm
        have HG : Hid (sgn (a - b).num = 1) := (sgn_sub a b).trans HX.out
        have D := Below.refl W3.heap.size W3
        have ⟨Sac0, Sac1, Sac2, Sac3, _⟩ := Sa
        have ⟨Sbc0, Sbc1, Sbc2, Sbc3, _⟩ := Sb
        go_wp2_with fail
        (with_reducible refine (qcmp_z gn_b An_b nn_b cn_b gd_b Ad_b nd_b cd_b gn_a An_a nn_a cn_a gd_a Ad_a nd_a cd_a _ (-1) Ib Ia Zb Za (by decide) HN.out).mono ?_)
        rintro e w1 ⟨rfl, bm⟩
        clear Sac0 Sac1 Sac2 Sac3 Sbc0 Sbc1 Sbc2 Sbc3
        replace Sa := Sa.after bm
        replace Ia := Ia.below bm
        replace Sb := Sb.after bm
        replace Ib := Ib.below bm
        replace D := D.trans (bm.mono D.size)
        clear bm
        have ⟨Sac0, Sac1, Sac2, Sac3, _⟩ := Sa
        have ⟨Sbc0, Sbc1, Sbc2, Sbc3, _⟩ := Sb
        go_wp2_with fail
        (with_reducible refine (rqsame_v gn_a An_a nn_a cn_a gd_a Ad_a nd_a cd_a gn_b An_b nn_b cn_b gd_b Ad_b nd_b cd_b _ false Ia Ib HE.out).mono ?_)
        rintro e w2 ⟨rfl, bs⟩
        clear Sac0 Sac1 Sac2 Sac3 Sbc0 Sbc1 Sbc2 Sbc3
        replace Sa := Sa.after bs
        replace Ia := Ia.below bs
        replace Sb := Sb.after bs
        replace Ib := Ib.below bs
        replace D := D.trans (bs.mono D.size)
        clear bs
        have ⟨Sac0, Sac1, Sac2, Sac3, _⟩ := Sa
        have ⟨Sbc0, Sbc1, Sbc2, Sbc3, _⟩ := Sb
        go_wp2_with fail
        (with_reducible refine (qsub_z gn_a An_a nn_a cn_a gd_a Ad_a nd_a cd_a gn_b An_b nn_b cn_b gd_b Ad_b nd_b cd_b _ Ia Ib Za Zb (by decide)).mono ?_)
        rintro e w3 ⟨gnd, And, nnd, cnd, gdd, Add, ndd, cdd, rfl, id, bd⟩
        clear Sac0 Sac1 Sac2 Sac3 Sbc0 Sbc1 Sbc2 Sbc3
        replace Sa := Sa.after bd
        replace Ia := Ia.below bd
        replace Sb := Sb.after bd
        replace Ib := Ib.below bd
        replace D := D.trans (bd.mono D.size)
        clear bd
        go_wp2_with fail
        (with_reducible refine (qsign_z gnd And nnd cnd gdd Add ndd cdd (1) _ id.num HG.out).mono ?_)
        rintro e w4 ⟨rfl, bg⟩
        replace Sa := Sa.after bg
        replace Ia := Ia.below bg
        replace Sb := Sb.after bg
        replace Ib := Ib.below bg
        replace id := id.below bg
        replace D := D.trans (bg.mono D.size)
        clear bg
        go_wp2_with fail
        go_meet
        exact ⟨rfl, D⟩
  case rest =>
  obtain ⟨rfl, DC⟩ := hcut
  obtain ⟨W4, rfl⟩ : ∃ x : World, x = wc := ⟨_, rfl⟩
  replace Sa := Sa.after DC
  replace Ia := Ia.below DC
  replace Sb := Sb.after DC
  replace Ib := Ib.below DC
  replace Sc := Sc.after DC
  replace Ic := Ic.below DC
  replace B := B.trans (DC.mono B.size)
  clear DC
  go_upto_region 5 with (fail)
  go_cut [13] (fun s wx => s = .bool true ∧ Below W4.heap.size W4 wx)
  case first =>
    clear B
    have D := Below.refl W4.heap.size W4
    by_cases hx0 : 0 < x
    case' pos =>
      as_aux_lemma =>
        go_wp2_with fail
        go_meet
        exact ⟨rfl, D⟩
    case' neg =>
      obtain ⟨y, hy⟩ : ∃ y, cq b c = y := ⟨_, rfl⟩
      have HY := Lib.hid hy
      by_cases hy0 : 0 < y
      case' pos =>
        as_aux_lemma =>
          clear hy
          have ⟨Sbc0, Sbc1, Sbc2, Sbc3, _⟩ := Sb
          have ⟨Scc0, Scc1, Scc2, Scc3, _⟩ := Sc
          go_wp2_with fail
          (with_reducible refine (qcmp_z gn_b An_b nn_b cn_b gd_b Ad_b nd_b cd_b gn_c An_c nn_c cn_c gd_c Ad_c nd_c cd_c _ y Ib Ic Zb Zc (by decide) HY.out).mono ?_)
          rintro e w1 ⟨rfl, bm⟩
          clear Sbc0 Sbc1 Sbc2 Sbc3 Scc0 Scc1 Scc2 Scc3
          replace Sa := Sa.after bm
          replace Ia := Ia.below bm
          replace Sb := Sb.after bm
          replace Ib := Ib.below bm
          replace Sc := Sc.after bm
          replace Ic := Ic.below bm
          replace D := D.trans (bm.mono D.size)
          clear bm
          go_wp2_with fail
          go_meet
          exact ⟨rfl, D⟩
      case' neg =>
        as_aux_lemma =>
          obtain ⟨z, hz⟩ : ∃ z, cq a c = z := ⟨_, rfl⟩
          have HZ := Lib.hid hz
          have hz0 : z ≤ 0 := by
            rcases cq_chain a b c with h | h | h
            · rw [HX.out] at h; exact absurd h hx0
            · rw [hy] at h; exact absurd h hy0
            · rw [hz] at h; exact h
          clear hy hz
          have ⟨Sbc0, Sbc1, Sbc2, Sbc3, _⟩ := Sb
          have ⟨Scc0, Scc1, Scc2, Scc3, _⟩ := Sc
          go_wp2_with fail
          (with_reducible refine (qcmp_z gn_b An_b nn_b cn_b gd_b Ad_b nd_b cd_b gn_c An_c nn_c cn_c gd_c Ad_c nd_c cd_c _ y Ib Ic Zb Zc (by decide) HY.out).mono ?_)
          rintro e w1 ⟨rfl, bm⟩
          clear Sbc0 Sbc1 Sbc2 Sbc3 Scc0 Scc1 Scc2 Scc3
          replace Sa := Sa.after bm
          replace Ia := Ia.below bm
          replace Sb := Sb.after bm
          replace Ib := Ib.below bm
          replace Sc := Sc.after bm
          replace Ic := Ic.below bm
          replace D := D.trans (bm.mono D.size)
          clear bm
          have ⟨Sac0, Sac1, Sac2, Sac3, _⟩ := Sa
          have ⟨Scc0, Scc1, Scc2, Scc3, _⟩ := Sc
          go_wp2_with fail
          (with_reducible refine (qcmp_z gn_a An_a nn_a cn_a gd_a Ad_a nd_a cd_a gn_c An_c nn_c cn_c gd_c Ad_c nd_c cd_c _ z Ia Ic Za Zc (by decide) HZ.out).mono ?_)
          rintro e w2 ⟨rfl, bn⟩
          clear Sac0 Sac1 Sac2 Sac3 Scc0 Scc1 Scc2 Scc3
          replace Sa := Sa.after bn
          replace Ia := Ia.below bn
          replace Sb := Sb.after bn
          replace Ib := Ib.below bn
          replace Sc := Sc.after bn
          replace Ic := Ic.below bn
          replace D := D.trans (bn.mono D.size)
          clear bn
          go_wp2_with fail
          go_meet
          exact ⟨rfl, D⟩
  case rest =>
  obtain ⟨rfl, DC⟩ := hcut
  obtain ⟨W5, rfl⟩ : ∃ x : World, x = wc := ⟨_, rfl⟩
  replace Sa := Sa.after DC
  replace Ia := Ia.below DC
  replace Sb := Sb.after DC
  replace Ib := Ib.below DC
  replace Sc := Sc.after DC
  replace Ic := Ic.below DC
  replace B := B.trans (DC.mono B.size)
  clear DC
  go_upto_region 6 with (fail)
  go_cut [14] (fun s wx => s = .bool true ∧ Below W5.heap.size W5 wx)
  case first =>
    have HS : Hid (∀ V, Below W5.heap.size W5 V → (V.cell? ⟨ga, 0, none⟩ = some (.bool gn_a) ∧ V.cell? ⟨ga, 1, none⟩ = some (.slice An_a nn_a cn_a) ∧ V.cell? ⟨ga, 2, none⟩ = some (.bool gd_a) ∧ V.cell? ⟨ga, 3, none⟩ = some (.slice Ad_a nd_a cd_a)) ∧ (V.cell? ⟨gb, 0, none⟩ = some (.bool gn_b) ∧ V.cell? ⟨gb, 1, none⟩ = some (.slice An_b nn_b cn_b) ∧ V.cell? ⟨gb, 2, none⟩ = some (.bool gd_b) ∧ V.cell? ⟨gb, 3, none⟩ = some (.slice Ad_b nd_b cd_b)) ∧ (V.cell? ⟨gc, 0, none⟩ = some (.bool gn_c) ∧ V.cell? ⟨gc, 1, none⟩ = some (.slice An_c nn_c cn_c) ∧ V.cell? ⟨gc, 2, none⟩ = some (.bool gd_c) ∧ V.cell? ⟨gc, 3, none⟩ = some (.slice Ad_c nd_c cd_c))) := fun V hV => ⟨(Sa.after hV).cells, (Sb.after hV).cells, (Sc.after hV).cells⟩
    obtain ⟨s, hs⟩ : ∃ s, sgn c.num = s := ⟨_, rfl⟩
    have HG := Lib.hid hs
    clear B
    by_cases hs0 : s ≤ 0
    case' pos =>
      as_aux_lemma =>
        have hs1 : decide (s ≤ 0) = true := decide_eq_true hs0
        clear hs
        have Dp0 : Below W5.heap.size W5 W5.drew := (Below.refl _ _).drew
        refine wp_region_seq (.pre [(0, true), (1, false), (2, true), (3, true), (4, true), (5, true), (6, true), (7, true), (8, true), (9, true), (10, true), (11, true), (12, true), (13, true), (14, true)] .done) (fun W => (W.cell? ⟨ga, 0, none⟩ = some (.bool gn_a) ∧ W.cell? ⟨ga, 1, none⟩ = some (.slice An_a nn_a cn_a) ∧ W.cell? ⟨ga, 2, none⟩ = some (.bool gd_a) ∧ W.cell? ⟨ga, 3, none⟩ = some (.slice Ad_a nd_a cd_a)) ∧ (W.cell? ⟨gb, 0, none⟩ = some (.bool gn_b) ∧ W.cell? ⟨gb, 1, none⟩ = some (.slice An_b nn_b cn_b) ∧ W.cell? ⟨gb, 2, none⟩ = some (.bool gd_b) ∧ W.cell? ⟨gb, 3, none⟩ = some (.slice Ad_b nd_b cd_b)) ∧ (W.cell? ⟨gc, 0, none⟩ = some (.bool gn_c) ∧ W.cell? ⟨gc, 1, none⟩ = some (.slice An_c nn_c cn_c) ∧ W.cell? ⟨gc, 2, none⟩ = some (.bool gd_c) ∧ W.cell? ⟨gc, 3, none⟩ = some (.slice Ad_c nd_c cd_c))) (by kernel_rfl) (by kernel_rfl) ?_ (by kernel_rfl) (HS.out _ Dp0) ?_
        · refine chk_pre _ _ _ (by as_aux_lemma => kernel_rfl) ?_
          exact (by as_aux_lemma => kernel_rfl)
        refine seq_take _ ?_ rfl (Or.inl ⟨by rfl, ?_⟩) ?_
        rotate_left
        · (intro w hSw; (try dsimp only at hSw); go_simp; (try with_reducible rfl))
        try simp only [Act.put, List.setIfInBounds_toArray, List.set_cons_zero, List.set_cons_succ]
        refine seq_one _ rfl fun K hK => ?_
        go_simp
        (with_reducible refine (qsign_z gn_c An_c nn_c cn_c gd_c Ad_c nd_c cd_c s _ (Ic.below Dp0).num HG.out).mono ?_)
        rintro e vp1 ⟨rfl, bp1⟩
        have Dp1 : Below W5.heap.size W5 vp1 := Below.trans Dp0 (bp1.mono (Below.size Dp0))
        go_wp2_with fail
        refine hK.out _ _ (HS.out _ Dp1) (fun hHeld => ?_)
        clear hK K hHeld
        try simp only [Act.put, List.setIfInBounds_toArray, List.set_cons_zero, List.set_cons_succ]
        refine seq_take _ ?_ rfl (Or.inl ⟨by rfl, ?_⟩) ?_
        rotate_left
        · (intro w hSw; (try dsimp only at hSw); go_simp; (try with_reducible rfl))
        try simp only [Act.put, List.setIfInBounds_toArray, List.set_cons_zero, List.set_cons_succ]
        refine seq_take _ ?_ rfl (Or.inl ⟨by rfl, ?_⟩) ?_
        rotate_left
        · (intro w hSw; (try dsimp only at hSw); go_simp; (try with_reducible rfl))
        try simp only [Act.put, List.setIfInBounds_toArray, List.set_cons_zero, List.set_cons_succ]
        refine seq_take _ _ rfl (Or.inr ⟨by rfl, rfl⟩) ?_
        try simp only [Act.put, List.setIfInBounds_toArray, List.set_cons_zero, List.set_cons_succ]
        refine seq_take _ _ rfl (Or.inr ⟨by rfl, rfl⟩) ?_
        try simp only [Act.put, List.setIfInBounds_toArray, List.set_cons_zero, List.set_cons_succ]
        refine seq_take _ _ rfl (Or.inr ⟨by rfl, rfl⟩) ?_
        try simp only [Act.put, List.setIfInBounds_toArray, List.set_cons_zero, List.set_cons_succ]
        refine seq_take _ _ rfl (Or.inr ⟨by rfl, rfl⟩) ?_
        try simp only [Act.put, List.setIfInBounds_toArray, List.set_cons_zero, List.set_cons_succ]
        refine seq_take _ _ rfl (Or.inr ⟨by rfl, rfl⟩) ?_
        try simp only [Act.put, List.setIfInBounds_toArray, List.set_cons_zero, List.set_cons_succ]
        refine seq_take _ _ rfl (Or.inr ⟨by rfl, rfl⟩) ?_
        try simp only [Act.put, List.setIfInBounds_toArray, List.set_cons_zero, List.set_cons_succ]
        refine seq_take _ _ rfl (Or.inr ⟨by rfl, rfl⟩) ?_
        try simp only [Act.put, List.setIfInBounds_toArray, List.set_cons_zero, List.set_cons_succ]
        refine seq_take _ _ rfl (Or.inr ⟨by rfl, rfl⟩) ?_
        try simp only [Act.put, List.setIfInBounds_toArray, List.set_cons_zero, List.set_cons_succ]
        refine seq_take _ _ rfl (Or.inr ⟨by rfl, rfl⟩) ?_
        try simp only [Act.put, List.setIfInBounds_toArray, List.set_cons_zero, List.set_cons_succ]
        refine seq_take _ ?_ rfl (Or.inl ⟨by rfl, ?_⟩) ?_
        rotate_left
        · (intro w hSw; (try dsimp only at hSw); go_simp; (try with_reducible rfl))
        try simp only [Act.put, List.setIfInBounds_toArray, List.set_cons_zero, List.set_cons_succ]
        refine seq_take _ ?_ rfl (Or.inl ⟨by rfl, ?_⟩) ?_
        rotate_left
        · (intro w hSw; (try dsimp only at hSw); go_simp; (try with_reducible rfl))
        try simp only [Act.put, List.setIfInBounds_toArray, List.set_cons_zero, List.set_cons_succ]
        refine NoPanic.normal ?_
        go_wp2_with fail
        go_meet
        exact ⟨rfl, Dp1⟩
    case' neg =>
      as_aux_lemma =>
        have HM : Hid (cq (a * c) (b * c) = x) := (cq_mul a b c (sgn_pos (by rw [hs]; exact hs0))).trans HX.out
        have hs1 : decide (s ≤ 0) = false := decide_eq_false hs0
        clear hs
        have Zp2 : RSz 6 (a * c) := RSz.mul Za Zc (by decide)
        have Zp3 : RSz 6 (b * c) := RSz.mul Zb Zc (by decide)
        have Dp0 : Below W5.heap.size W5 W5.drew := (Below.refl _ _).drew
        refine wp_region_seq (.pre [(0, true), (1, false), (2, true), (3, true), (4, true), (5, true), (7, true), (8, true), (11, true), (6, false), (9, false), (10, false), (12, true), (13, true), (14, true)] .done) (fun W => (W.cell? ⟨ga, 0, none⟩ = some (.bool gn_a) ∧ W.cell? ⟨ga, 1, none⟩ = some (.slice An_a nn_a cn_a) ∧ W.cell? ⟨ga, 2, none⟩ = some (.bool gd_a) ∧ W.cell? ⟨ga, 3, none⟩ = some (.slice Ad_a nd_a cd_a)) ∧ (W.cell? ⟨gb, 0, none⟩ = some (.bool gn_b) ∧ W.cell? ⟨gb, 1, none⟩ = some (.slice An_b nn_b cn_b) ∧ W.cell? ⟨gb, 2, none⟩ = some (.bool gd_b) ∧ W.cell? ⟨gb, 3, none⟩ = some (.slice Ad_b nd_b cd_b)) ∧ (W.cell? ⟨gc, 0, none⟩ = some (.bool gn_c) ∧ W.cell? ⟨gc, 1, none⟩ = some (.slice An_c nn_c cn_c) ∧ W.cell? ⟨gc, 2, none⟩ = some (.bool gd_c) ∧ W.cell? ⟨gc, 3, none⟩ = some (.slice Ad_c nd_c cd_c))) (by kernel_rfl) (by kernel_rfl) ?_ (by kernel_rfl) (HS.out _ Dp0) ?_
        · refine chk_pre _ _ _ (by as_aux_lemma => kernel_rfl) ?_
          exact (by as_aux_lemma => kernel_rfl)
        refine seq_take _ ?_ rfl (Or.inl ⟨by rfl, ?_⟩) ?_
        rotate_left
        · (intro w hSw; (try dsimp only at hSw); go_simp; (try with_reducible rfl))
        try simp only [Act.put, List.setIfInBounds_toArray, List.set_cons_zero, List.set_cons_succ]
        refine seq_one _ rfl fun K hK => ?_
        go_simp
        (with_reducible refine (qsign_z gn_c An_c nn_c cn_c gd_c Ad_c nd_c cd_c s _ (Ic.below Dp0).num HG.out).mono ?_)
        rintro e vp1 ⟨rfl, bp1⟩
        have Dp1 : Below W5.heap.size W5 vp1 := Below.trans Dp0 (bp1.mono (Below.size Dp0))
        go_wp2_with fail
        refine hK.out _ _ (HS.out _ Dp1) (fun hHeld => ?_)
        clear hK K hHeld
        try simp only [Act.put, List.setIfInBounds_toArray, List.set_cons_zero, List.set_cons_succ]
        refine seq_take _ ?_ rfl (Or.inl ⟨by rfl, ?_⟩) ?_
        rotate_left
        · (intro w hSw; (try dsimp only at hSw); go_simp; (try with_reducible rfl))
        try simp only [Act.put, List.setIfInBounds_toArray, List.set_cons_zero, List.set_cons_succ]
        refine seq_take _ ?_ rfl (Or.inl ⟨by rfl, ?_⟩) ?_
        rotate_left
        · (intro w hSw; (try dsimp only at hSw); go_simp; (try with_reducible rfl))
        try simp only [Act.put, List.setIfInBounds_toArray, List.set_cons_zero, List.set_cons_succ]
        refine seq_take _ ?_ rfl (Or.inl ⟨by rfl, ?_⟩) ?_
        rotate_left
        · (intro w hSw; (try dsimp only at hSw); go_simp; (try with_reducible rfl))
        try simp only [Act.put, List.setIfInBounds_toArray, List.set_cons_zero, List.set_cons_succ]
        refine seq_take _ ?_ rfl (Or.inl ⟨by rfl, ?_⟩) ?_
        rotate_left
        · (intro w hSw; (try dsimp only at hSw); go_simp; (try with_reducible rfl))
        try simp only [Act.put, List.setIfInBounds_toArray, List.set_cons_zero, List.set_cons_succ]
        refine seq_take _ ?_ rfl (Or.inl ⟨by rfl, ?_⟩) ?_
        rotate_left
        · (intro w hSw; (try dsimp only at hSw); go_simp; (try with_reducible rfl))
        try simp only [Act.put, List.setIfInBounds_toArray, List.set_cons_zero, List.set_cons_succ]
        refine seq_take _ ?_ rfl (Or.inl ⟨by rfl, ?_⟩) ?_
        rotate_left
        · (intro w hSw; (try dsimp only at hSw); go_simp; (try with_reducible rfl))
        try simp only [Act.put, List.setIfInBounds_toArray, List.set_cons_zero, List.set_cons_succ]
        refine seq_take _ ?_ rfl (Or.inl ⟨by rfl, ?_⟩) ?_
        rotate_left
        · (intro w hSw; (try dsimp only at hSw); go_simp; (try with_reducible rfl))
        try simp only [Act.put, List.setIfInBounds_toArray, List.set_cons_zero, List.set_cons_succ]
        refine seq_one _ rfl fun K hK => ?_
        go_simp
        (with_reducible refine (qmul_z gn_a An_a nn_a cn_a gd_a Ad_a nd_a cd_a gn_c An_c nn_c cn_c gd_c Ad_c nd_c cd_c _ (Ia.below Dp1) (Ic.below Dp1) Za Zc (by decide)).mono ?_)
        rintro e vp2 ⟨gnp2, Anp2, nnp2, cnp2, gdp2, Adp2, ndp2, cdp2, rfl, ip2, bp2⟩
        have Dp2 : Below W5.heap.size W5 vp2 := Below.trans Dp1 (bp2.mono (Below.size Dp1))
        go_wp2_with fail
        refine hK.out _ _ (HS.out _ Dp2) (fun hHeld => ?_)
        clear hK K hHeld
        try simp only [Act.put, List.setIfInBounds_toArray, List.set_cons_zero, List.set_cons_succ]
        refine seq_one _ rfl fun K hK => ?_
        go_simp
        (with_reducible refine (qmul_z gn_b An_b nn_b cn_b gd_b Ad_b nd_b cd_b gn_c An_c nn_c cn_c gd_c Ad_c nd_c cd_c _ (Ib.below Dp2) (Ic.below Dp2) Zb Zc (by decide)).mono ?_)
        rintro e vp3 ⟨gnp3, Anp3, nnp3, cnp3, gdp3, Adp3, ndp3, cdp3, rfl, ip3, bp3⟩
        have Dp3 : Below W5.heap.size W5 vp3 := Below.trans Dp2 (bp3.mono (Below.size Dp2))
        go_wp2_with fail
        refine hK.out _ _ (HS.out _ Dp3) (fun hHeld => ?_)
        clear hK K hHeld
        try simp only [Act.put, List.setIfInBounds_toArray, List.set_cons_zero, List.set_cons_succ]
        refine seq_one _ rfl fun K hK => ?_
        go_simp
        (with_reducible refine (qcmp_z gnp2 Anp2 nnp2 cnp2 gdp2 Adp2 ndp2 cdp2 gnp3 Anp3 nnp3 cnp3 gdp3 Adp3 ndp3 cdp3 _ x (ip2.below bp3) ip3 Zp2 Zp3 (by decide) HM.out).mono ?_)
        rintro e vp4 ⟨rfl, bp4⟩
        have Dp4 : Below W5.heap.size W5 vp4 := Below.trans Dp3 (bp4.mono (Below.size Dp3))
        go_wp2_with fail
        refine hK.out _ _ (HS.out _ Dp4) (fun hHeld => ?_)
        clear hK K hHeld
        try simp only [Act.put, List.setIfInBounds_toArray, List.set_cons_zero, List.set_cons_succ]
        refine seq_take _ ?_ rfl (Or.inl ⟨by rfl, ?_⟩) ?_
        rotate_left
        · (intro w hSw; (try dsimp only at hSw); go_simp; (try with_reducible rfl))
        try simp only [Act.put, List.setIfInBounds_toArray, List.set_cons_zero, List.set_cons_succ]
        refine seq_take _ ?_ rfl (Or.inl ⟨by rfl, ?_⟩) ?_
        rotate_left
        · (intro w hSw; (try dsimp only at hSw); go_simp; (try with_reducible rfl))
        try simp only [Act.put, List.setIfInBounds_toArray, List.set_cons_zero, List.set_cons_succ]
        refine seq_take _ ?_ rfl (Or.inl ⟨by rfl, ?_⟩) ?_
        rotate_left
        · (intro w hSw; (try dsimp only at hSw); go_simp; (try with_reducible rfl))
        try simp only [Act.put, List.setIfInBounds_toArray, List.set_cons_zero, List.set_cons_succ]
        refine NoPanic.normal ?_
        go_wp2_with fail
        go_meet
        exact ⟨rfl, Dp4⟩
  case rest =>
  obtain ⟨rfl, DC⟩ := hcut
  obtain ⟨W6, rfl⟩ : ∃ x : World, x = wc := ⟨_, rfl⟩
  replace Sa := Sa.after DC
  replace Ia := Ia.below DC
  replace Sb := Sb.after DC
  replace Ib := Ib.below DC
  replace Sc := Sc.after DC
  replace Ic := Ic.below DC
  replace B := B.trans (DC.mono B.size)
  clear DC
  go_upto_region 7 with (fail)
  go_cut [6] (fun s wx => s = .bool true ∧ Below W6.heap.size W6 wx)
  case first =>
    as_aux_lemma =>
      have HS : Hid (∀ V, Below W6.heap.size W6 V → (V.cell? ⟨ga, 0, none⟩ = some (.bool gn_a) ∧ V.cell? ⟨ga, 1, none⟩ = some (.slice An_a nn_a cn_a) ∧ V.cell? ⟨ga, 2, none⟩ = some (.bool gd_a) ∧ V.cell? ⟨ga, 3, none⟩ = some (.slice Ad_a nd_a cd_a)) ∧ (V.cell? ⟨gb, 0, none⟩ = some (.bool gn_b) ∧ V.cell? ⟨gb, 1, none⟩ = some (.slice An_b nn_b cn_b) ∧ V.cell? ⟨gb, 2, none⟩ = some (.bool gd_b) ∧ V.cell? ⟨gb, 3, none⟩ = some (.slice Ad_b nd_b cd_b)) ∧ (V.cell? ⟨gc, 0, none⟩ = some (.bool gn_c) ∧ V.cell? ⟨gc, 1, none⟩ = some (.slice An_c nn_c cn_c) ∧ V.cell? ⟨gc, 2, none⟩ = some (.bool gd_c) ∧ V.cell? ⟨gc, 3, none⟩ = some (.slice Ad_c nd_c cd_c))) := fun V hV => ⟨(Sa.after hV).cells, (Sb.after hV).cells, (Sc.after hV).cells⟩
      have HM : Hid (cq (a + c) (b + c) = x) := (cq_add a b c).trans HX.out
      have Zp1 : RSz 7 (a + c) := RSz.add Za Zc (by decide)
      have Zp2 : RSz 7 (b + c) := RSz.add Zb Zc (by decide)
      have Dp0 : Below W6.heap.size W6 W6.drew := (Below.refl _ _).drew
      refine wp_region_seq (.pre [(0, true), (1, true), (2, true), (3, true), (4, true), (5, true), (6, true), (7, true), (8, true), (9, true), (11, true), (12, true), (15, true), (10, false), (13, false), (14, false), (16, true), (17, true), (18, true), (19, true), (20, true), (21, true)] .done) (fun W => (W.cell? ⟨ga, 0, none⟩ = some (.bool gn_a) ∧ W.cell? ⟨ga, 1, none⟩ = some (.slice An_a nn_a cn_a) ∧ W.cell? ⟨ga, 2, none⟩ = some (.bool gd_a) ∧ W.cell? ⟨ga, 3, none⟩ = some (.slice Ad_a nd_a cd_a)) ∧ (W.cell? ⟨gb, 0, none⟩ = some (.bool gn_b) ∧ W.cell? ⟨gb, 1, none⟩ = some (.slice An_b nn_b cn_b) ∧ W.cell? ⟨gb, 2, none⟩ = some (.bool gd_b) ∧ W.cell? ⟨gb, 3, none⟩ = some (.slice Ad_b nd_b cd_b)) ∧ (W.cell? ⟨gc, 0, none⟩ = some (.bool gn_c) ∧ W.cell? ⟨gc, 1, none⟩ = some (.slice An_c nn_c cn_c) ∧ W.cell? ⟨gc, 2, none⟩ = some (.bool gd_c) ∧ W.cell? ⟨gc, 3, none⟩ = some (.slice Ad_c nd_c cd_c))) (by kernel_rfl) (by kernel_rfl) ?_ (by kernel_rfl) (HS.out _ Dp0) ?_
      · refine chk_pre _ _ _ (by as_aux_lemma => kernel_rfl) ?_
        exact (by as_aux_lemma => kernel_rfl)
      refine seq_take _ ?_ rfl (Or.inl ⟨by rfl, ?_⟩) ?_
      rotate_left
      · (intro w hSw; (try dsimp only at hSw); go_simp; (try with_reducible rfl))
      try simp only [Act.put, List.setIfInBounds_toArray, List.set_cons_zero, List.set_cons_succ]
      refine seq_take _ ?_ rfl (Or.inl ⟨by rfl, ?_⟩) ?_
      rotate_left
      · (intro w hSw; (try dsimp only at hSw); go_simp; (try with_reducible rfl))
      try simp only [Act.put, List.setIfInBounds_toArray, List.set_cons_zero, List.set_cons_succ]
      refine seq_take _ ?_ rfl (Or.inl ⟨by rfl, ?_⟩) ?_
      rotate_left
      · (intro w hSw; (try dsimp only at hSw); go_simp; (try with_reducible rfl))
      try simp only [Act.put, List.setIfInBounds_toArray, List.set_cons_zero, List.set_cons_succ]
      refine seq_take _ ?_ rfl (Or.inl ⟨by rfl, ?_⟩) ?_
      rotate_left
      · (intro w hSw; (try dsimp only at hSw); go_simp; (try with_reducible rfl))
      try simp only [Act.put, List.setIfInBounds_toArray, List.set_cons_zero, List.set_cons_succ]
      refine seq_take _ ?_ rfl (Or.inl ⟨by rfl, ?_⟩) ?_
      rotate_left
      · (intro w hSw; (try dsimp only at hSw); go_simp; (try with_reducible rfl))
      try simp only [Act.put, List.setIfInBounds_toArray, List.set_cons_zero, List.set_cons_succ]
      refine seq_take _ ?_ rfl (Or.inl ⟨by rfl, ?_⟩) ?_
      rotate_left
      · (intro w hSw; (try dsimp only at hSw); go_simp; (try with_reducible rfl))
      try simp only [Act.put, List.setIfInBounds_toArray, List.set_cons_zero, List.set_cons_succ]
      refine seq_take _ ?_ rfl (Or.inl ⟨by rfl, ?_⟩) ?_
      rotate_left
      · (intro w hSw; (try dsimp only at hSw); go_simp; (try with_reducible rfl))
      try simp only [Act.put, List.setIfInBounds_toArray, List.set_cons_zero, List.set_cons_succ]
      refine seq_take _ ?_ rfl (Or.inl ⟨by rfl, ?_⟩) ?_
      rotate_left
      · (intro w hSw; (try dsimp only at hSw); go_simp; (try with_reducible rfl))
      try simp only [Act.put, List.setIfInBounds_toArray, List.set_cons_zero, List.set_cons_succ]
      refine seq_take _ ?_ rfl (Or.inl ⟨by rfl, ?_⟩) ?_
      rotate_left
      · (intro w hSw; (try dsimp only at hSw); go_simp; (try with_reducible rfl))
      try simp only [Act.put, List.setIfInBounds_toArray, List.set_cons_zero, List.set_cons_succ]
      refine seq_take _ ?_ rfl (Or.inl ⟨by rfl, ?_⟩) ?_
      rotate_left
      · (intro w hSw; (try dsimp only at hSw); go_simp; (try with_reducible rfl))
      try simp only [Act.put, List.setIfInBounds_toArray, List.set_cons_zero, List.set_cons_succ]
      refine seq_take _ ?_ rfl (Or.inl ⟨by rfl, ?_⟩) ?_
      rotate_left
      · (intro w hSw; (try dsimp only at hSw); go_simp; (try with_reducible rfl))
      try simp only [Act.put, List.setIfInBounds_toArray, List.set_cons_zero, List.set_cons_succ]
      refine seq_take _ ?_ rfl (Or.inl ⟨by rfl, ?_⟩) ?_
      rotate_left
      · (intro w hSw; (try dsimp only at hSw); go_simp; (try with_reducible rfl))
      try simp only [Act.put, List.setIfInBounds_toArray, List.set_cons_zero, List.set_cons_succ]
      refine seq_take _ ?_ rfl (Or.inl ⟨by rfl, ?_⟩) ?_
      rotate_left
      · (intro w hSw; (try dsimp only at hSw); go_simp; (try with_reducible rfl))
      try simp only [Act.put, List.setIfInBounds_toArray, List.set_cons_zero, List.set_cons_succ]
      refine seq_one _ rfl fun K hK => ?_
      go_simp
      (with_reducible refine (qadd_z gn_a An_a nn_a cn_a gd_a Ad_a nd_a cd_a gn_c An_c nn_c cn_c gd_c Ad_c nd_c cd_c _ (Ia.below Dp0) (Ic.below Dp0) Za Zc (by decide)).mono ?_)
      rintro e vp1 ⟨gnp1, Anp1, nnp1, cnp1, gdp1, Adp1, ndp1, cdp1, rfl, ip1, bp1⟩
      have Dp1 : Below W6.heap.size W6 vp1 := Below.trans Dp0 (bp1.mono (Below.size Dp0))
      go_wp2_with fail
      refine hK.out _ _ (HS.out _ Dp1) (fun hHeld => ?_)
      clear hK K hHeld
      try simp only [Act.put, List.setIfInBounds_toArray, List.set_cons_zero, List.set_cons_succ]
      refine seq_one _ rfl fun K hK => ?_
      go_simp
      (with_reducible refine (qadd_z gn_b An_b nn_b cn_b gd_b Ad_b nd_b cd_b gn_c An_c nn_c cn_c gd_c Ad_c nd_c cd_c _ (Ib.below Dp1) (Ic.below Dp1) Zb Zc (by decide)).mono ?_)
      rintro e vp2 ⟨gnp2, Anp2, nnp2, cnp2, gdp2, Adp2, ndp2, cdp2, rfl, ip2, bp2⟩
      have Dp2 : Below W6.heap.size W6 vp2 := Below.trans Dp1 (bp2.mono (Below.size Dp1))
      go_wp2_with fail
      refine hK.out _ _ (HS.out _ Dp2) (fun hHeld => ?_)
      clear hK K hHeld
      try simp only [Act.put, List.setIfInBounds_toArray, List.set_cons_zero, List.set_cons_succ]
      refine seq_one _ rfl fun K hK => ?_
      go_simp
      (with_reducible refine (qcmp_z gnp1 Anp1 nnp1 cnp1 gdp1 Adp1 ndp1 cdp1 gnp2 Anp2 nnp2 cnp2 gdp2 Adp2 ndp2 cdp2 _ x (ip1.below bp2) ip2 Zp1 Zp2 (by decide) HM.out).mono ?_)
      rintro e vp3 ⟨rfl, bp3⟩
      have Dp3 : Below W6.heap.size W6 vp3 := Below.trans Dp2 (bp3.mono (Below.size Dp2))
      go_wp2_with fail
      refine hK.out _ _ (HS.out _ Dp3) (fun hHeld => ?_)
      clear hK K hHeld
      try simp only [Act.put, List.setIfInBounds_toArray, List.set_cons_zero, List.set_cons_succ]
      refine seq_take _ ?_ rfl (Or.inl ⟨by rfl, ?_⟩) ?_
      rotate_left
      · (intro w hSw; (try dsimp only at hSw); go_simp; (try with_reducible rfl))
      try simp only [Act.put, List.setIfInBounds_toArray, List.set_cons_zero, List.set_cons_succ]
      refine seq_take _ ?_ rfl (Or.inl ⟨by rfl, ?_⟩) ?_
      rotate_left
      · (intro w hSw; (try dsimp only at hSw); go_simp; (try with_reducible rfl))
      try simp only [Act.put, List.setIfInBounds_toArray, List.set_cons_zero, List.set_cons_succ]
      refine seq_take _ ?_ rfl (Or.inl ⟨by rfl, ?_⟩) ?_
      rotate_left
      · (intro w hSw; (try dsimp only at hSw); go_simp; (try with_reducible rfl))
      try simp only [Act.put, List.setIfInBounds_toArray, List.set_cons_zero, List.set_cons_succ]
      refine seq_take _ ?_ rfl (Or.inl ⟨by rfl, ?_⟩) ?_
      rotate_left
      · (intro w hSw; (try dsimp only at hSw); go_simp; (try with_reducible rfl))
      try simp only [Act.put, List.setIfInBounds_toArray, List.set_cons_zero, List.set_cons_succ]
      refine seq_take _ ?_ rfl (Or.inl ⟨by rfl, ?_⟩) ?_
      rotate_left
      · (intro w hSw; (try dsimp only at hSw); go_simp; (try with_reducible rfl))
      try simp only [Act.put, List.setIfInBounds_toArray, List.set_cons_zero, List.set_cons_succ]
      refine seq_take _ ?_ rfl (Or.inl ⟨by rfl, ?_⟩) ?_
      rotate_left
      · (intro w hSw; (try dsimp only at hSw); go_simp; (try with_reducible rfl))
      try simp only [Act.put, List.setIfInBounds_toArray, List.set_cons_zero, List.set_cons_succ]
      refine NoPanic.normal ?_
      go_wp2_with fail
      go_meet
      exact ⟨rfl, Dp3⟩
  case rest =>
  obtain ⟨rfl, DC⟩ := hcut
  go_wp2_with fail
  go_ret
  exact ⟨rfl, B.trans (DC.mono B.size)⟩
end Go.Proofs.YtlpoboikompjfaaGreatDoor
