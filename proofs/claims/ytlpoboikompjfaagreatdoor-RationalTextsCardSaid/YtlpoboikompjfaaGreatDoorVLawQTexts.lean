/- The walk of the law RationalTexts, given what its fixed examples return. -/
import Derived.Test.YtlpoboikompjfaaGreatDoorVG28RatT
import Derived.Test.YtlpoboikompjfaaGreatDoorVRefFrom
import Derived.Test.YtlpoboikompjfaaGreatDoorVRaw3
import Derived.Deep.DeepCutAuto
namespace Go.Proofs.YtlpoboikompjfaaGreatDoor
open Go.RowKit

set_option maxRecDepth 1000000 in
set_option maxHeartbeats 8000000 in
theorem qtexts_walk (HS : SanQ) (A1 E1 : Option Addr) (n1 c1 m1 d1 : Nat) (s1 : Bool) (xs1 ys1 : List Nat) (A2 E2 : Option Addr) (n2 c2 m2 d2 : Nat) (s2 : Bool) (xs2 ys2 : List Nat) (w : World) (hx1 : Lim w w.heap.size A1 n1 c1 xs1) (hy1 : Lim w w.heap.size E1 m1 d1 ys1) (hx2 : Lim w w.heap.size A2 n2 c2 xs2) (hy2 : Lim w w.heap.size E2 m2 d2 ys2) :
    Calls Tryz.prog 8 #[.agg #[.slice A1 n1 c1, .slice E1 m1 d1, .bool s1], .agg #[.slice A2 n2 c2, .slice E2 m2 d2, .bool s2]] w fun e w' => e = .returned (.bool true) ∧ Below w.heap.size w w' := by
  have HS' := Lib.hid HS
  clear HS
  have HM1 : Hid (∀ W, Below w.heap.size w W → Calls Tryz.prog 11 #[.agg #[.slice A1 n1 c1, .slice E1 m1 d1, .bool s1]] W (RetRat W (rawQ s1 xs1 ys1))) := fun W hW => rqfrom_z A1 E1 n1 c1 m1 d1 s1 w.heap.size xs1 ys1 W (hx1.below hW) (hy1.below hW) hW.size
  have Za := RSz.raw s1 xs1 ys1 hx1.lt hy1.lt
  have HM2 : Hid (∀ W, Below w.heap.size w W → Calls Tryz.prog 11 #[.agg #[.slice A2 n2 c2, .slice E2 m2 d2, .bool s2]] W (RetRat W (rawQ s2 xs2 ys2))) := fun W hW => rqfrom_z A2 E2 n2 c2 m2 d2 s2 w.heap.size xs2 ys2 W (hx2.below hW) (hy2.below hW) hW.size
  have Zb := RSz.raw s2 xs2 ys2 hx2.lt hy2.lt
  generalize rawQ s1 xs1 ys1 = a at *
  generalize rawQ s2 xs2 ys2 = b at *
  clear hx1 hy1 hx2 hy2
  have b0 := (Below.refl w.heap.size w)
  have b1 := b0.alloc b0.size (.cells #[.slice A1 n1 c1, .slice E1 m1 d1, .bool s1] 24)
  have b2 := b1.alloc b1.size (.cells #[.slice A2 n2 c2, .slice E2 m2 d2, .bool s2] 24)
  have X1 := Slot3.new w (.slice A1 n1 c1) (.slice E1 m1 d1) (.bool s1) 24
  replace X1 := X1.alloc (.cells #[.slice A2 n2 c2, .slice E2 m2 d2, .bool s2] 24)
  have X2 := Slot3.new (w.alloc (.cells #[.slice A1 n1 c1, .slice E1 m1 d1, .bool s1] 24)) (.slice A2 n2 c2) (.slice E2 m2 d2) (.bool s2) 24
  simp only [World.size_alloc] at X2
  go_enter Tryz.func8, Tryz.ntmps8
  generalize hW : (w.alloc (.cells #[.slice A1 n1 c1, .slice E1 m1 d1, .bool s1] 24)).alloc (.cells #[.slice A2 n2 c2, .slice E2 m2 d2, .bool s2] 24) = W0 at *
  go_wp2_with fail
  try rw [hW]
  clear hW
  refine (HS'.out _).mono ?_
  rintro e W1 ⟨rfl, hb1⟩
  have B1 := b2.trans (hb1.mono b2.size)
  replace X1 := X1.after hb1
  replace X2 := X2.after hb1
  have HX : Hid (∀ V, Below W1.heap.size W1 V → (V.cell? ⟨w.heap.size, 0, none⟩ = some (.slice A1 n1 c1) ∧ V.cell? ⟨w.heap.size, 1, none⟩ = some (.slice E1 m1 d1) ∧ V.cell? ⟨w.heap.size, 2, none⟩ = some (.bool s1)) ∧ (V.cell? ⟨w.heap.size + 1, 0, none⟩ = some (.slice A2 n2 c2) ∧ V.cell? ⟨w.heap.size + 1, 1, none⟩ = some (.slice E2 m2 d2) ∧ V.cell? ⟨w.heap.size + 1, 2, none⟩ = some (.bool s2))) := fun V hV => ⟨(X1.after hV).cells, (X2.after hV).cells⟩
  clear X1 X2 b0 b1 b2 hb1
  go_upto_region 2 with (fail)
  go_cut [6, 7] (fun p0 p1 wx => ∃ ga gb, p0 = .pointer (some ⟨ga, 0, none⟩) ∧ p1 = .pointer (some ⟨gb, 0, none⟩) ∧ RatAt wx ga a ∧ RatAt wx gb b ∧ Below w.heap.size w wx)
  case first =>
    as_aux_lemma =>
      refine wp_region_ev (fun d a0 a' w' => ∃ u9 u10 u11 u12 u6 u7 : Value, a' = ((((((a0.put (some 9) u9).put (some 10) u10).put (some 11) u11).put (some 12) u12).put (some 6) u6).put (some 7) u7) ∧ Below W1.heap.size W1 w' ∧ (d 0 = true → u9 = .agg #[.slice A1 n1 c1, .slice E1 m1 d1, .bool s1]) ∧ (d 1 = true → RatV w' u10 (a)) ∧ (d 2 = true → u11 = .agg #[.slice A2 n2 c2, .slice E2 m2 d2, .bool s2]) ∧ (d 3 = true → RatV w' u12 (b)) ∧ (d 4 = true → OwnQ W1.heap.size w' u6 (d 6) (a)) ∧ (d 5 = true → OwnQ W1.heap.size w' u7 (d 7) (b)) ∧ (d 4 = true → d 5 = true → u6 ≠ u7) ∧ (d 6 = true → d 4 = true) ∧ (d 7 = true → d 5 = true)) (by kernel_rfl) (by kernel_rfl) ?_ ?_ ?_ ?_
      · intro d d' h a' w' hh
        obtain rfl : d = d' := funext h
        exact hh
      · exact ⟨_, _, _, _, _, _, (by simp only [Act.put, List.setIfInBounds_toArray, List.set_cons_zero, List.set_cons_succ]; rfl), (Below.refl _ _).drew, (fun h => by cases h), (fun h => by cases h), (fun h => by cases h), (fun h => by cases h), (fun h => by cases h), (fun h => by cases h), (fun h => by cases h), (fun h => by cases h), (fun h => by cases h)⟩
      · refine ⟨?_, ?_, ?_, ?_, ?_, ?_, ?_, ?_, trivial⟩
        · intro d a2 w2 hd hm ⟨u9, u10, u11, u12, u6, u7, e, HB, f0, f1, f2, f3, f4, f5, n01, t0, t1⟩ K hK
          subst e
          simp only [Act.put, List.setIfInBounds_toArray, List.set_cons_zero, List.set_cons_succ]
          obtain ⟨⟨q0, q1, q2⟩, ⟨q3, q4, q5⟩⟩ := HX.out w2 HB
          go_simp
          exact hK.out _ _ ⟨.agg #[.slice A1 n1 c1, .slice E1 m1 d1, .bool s1], u10, u11, u12, u6, u7, (by simp only [Act.put, List.setIfInBounds_toArray, List.set_cons_zero, List.set_cons_succ]), HB, (fun _ => rfl), (fun h => (f1 (by simpa using h))), (fun h => f2 (by simpa using h)), (fun h => (f3 (by simpa using h))), (fun h => by simpa using (f4 (by simpa using h))), (fun h => by simpa using (f5 (by simpa using h))), (fun h h' => n01 (by simpa using h) (by simpa using h')), (fun h => by simpa using t0 (by simpa using h)), (fun h => by simpa using t1 (by simpa using h))⟩
        · intro d a2 w2 hd hm ⟨u9, u10, u11, u12, u6, u7, e, HB, f0, f1, f2, f3, f4, f5, n01, t0, t1⟩ K hK
          subst e
          simp only [Act.put, List.setIfInBounds_toArray, List.set_cons_zero, List.set_cons_succ]
          obtain rfl := f0 (hm ⟨0, .data⟩ (by simp) rfl)
          clear f0
          go_simp
          (with_reducible refine (HM1.out _ (B1.trans (Below.mono HB B1.size))).mono ?_)
          rintro e w3 ⟨g1, A1', n1', c1', g2, A2', n2', c2', rfl, hi, hb⟩
          have HB3 := HB.trans (hb.mono HB.size)
          go_wp2_with fail
          exact hK.out _ _ ⟨.agg #[.slice A1 n1 c1, .slice E1 m1 d1, .bool s1], .agg #[.bool g1, .slice A1' n1' c1', .bool g2, .slice A2' n2' c2'], u11, u12, u6, u7, (by simp only [Act.put, List.setIfInBounds_toArray, List.set_cons_zero, List.set_cons_succ]), HB3, (fun _ => rfl), (fun _ => ⟨_, _, _, _, _, _, _, _, rfl, hi⟩), (fun h => f2 (by simpa using h)), (fun h => (f3 (by simpa using h)).below hb), (fun h => by simpa using (f4 (by simpa using h)).below hb), (fun h => by simpa using (f5 (by simpa using h)).below hb), (fun h h' => n01 (by simpa using h) (by simpa using h')), (fun h => by simpa using t0 (by simpa using h)), (fun h => by simpa using t1 (by simpa using h))⟩
        · intro d a2 w2 hd hm ⟨u9, u10, u11, u12, u6, u7, e, HB, f0, f1, f2, f3, f4, f5, n01, t0, t1⟩ K hK
          subst e
          simp only [Act.put, List.setIfInBounds_toArray, List.set_cons_zero, List.set_cons_succ]
          obtain ⟨⟨q0, q1, q2⟩, ⟨q3, q4, q5⟩⟩ := HX.out w2 HB
          go_simp
          exact hK.out _ _ ⟨u9, u10, .agg #[.slice A2 n2 c2, .slice E2 m2 d2, .bool s2], u12, u6, u7, (by simp only [Act.put, List.setIfInBounds_toArray, List.set_cons_zero, List.set_cons_succ]), HB, (fun h => f0 (by simpa using h)), (fun h => (f1 (by simpa using h))), (fun _ => rfl), (fun h => (f3 (by simpa using h))), (fun h => by simpa using (f4 (by simpa using h))), (fun h => by simpa using (f5 (by simpa using h))), (fun h h' => n01 (by simpa using h) (by simpa using h')), (fun h => by simpa using t0 (by simpa using h)), (fun h => by simpa using t1 (by simpa using h))⟩
        · intro d a2 w2 hd hm ⟨u9, u10, u11, u12, u6, u7, e, HB, f0, f1, f2, f3, f4, f5, n01, t0, t1⟩ K hK
          subst e
          simp only [Act.put, List.setIfInBounds_toArray, List.set_cons_zero, List.set_cons_succ]
          obtain rfl := f2 (hm ⟨2, .data⟩ (by simp) rfl)
          clear f2
          go_simp
          (with_reducible refine (HM2.out _ (B1.trans (Below.mono HB B1.size))).mono ?_)
          rintro e w3 ⟨g1, A1', n1', c1', g2, A2', n2', c2', rfl, hi, hb⟩
          have HB3 := HB.trans (hb.mono HB.size)
          go_wp2_with fail
          exact hK.out _ _ ⟨u9, u10, .agg #[.slice A2 n2 c2, .slice E2 m2 d2, .bool s2], .agg #[.bool g1, .slice A1' n1' c1', .bool g2, .slice A2' n2' c2'], u6, u7, (by simp only [Act.put, List.setIfInBounds_toArray, List.set_cons_zero, List.set_cons_succ]), HB3, (fun h => f0 (by simpa using h)), (fun h => (f1 (by simpa using h)).below hb), (fun _ => rfl), (fun _ => ⟨_, _, _, _, _, _, _, _, rfl, hi⟩), (fun h => by simpa using (f4 (by simpa using h)).below hb), (fun h => by simpa using (f5 (by simpa using h)).below hb), (fun h h' => n01 (by simpa using h) (by simpa using h')), (fun h => by simpa using t0 (by simpa using h)), (fun h => by simpa using t1 (by simpa using h))⟩
        · intro d a2 w2 hd hm ⟨u9, u10, u11, u12, u6, u7, e, HB, f0, f1, f2, f3, f4, f5, n01, t0, t1⟩ K hK
          subst e
          simp only [Act.put, List.setIfInBounds_toArray, List.set_cons_zero, List.set_cons_succ]
          have hb : Below w2.heap.size w2 (w2.alloc (.cells #[.bool false, .slice none 0 0, .bool false, .slice none 0 0] 28)) := (Below.refl _ _).alloc (Nat.le_refl _) _
          have HB3 := HB.trans (hb.mono HB.size)
          go_simp
          exact hK.out _ _ ⟨u9, u10, u11, u12, .pointer (some ⟨w2.heap.size, 0, none⟩), u7, (by simp only [Act.put, List.setIfInBounds_toArray, List.set_cons_zero, List.set_cons_succ]), HB3, (fun h => f0 (by simpa using h)), (fun h => (f1 (by simpa using h)).below hb), (fun h => f2 (by simpa using h)), (fun h => (f3 (by simpa using h)).below hb), (fun _ => by have hs : d 6 = false := (by cases hq : d 6 with | false => rfl | true => (have hz := t0 hq; rw [hd] at hz; cases hz)); simpa [hs] using OwnQ.new HB.size (a)), (fun h => by simpa using (f5 (by simpa using h)).below hb), (fun _ h' => ((f5 (by simpa using h')).lt).symm), (fun _ => by simp), (fun h => by simpa using t1 (by simpa using h))⟩
        · intro d a2 w2 hd hm ⟨u9, u10, u11, u12, u6, u7, e, HB, f0, f1, f2, f3, f4, f5, n01, t0, t1⟩ K hK
          subst e
          simp only [Act.put, List.setIfInBounds_toArray, List.set_cons_zero, List.set_cons_succ]
          have hb : Below w2.heap.size w2 (w2.alloc (.cells #[.bool false, .slice none 0 0, .bool false, .slice none 0 0] 28)) := (Below.refl _ _).alloc (Nat.le_refl _) _
          have HB3 := HB.trans (hb.mono HB.size)
          go_simp
          exact hK.out _ _ ⟨u9, u10, u11, u12, u6, .pointer (some ⟨w2.heap.size, 0, none⟩), (by simp only [Act.put, List.setIfInBounds_toArray, List.set_cons_zero, List.set_cons_succ]), HB3, (fun h => f0 (by simpa using h)), (fun h => (f1 (by simpa using h)).below hb), (fun h => f2 (by simpa using h)), (fun h => (f3 (by simpa using h)).below hb), (fun h => by simpa using (f4 (by simpa using h)).below hb), (fun _ => by have hs : d 7 = false := (by cases hq : d 7 with | false => rfl | true => (have hz := t1 hq; rw [hd] at hz; cases hz)); simpa [hs] using OwnQ.new HB.size (b)), (fun h _ => (f4 (by simpa using h)).lt), (fun h => by simpa using t0 (by simpa using h)), (fun _ => by simp)⟩
        · intro d a2 w2 hd hm ⟨u9, u10, u11, u12, u6, u7, e, HB, f0, f1, f2, f3, f4, f5, n01, t0, t1⟩ K hK
          subst e
          simp only [Act.put, List.setIfInBounds_toArray, List.set_cons_zero, List.set_cons_succ]
          obtain ⟨gg, AA, nn, cc, gg', AA', nn', cc', rfl, hi⟩ := f1 (hm ⟨1, .data⟩ (by simp) rfl)
          obtain ⟨g, rfl, hg, b0, b1, b2, b3, hs, n0, n1, n2, n3, _⟩ := f4 (hm ⟨4, .data⟩ (by simp) rfl)
          obtain ⟨k0, k1, k2, k3, k4, k5, k6, k7, k8⟩ := id hs
          go_simp
          exact hK.out _ _ ⟨u9, .agg #[.bool gg, .slice AA nn cc, .bool gg', .slice AA' nn' cc'], u11, u12, .pointer (some ⟨g, 0, none⟩), u7, (by simp only [Act.put, List.setIfInBounds_toArray, List.set_cons_zero, List.set_cons_succ]), Below.set4 HB hg _ _ _ _, (fun h => f0 (by simpa using h)), (fun h => (f1 (by simpa using h)).set4 hs n0 n1 n2 n3 _ _ _ _), (fun h => f2 (by simpa using h)), (fun h => (f3 (by simpa using h)).set4 hs n0 n1 n2 n3 _ _ _ _), (fun _ => by simpa using OwnQ.near hi hg hs n0 n1 n2 n3), (fun h => by simpa using (f5 (by simpa using h)).far ((n01 (hm ⟨4, .data⟩ (by simp) rfl) (by simpa using h)).symm) hs n0 n1 n2 n3 _ _ _ _), (fun h h' => n01 (by simpa using h) (by simpa using h')), (fun _ => by simpa using hm ⟨4, .data⟩ (by simp) rfl), (fun h => by simpa using t1 (by simpa using h))⟩
        · intro d a2 w2 hd hm ⟨u9, u10, u11, u12, u6, u7, e, HB, f0, f1, f2, f3, f4, f5, n01, t0, t1⟩ K hK
          subst e
          simp only [Act.put, List.setIfInBounds_toArray, List.set_cons_zero, List.set_cons_succ]
          obtain ⟨gg, AA, nn, cc, gg', AA', nn', cc', rfl, hi⟩ := f3 (hm ⟨3, .data⟩ (by simp) rfl)
          obtain ⟨g, rfl, hg, b0, b1, b2, b3, hs, n0, n1, n2, n3, _⟩ := f5 (hm ⟨5, .data⟩ (by simp) rfl)
          obtain ⟨k0, k1, k2, k3, k4, k5, k6, k7, k8⟩ := id hs
          go_simp
          exact hK.out _ _ ⟨u9, u10, u11, .agg #[.bool gg, .slice AA nn cc, .bool gg', .slice AA' nn' cc'], u6, .pointer (some ⟨g, 0, none⟩), (by simp only [Act.put, List.setIfInBounds_toArray, List.set_cons_zero, List.set_cons_succ]), Below.set4 HB hg _ _ _ _, (fun h => f0 (by simpa using h)), (fun h => (f1 (by simpa using h)).set4 hs n0 n1 n2 n3 _ _ _ _), (fun h => f2 (by simpa using h)), (fun h => (f3 (by simpa using h)).set4 hs n0 n1 n2 n3 _ _ _ _), (fun h => by simpa using (f4 (by simpa using h)).far (n01 (by simpa using h) (hm ⟨5, .data⟩ (by simp) rfl)) hs n0 n1 n2 n3 _ _ _ _), (fun _ => by simpa using OwnQ.near hi hg hs n0 n1 n2 n3), (fun h h' => n01 (by simpa using h) (by simpa using h')), (fun h => by simpa using t0 (by simpa using h)), (fun _ => by simpa using hm ⟨5, .data⟩ (by simp) rfl)⟩
      · intro d a2 w2 hall ⟨u9, u10, u11, u12, u6, u7, e, HB, f0, f1, f2, f3, f4, f5, n01, t0, t1⟩
        subst e
        simp only [Act.put, List.setIfInBounds_toArray, List.set_cons_zero, List.set_cons_succ]
        obtain rfl := f0 (hall _ (by decide))
        obtain rfl := f2 (hall _ (by decide))
        obtain ⟨g0, rfl, h0, b0⟩ := OwnQ.ratAtB (by have := f4 (hall _ (by decide)); rwa [hall 6 (by decide)] at this)
        obtain ⟨g1, rfl, h1, b1⟩ := OwnQ.ratAtB (by have := f5 (hall _ (by decide)); rwa [hall 7 (by decide)] at this)
        go_wp2_with fail
        go_meet
        exact ⟨g0, g1, rfl, rfl, h0, h1, B1.trans (HB.mono B1.size)⟩
  case rest =>
  obtain ⟨ga, gb, rfl, rfl, Ta, Tb, B⟩ := hcut
  clear B1 HX HM1 HM2
  obtain ⟨W2, rfl⟩ : ∃ x : World, x = wc := ⟨_, rfl⟩

  obtain ⟨gn_a, An_a, nn_a, cn_a, gd_a, Ad_a, nd_a, cd_a, Sa, Ia⟩ := Ta
  obtain ⟨gn_b, An_b, nn_b, cn_b, gd_b, Ad_b, nd_b, cd_b, Sb, Ib⟩ := Tb
  go_upto_region 3 with (fail)
  go_cut [4] (fun s wx => s = .bool true ∧ Below W2.heap.size W2 wx)
  case first =>
    have HS : Hid (∀ V, Below W2.heap.size W2 V → (V.cell? ⟨ga, 0, none⟩ = some (.bool gn_a) ∧ V.cell? ⟨ga, 1, none⟩ = some (.slice An_a nn_a cn_a) ∧ V.cell? ⟨ga, 2, none⟩ = some (.bool gd_a) ∧ V.cell? ⟨ga, 3, none⟩ = some (.slice Ad_a nd_a cd_a)) ∧ (V.cell? ⟨gb, 0, none⟩ = some (.bool gn_b) ∧ V.cell? ⟨gb, 1, none⟩ = some (.slice An_b nn_b cn_b) ∧ V.cell? ⟨gb, 2, none⟩ = some (.bool gd_b) ∧ V.cell? ⟨gb, 3, none⟩ = some (.slice Ad_b nd_b cd_b))) := fun V hV => ⟨(Sa.after hV).cells, (Sb.after hV).cells⟩
    obtain ⟨ta, hta⟩ : ∃ t, rtxt a = t := ⟨_, rfl⟩
    have HTA := Lib.hid hta
    by_cases hab : a = b
    case' pos =>
      as_aux_lemma =>
        have HTB : Hid (rtxt b = ta) := by rw [← hab]; exact hta
        have HE : Hid (true = decide (a = b)) := (decide_eq_true hab).symm
        clear hab hta
        have Dp0 : Below W2.heap.size W2 W2.drew := (Below.refl _ _).drew
        refine wp_region_seq (.pre [(0, true), (2, true), (5, true), (6, true), (1, false), (3, false), (4, true), (7, false), (8, true), (9, true), (10, true), (11, true), (12, true)] .done) (fun W => (W.cell? ⟨ga, 0, none⟩ = some (.bool gn_a) ∧ W.cell? ⟨ga, 1, none⟩ = some (.slice An_a nn_a cn_a) ∧ W.cell? ⟨ga, 2, none⟩ = some (.bool gd_a) ∧ W.cell? ⟨ga, 3, none⟩ = some (.slice Ad_a nd_a cd_a)) ∧ (W.cell? ⟨gb, 0, none⟩ = some (.bool gn_b) ∧ W.cell? ⟨gb, 1, none⟩ = some (.slice An_b nn_b cn_b) ∧ W.cell? ⟨gb, 2, none⟩ = some (.bool gd_b) ∧ W.cell? ⟨gb, 3, none⟩ = some (.slice Ad_b nd_b cd_b))) (by kernel_rfl) (by kernel_rfl) ?_ (by kernel_rfl) (HS.out _ Dp0) ?_
        · refine chk_pre _ _ _ (by as_aux_lemma => kernel_rfl) ?_
          exact (by as_aux_lemma => kernel_rfl)
        refine seq_take _ ?_ rfl (Or.inl ⟨by rfl, ?_⟩) ?_
        rotate_left
        · (intro w hSw; (try dsimp only at hSw); go_simp; (try with_reducible rfl))
        try simp only [Act.put, List.setIfInBounds_toArray, List.set_cons_zero, List.set_cons_succ]
        refine seq_take _ ?_ rfl (Or.inl ⟨by rfl, ?_⟩) ?_
        rotate_left
        · (intro w hSw; (try dsimp only at hSw); go_simp; (try with_reducible rfl))
        try simp only [Act.put, List.setIfInBounds_toArray, List.set_cons_zero, List.set_cons_succ]
        refine seq_take _ ?_ rfl (Or.inl ⟨by rfl, ?_⟩) ?_
        rotate_left
        · (intro w hSw; (try dsimp only at hSw); go_simp; (try with_reducible rfl))
        try simp only [Act.put, List.setIfInBounds_toArray, List.set_cons_zero, List.set_cons_succ]
        refine seq_take _ ?_ rfl (Or.inl ⟨by rfl, ?_⟩) ?_
        rotate_left
        · (intro w hSw; (try dsimp only at hSw); go_simp; (try with_reducible rfl))
        try simp only [Act.put, List.setIfInBounds_toArray, List.set_cons_zero, List.set_cons_succ]
        refine seq_one _ rfl fun K hK => ?_
        go_simp
        (with_reducible refine (qtext_z gn_a An_a nn_a cn_a gd_a Ad_a nd_a cd_a _ ta (Ia.below Dp0) Za (by decide) HTA.out).mono ?_)
        rintro e vp1 ⟨rfl, bp1⟩
        have Dp1 : Below W2.heap.size W2 vp1 := Below.trans Dp0 (bp1.mono (Below.size Dp0))
        go_wp2_with fail
        refine hK.out _ _ (HS.out _ Dp1) (fun hHeld => ?_)
        clear hK K hHeld
        try simp only [Act.put, List.setIfInBounds_toArray, List.set_cons_zero, List.set_cons_succ]
        refine seq_one _ rfl fun K hK => ?_
        go_simp
        (with_reducible refine (qtext_z gn_b An_b nn_b cn_b gd_b Ad_b nd_b cd_b _ ta (Ib.below Dp1) Zb (by decide) HTB.out).mono ?_)
        rintro e vp2 ⟨rfl, bp2⟩
        have Dp2 : Below W2.heap.size W2 vp2 := Below.trans Dp1 (bp2.mono (Below.size Dp1))
        go_wp2_with fail
        refine hK.out _ _ (HS.out _ Dp2) (fun hHeld => ?_)
        clear hK K hHeld
        try simp only [Act.put, List.setIfInBounds_toArray, List.set_cons_zero, List.set_cons_succ]
        refine seq_take _ ?_ rfl (Or.inl ⟨by rfl, ?_⟩) ?_
        rotate_left
        · (intro w hSw; (try dsimp only at hSw); go_simp; (try with_reducible rfl))
        try simp only [Act.put, List.setIfInBounds_toArray, List.set_cons_zero, List.set_cons_succ]
        refine seq_one _ rfl fun K hK => ?_
        go_simp
        (with_reducible refine (rqsame_v gn_a An_a nn_a cn_a gd_a Ad_a nd_a cd_a gn_b An_b nn_b cn_b gd_b Ad_b nd_b cd_b _ true (Ia.below Dp2) (Ib.below Dp2) HE.out).mono ?_)
        rintro e vp3 ⟨rfl, bp3⟩
        have Dp3 : Below W2.heap.size W2 vp3 := Below.trans Dp2 (bp3.mono (Below.size Dp2))
        go_wp2_with fail
        refine hK.out _ _ (HS.out _ Dp3) (fun hHeld => ?_)
        clear hK K hHeld
        try simp only [Act.put, List.setIfInBounds_toArray, List.set_cons_zero, List.set_cons_succ]
        refine seq_take _ ?_ rfl (Or.inl ⟨by rfl, ?_⟩) ?_
        rotate_left
        · (intro w hSw; (try dsimp only at hSw); go_simp; (try with_reducible rfl))
        try simp only [Act.put, List.setIfInBounds_toArray, List.set_cons_zero, List.set_cons_succ]
        refine seq_take _ ?_ rfl (Or.inl ⟨by rfl, ?_⟩) ?_
        rotate_left
        · (intro w hSw; (try dsimp only at hSw); go_simp; (try with_reducible rfl))
        try simp only [Act.put, List.setIfInBounds_toArray, List.set_cons_zero, List.set_cons_succ]
        refine seq_take _ ?_ rfl (Or.inl ⟨by rfl, ?_⟩) ?_
        rotate_left
        · (intro w hSw; (try dsimp only at hSw); go_simp; (try with_reducible rfl))
        try simp only [Act.put, List.setIfInBounds_toArray, List.set_cons_zero, List.set_cons_succ]
        refine seq_take _ ?_ rfl (Or.inl ⟨by rfl, ?_⟩) ?_
        rotate_left
        · (intro w hSw; (try dsimp only at hSw); go_simp; (try with_reducible rfl))
        try simp only [Act.put, List.setIfInBounds_toArray, List.set_cons_zero, List.set_cons_succ]
        refine seq_take _ ?_ rfl (Or.inl ⟨by rfl, ?_⟩) ?_
        rotate_left
        · (intro w hSw; (try dsimp only at hSw); go_simp; (try with_reducible rfl))
        try simp only [Act.put, List.setIfInBounds_toArray, List.set_cons_zero, List.set_cons_succ]
        refine NoPanic.normal ?_
        go_wp2_with fail
        go_meet
        exact ⟨rfl, Dp3⟩
    case' neg =>
      as_aux_lemma =>
        obtain ⟨tb, htb⟩ : ∃ t, rtxt b = t := ⟨_, rfl⟩
        have HTB := Lib.hid htb
        have HE : Hid (false = decide (a = b)) := (decide_eq_false hab).symm
        have hne : ¬ ta = tb := fun h => hab ((rtxt_inj a b).1 (by rw [hta, htb, h]))
        have hne2 : (ta.toList == tb.toList) = false := by simpa using fun h => hne (toL_eq h)
        clear hab hta htb
        have Dp0 : Below W2.heap.size W2 W2.drew := (Below.refl _ _).drew
        refine wp_region_seq (.pre [(0, true), (2, true), (5, true), (6, true), (1, false), (3, false), (4, true), (7, false), (8, true), (9, true), (10, true), (11, true), (12, true)] .done) (fun W => (W.cell? ⟨ga, 0, none⟩ = some (.bool gn_a) ∧ W.cell? ⟨ga, 1, none⟩ = some (.slice An_a nn_a cn_a) ∧ W.cell? ⟨ga, 2, none⟩ = some (.bool gd_a) ∧ W.cell? ⟨ga, 3, none⟩ = some (.slice Ad_a nd_a cd_a)) ∧ (W.cell? ⟨gb, 0, none⟩ = some (.bool gn_b) ∧ W.cell? ⟨gb, 1, none⟩ = some (.slice An_b nn_b cn_b) ∧ W.cell? ⟨gb, 2, none⟩ = some (.bool gd_b) ∧ W.cell? ⟨gb, 3, none⟩ = some (.slice Ad_b nd_b cd_b))) (by kernel_rfl) (by kernel_rfl) ?_ (by kernel_rfl) (HS.out _ Dp0) ?_
        · refine chk_pre _ _ _ (by as_aux_lemma => kernel_rfl) ?_
          exact (by as_aux_lemma => kernel_rfl)
        refine seq_take _ ?_ rfl (Or.inl ⟨by rfl, ?_⟩) ?_
        rotate_left
        · (intro w hSw; (try dsimp only at hSw); go_simp; (try with_reducible rfl))
        try simp only [Act.put, List.setIfInBounds_toArray, List.set_cons_zero, List.set_cons_succ]
        refine seq_take _ ?_ rfl (Or.inl ⟨by rfl, ?_⟩) ?_
        rotate_left
        · (intro w hSw; (try dsimp only at hSw); go_simp; (try with_reducible rfl))
        try simp only [Act.put, List.setIfInBounds_toArray, List.set_cons_zero, List.set_cons_succ]
        refine seq_take _ ?_ rfl (Or.inl ⟨by rfl, ?_⟩) ?_
        rotate_left
        · (intro w hSw; (try dsimp only at hSw); go_simp; (try with_reducible rfl))
        try simp only [Act.put, List.setIfInBounds_toArray, List.set_cons_zero, List.set_cons_succ]
        refine seq_take _ ?_ rfl (Or.inl ⟨by rfl, ?_⟩) ?_
        rotate_left
        · (intro w hSw; (try dsimp only at hSw); go_simp; (try with_reducible rfl))
        try simp only [Act.put, List.setIfInBounds_toArray, List.set_cons_zero, List.set_cons_succ]
        refine seq_one _ rfl fun K hK => ?_
        go_simp
        (with_reducible refine (qtext_z gn_a An_a nn_a cn_a gd_a Ad_a nd_a cd_a _ ta (Ia.below Dp0) Za (by decide) HTA.out).mono ?_)
        rintro e vp1 ⟨rfl, bp1⟩
        have Dp1 : Below W2.heap.size W2 vp1 := Below.trans Dp0 (bp1.mono (Below.size Dp0))
        go_wp2_with fail
        refine hK.out _ _ (HS.out _ Dp1) (fun hHeld => ?_)
        clear hK K hHeld
        try simp only [Act.put, List.setIfInBounds_toArray, List.set_cons_zero, List.set_cons_succ]
        refine seq_one _ rfl fun K hK => ?_
        go_simp
        (with_reducible refine (qtext_z gn_b An_b nn_b cn_b gd_b Ad_b nd_b cd_b _ tb (Ib.below Dp1) Zb (by decide) HTB.out).mono ?_)
        rintro e vp2 ⟨rfl, bp2⟩
        have Dp2 : Below W2.heap.size W2 vp2 := Below.trans Dp1 (bp2.mono (Below.size Dp1))
        go_wp2_with fail
        refine hK.out _ _ (HS.out _ Dp2) (fun hHeld => ?_)
        clear hK K hHeld
        try simp only [Act.put, List.setIfInBounds_toArray, List.set_cons_zero, List.set_cons_succ]
        refine seq_take _ ?_ rfl (Or.inl ⟨by rfl, ?_⟩) ?_
        rotate_left
        · (intro w hSw; (try dsimp only at hSw); go_simp; (try with_reducible rfl))
        try simp only [Act.put, List.setIfInBounds_toArray, List.set_cons_zero, List.set_cons_succ]
        refine seq_one _ rfl fun K hK => ?_
        go_simp
        (with_reducible refine (rqsame_v gn_a An_a nn_a cn_a gd_a Ad_a nd_a cd_a gn_b An_b nn_b cn_b gd_b Ad_b nd_b cd_b _ false (Ia.below Dp2) (Ib.below Dp2) HE.out).mono ?_)
        rintro e vp3 ⟨rfl, bp3⟩
        have Dp3 : Below W2.heap.size W2 vp3 := Below.trans Dp2 (bp3.mono (Below.size Dp2))
        go_wp2_with fail
        refine hK.out _ _ (HS.out _ Dp3) (fun hHeld => ?_)
        clear hK K hHeld
        try simp only [Act.put, List.setIfInBounds_toArray, List.set_cons_zero, List.set_cons_succ]
        refine seq_take _ ?_ rfl (Or.inl ⟨by rfl, ?_⟩) ?_
        rotate_left
        · (intro w hSw; (try dsimp only at hSw); go_simp; (try with_reducible rfl))
        try simp only [Act.put, List.setIfInBounds_toArray, List.set_cons_zero, List.set_cons_succ]
        refine seq_take _ ?_ rfl (Or.inl ⟨by rfl, ?_⟩) ?_
        rotate_left
        · (intro w hSw; (try dsimp only at hSw); go_simp; (try with_reducible rfl))
        try simp only [Act.put, List.setIfInBounds_toArray, List.set_cons_zero, List.set_cons_succ]
        refine seq_take _ ?_ rfl (Or.inl ⟨by rfl, ?_⟩) ?_
        rotate_left
        · (intro w hSw; (try dsimp only at hSw); go_simp; (try with_reducible rfl))
        try simp only [Act.put, List.setIfInBounds_toArray, List.set_cons_zero, List.set_cons_succ]
        refine seq_take _ ?_ rfl (Or.inl ⟨by rfl, ?_⟩) ?_
        rotate_left
        · (intro w hSw; (try dsimp only at hSw); go_simp; (try with_reducible rfl))
        try simp only [Act.put, List.setIfInBounds_toArray, List.set_cons_zero, List.set_cons_succ]
        refine seq_take _ ?_ rfl (Or.inl ⟨by rfl, ?_⟩) ?_
        rotate_left
        · (intro w hSw; (try dsimp only at hSw); go_simp; (try with_reducible rfl))
        try simp only [Act.put, List.setIfInBounds_toArray, List.set_cons_zero, List.set_cons_succ]
        refine NoPanic.normal ?_
        go_wp2_with fail
        go_meet
        exact ⟨rfl, Dp3⟩
  case rest =>
  obtain ⟨rfl, DC⟩ := hcut
  go_wp2_with fail
  go_ret
  exact ⟨rfl, B.trans (DC.mono B.size)⟩
end Go.Proofs.YtlpoboikompjfaaGreatDoor
