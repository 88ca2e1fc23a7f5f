/- The walk of the law IntegerRing, given what its fixed examples return. -/
import Derived.Test.YtdknibhaacbkpaaDoorVG12Sz
import Derived.Test.YtdknibhaacbkpaaDoorVG4MadeL
import Derived.Test.YtdknibhaacbkpaaDoorVLawValid
import Derived.Test.YtdknibhaacbkpaaDoorVLawRingA
import Derived.Deep.DeepCutAuto
namespace Go.Proofs.YtdknibhaacbkpaaDoor
open Go.RowKit
theorem sgn_ne {z : Int} (h : z ≠ 0) : (sgn z == 0) = false := by
  unfold sgn
  split
  · rfl
  · split
    · rfl
    · omega
/-- The blocks of three raw integers. -/
theorem frameR3 (w : World) (a0 a1 b0 b1 c0 c1 : Value) : Below w.heap.size w (((w.alloc (.cells #[a0, a1] 24)).alloc (.cells #[b0, b1] 24)).alloc (.cells #[c0, c1] 24)) ∧
    Slot2 (((w.alloc (.cells #[a0, a1] 24)).alloc (.cells #[b0, b1] 24)).alloc (.cells #[c0, c1] 24)) w.heap.size a0 a1 ∧
    Slot2 (((w.alloc (.cells #[a0, a1] 24)).alloc (.cells #[b0, b1] 24)).alloc (.cells #[c0, c1] 24)) (w.heap.size + 1) b0 b1 ∧
    Slot2 (((w.alloc (.cells #[a0, a1] 24)).alloc (.cells #[b0, b1] 24)).alloc (.cells #[c0, c1] 24)) (w.heap.size + 1 + 1) c0 c1 := by
  have h1 := Slot2.new (w.alloc (.cells #[a0, a1] 24)) b0 b1 24
  have h2 := Slot2.new ((w.alloc (.cells #[a0, a1] 24)).alloc (.cells #[b0, b1] 24)) c0 c1 24
  rw [World.size_alloc] at h1
  rw [World.size_alloc, World.size_alloc] at h2
  exact ⟨(((Below.refl _ _).alloc (Nat.le_refl _) _).alloc (by simp) _).alloc (by simp; omega) _, ((Slot2.new w a0 a1 _).alloc _).alloc _, h1.alloc _, h2⟩
set_option maxRecDepth 1000000 in
set_option maxHeartbeats 2000000 in
theorem law_ring (HS : SanOk) (A1 A2 A3 : Option Addr) (n1 c1 n2 c2 n3 c3 : Nat) (s1 s2 s3 : Bool) (xs ys zs : List Nat) (w : World) (ha : Lim w w.heap.size A1 n1 c1 xs) (hb : Lim w w.heap.size A2 n2 c2 ys) (hc : Lim w w.heap.size A3 n3 c3 zs) :
    Calls Tryd.prog 4 #[.agg #[.slice A1 n1 c1, .bool s1], .agg #[.slice A2 n2 c2, .bool s2], .agg #[.slice A3 n3 c3, .bool s3]] w fun e w' => e = .returned (.bool true) ∧ Below w.heap.size w w' := by
  have HS' := Lib.hid HS
  clear HS
  have M1 := fun W (hW : Below w.heap.size w W) => made_any s1 A1 n1 c1 w.heap.size xs W (ha.below hW) hW.size
  have M2 := fun W (hW : Below w.heap.size w W) => made_any s2 A2 n2 c2 w.heap.size ys W (hb.below hW) hW.size
  have M3 := fun W (hW : Below w.heap.size w W) => made_any s3 A3 n3 c3 w.heap.size zs W (hc.below hW) hW.size
  have Za := Sz.raw s1 xs 12 ha.lt (by decide)
  have Zb := Sz.raw s2 ys 12 hb.lt (by decide)
  have Zc := Sz.raw s3 zs 12 hc.lt (by decide)
  generalize zOf s1 (val (xs.take 12)) = a at M1 Za
  generalize zOf s2 (val (ys.take 12)) = b at M2 Zb
  generalize zOf s3 (val (zs.take 12)) = c at M3 Zc
  have HM1 := Lib.hid M1
  have HM2 := Lib.hid M2
  have HM3 := Lib.hid M3
  clear M1 M2 M3
  obtain ⟨B0, X0, Y0, Z0⟩ := frameR3 w (.slice A1 n1 c1) (.bool s1) (.slice A2 n2 c2) (.bool s2) (.slice A3 n3 c3) (.bool s3)
  go_enter Tryd.func4, Tryd.ntmps4
  go_wp2_with fail
  refine (HS'.out _).mono ?_
  rintro e w1 ⟨rfl, hb1⟩
  have B1 := B0.trans (hb1.mono B0.size)
  have X1 := X0.after hb1
  have Y1 := Y0.after hb1
  have Z1 := Z0.after hb1
  clear X0 Y0 Z0 B0 hb1
  go_wp2_with fail
  go_cut [8, 9, 10] (fun p8 p9 p10 wx => ∃ g8 g9 g10 : Nat, p8 = .pointer (some ⟨g8, 0, none⟩) ∧ p9 = .pointer (some ⟨g9, 0, none⟩) ∧ p10 = .pointer (some ⟨g10, 0, none⟩) ∧ Bag wx [(g8, a), (g9, b), (g10, c)] ∧ Below w.heap.size w wx)
  case first =>
    as_aux_lemma =>
      have HX : Hid (∀ W, Below w1.heap.size w1 W → (Slot2 W w.heap.size (.slice A1 n1 c1) (.bool s1) ∧ Slot2 W (w.heap.size + 1) (.slice A2 n2 c2) (.bool s2) ∧ Slot2 W (w.heap.size + 1 + 1) (.slice A3 n3 c3) (.bool s3))) := fun W hW => ⟨X1.after hW, Y1.after hW, Z1.after hW⟩
      clear X1 Y1 Z1
      refine wp_region_ev (fun d a0 a' w' => ∃ u15 u16 u17 u18 u19 u20 u8 u9 u10 : Value, a' = (((((((((a0.put (some 15) u15).put (some 16) u16).put (some 17) u17).put (some 18) u18).put (some 19) u19).put (some 20) u20).put (some 8) u8).put (some 9) u9).put (some 10) u10) ∧ Below w1.heap.size w1 w' ∧ (d 0 = true → u15 = .agg #[.slice A1 n1 c1, .bool s1]) ∧ (d 1 = true → IntV w' u16 a) ∧ (d 2 = true → u17 = .agg #[.slice A2 n2 c2, .bool s2]) ∧ (d 3 = true → IntV w' u18 b) ∧ (d 4 = true → u19 = .agg #[.slice A3 n3 c3, .bool s3]) ∧ (d 5 = true → IntV w' u20 c) ∧ (d 6 = true → OwnP w1.heap.size w' u8 (d 9) a) ∧ (d 7 = true → OwnP w1.heap.size w' u9 (d 10) b) ∧ (d 8 = true → OwnP w1.heap.size w' u10 (d 11) c) ∧ (d 6 = true → d 7 = true → u8 ≠ u9) ∧ (d 6 = true → d 8 = true → u8 ≠ u10) ∧ (d 7 = true → d 8 = true → u9 ≠ u10) ∧ (d 9 = true → d 6 = true) ∧ (d 10 = true → d 7 = true) ∧ (d 11 = true → d 8 = true)) (by kernel_rfl) (by kernel_rfl) ?_ ?_ ?_ ?_
      · intro d d' h a' w' hh
        obtain rfl : d = d' := funext h
        exact hh
      · exact ⟨undef, undef, undef, undef, undef, undef, undef, undef, undef, (by simp only [Act.put, List.setIfInBounds_toArray, List.set_cons_zero, List.set_cons_succ]), (Below.refl _ _).drew, (fun h => by cases h), (fun h => by cases h), (fun h => by cases h), (fun h => by cases h), (fun h => by cases h), (fun h => by cases h), (fun h => by cases h), (fun h => by cases h), (fun h => by cases h), (fun h => by cases h), (fun h => by cases h), (fun h => by cases h), (fun h => by cases h), (fun h => by cases h), (fun h => by cases h)⟩
      · refine ⟨?_, ?_, ?_, ?_, ?_, ?_, ?_, ?_, ?_, ?_, ?_, ?_, trivial⟩
        · intro d a2 w2 hd hm ⟨u15, u16, u17, u18, u19, u20, u8, u9, u10, e, HB, f0, f1, f2, f3, f4, f5, f6, f7, f8, n01, n02, n12, t0, t1, t2⟩ K hK
          subst e
          simp only [Act.put, List.setIfInBounds_toArray, List.set_cons_zero, List.set_cons_succ]
          obtain ⟨⟨q0, q1, _, _, _⟩, ⟨q2, q3, _, _, _⟩, ⟨q4, q5, _, _, _⟩⟩ := HX.out w2 HB
          go_simp
          exact hK.out _ _ ⟨.agg #[.slice A1 n1 c1, .bool s1], u16, u17, u18, u19, u20, u8, u9, u10, (by simp only [Act.put, List.setIfInBounds_toArray, List.set_cons_zero, List.set_cons_succ]), HB, (fun _ => rfl), (fun h => (f1 (by simpa using h))), (fun h => f2 (by simpa using h)), (fun h => (f3 (by simpa using h))), (fun h => f4 (by simpa using h)), (fun h => (f5 (by simpa using h))), (fun h => by simpa using (f6 (by simpa using h))), (fun h => by simpa using (f7 (by simpa using h))), (fun h => by simpa using (f8 (by simpa using h))), (fun h h' => n01 (by simpa using h) (by simpa using h')), (fun h h' => n02 (by simpa using h) (by simpa using h')), (fun h h' => n12 (by simpa using h) (by simpa using h')), (fun h => by simpa using t0 (by simpa using h)), (fun h => by simpa using t1 (by simpa using h)), (fun h => by simpa using t2 (by simpa using h))⟩
        · intro d a2 w2 hd hm ⟨u15, u16, u17, u18, u19, u20, u8, u9, u10, e, HB, f0, f1, f2, f3, f4, f5, f6, f7, f8, n01, n02, n12, t0, t1, t2⟩ K hK
          subst e
          simp only [Act.put, List.setIfInBounds_toArray, List.set_cons_zero, List.set_cons_succ]
          obtain rfl := f0 (hm ⟨0, .data⟩ (by simp) rfl)
          clear f0
          go_simp
          refine (HM1.out _ (B1.trans (Below.mono HB B1.size))).mono ?_
          rintro e w3 ⟨gg, AA, nn, cc, rfl, hi, hb⟩
          have HB3 := HB.trans (hb.mono HB.size)
          go_wp2_with fail
          exact hK.out _ _ ⟨.agg #[.slice A1 n1 c1, .bool s1], .agg #[.bool gg, .slice AA nn cc], u17, u18, u19, u20, u8, u9, u10, (by simp only [Act.put, List.setIfInBounds_toArray, List.set_cons_zero, List.set_cons_succ]), HB3, (fun _ => rfl), (fun _ => ⟨_, _, _, _, rfl, hi⟩), (fun h => f2 (by simpa using h)), (fun h => (f3 (by simpa using h)).below hb), (fun h => f4 (by simpa using h)), (fun h => (f5 (by simpa using h)).below hb), (fun h => by simpa using (f6 (by simpa using h)).below hb), (fun h => by simpa using (f7 (by simpa using h)).below hb), (fun h => by simpa using (f8 (by simpa using h)).below hb), (fun h h' => n01 (by simpa using h) (by simpa using h')), (fun h h' => n02 (by simpa using h) (by simpa using h')), (fun h h' => n12 (by simpa using h) (by simpa using h')), (fun h => by simpa using t0 (by simpa using h)), (fun h => by simpa using t1 (by simpa using h)), (fun h => by simpa using t2 (by simpa using h))⟩
        · intro d a2 w2 hd hm ⟨u15, u16, u17, u18, u19, u20, u8, u9, u10, e, HB, f0, f1, f2, f3, f4, f5, f6, f7, f8, n01, n02, n12, t0, t1, t2⟩ K hK
          subst e
          simp only [Act.put, List.setIfInBounds_toArray, List.set_cons_zero, List.set_cons_succ]
          obtain ⟨⟨q0, q1, _, _, _⟩, ⟨q2, q3, _, _, _⟩, ⟨q4, q5, _, _, _⟩⟩ := HX.out w2 HB
          go_simp
          exact hK.out _ _ ⟨u15, u16, .agg #[.slice A2 n2 c2, .bool s2], u18, u19, u20, u8, u9, u10, (by simp only [Act.put, List.setIfInBounds_toArray, List.set_cons_zero, List.set_cons_succ]), HB, (fun h => f0 (by simpa using h)), (fun h => (f1 (by simpa using h))), (fun _ => rfl), (fun h => (f3 (by simpa using h))), (fun h => f4 (by simpa using h)), (fun h => (f5 (by simpa using h))), (fun h => by simpa using (f6 (by simpa using h))), (fun h => by simpa using (f7 (by simpa using h))), (fun h => by simpa using (f8 (by simpa using h))), (fun h h' => n01 (by simpa using h) (by simpa using h')), (fun h h' => n02 (by simpa using h) (by simpa using h')), (fun h h' => n12 (by simpa using h) (by simpa using h')), (fun h => by simpa using t0 (by simpa using h)), (fun h => by simpa using t1 (by simpa using h)), (fun h => by simpa using t2 (by simpa using h))⟩
        · intro d a2 w2 hd hm ⟨u15, u16, u17, u18, u19, u20, u8, u9, u10, e, HB, f0, f1, f2, f3, f4, f5, f6, f7, f8, n01, n02, n12, t0, t1, t2⟩ K hK
          subst e
          simp only [Act.put, List.setIfInBounds_toArray, List.set_cons_zero, List.set_cons_succ]
          obtain rfl := f2 (hm ⟨2, .data⟩ (by simp) rfl)
          clear f2
          go_simp
          refine (HM2.out _ (B1.trans (Below.mono HB B1.size))).mono ?_
          rintro e w3 ⟨gg, AA, nn, cc, rfl, hi, hb⟩
          have HB3 := HB.trans (hb.mono HB.size)
          go_wp2_with fail
          exact hK.out _ _ ⟨u15, u16, .agg #[.slice A2 n2 c2, .bool s2], .agg #[.bool gg, .slice AA nn cc], u19, u20, u8, u9, u10, (by simp only [Act.put, List.setIfInBounds_toArray, List.set_cons_zero, List.set_cons_succ]), HB3, (fun h => f0 (by simpa using h)), (fun h => (f1 (by simpa using h)).below hb), (fun _ => rfl), (fun _ => ⟨_, _, _, _, rfl, hi⟩), (fun h => f4 (by simpa using h)), (fun h => (f5 (by simpa using h)).below hb), (fun h => by simpa using (f6 (by simpa using h)).below hb), (fun h => by simpa using (f7 (by simpa using h)).below hb), (fun h => by simpa using (f8 (by simpa using h)).below hb), (fun h h' => n01 (by simpa using h) (by simpa using h')), (fun h h' => n02 (by simpa using h) (by simpa using h')), (fun h h' => n12 (by simpa using h) (by simpa using h')), (fun h => by simpa using t0 (by simpa using h)), (fun h => by simpa using t1 (by simpa using h)), (fun h => by simpa using t2 (by simpa using h))⟩
        · intro d a2 w2 hd hm ⟨u15, u16, u17, u18, u19, u20, u8, u9, u10, e, HB, f0, f1, f2, f3, f4, f5, f6, f7, f8, n01, n02, n12, t0, t1, t2⟩ K hK
          subst e
          simp only [Act.put, List.setIfInBounds_toArray, List.set_cons_zero, List.set_cons_succ]
          obtain ⟨⟨q0, q1, _, _, _⟩, ⟨q2, q3, _, _, _⟩, ⟨q4, q5, _, _, _⟩⟩ := HX.out w2 HB
          go_simp
          exact hK.out _ _ ⟨u15, u16, u17, u18, .agg #[.slice A3 n3 c3, .bool s3], u20, u8, u9, u10, (by simp only [Act.put, List.setIfInBounds_toArray, List.set_cons_zero, List.set_cons_succ]), HB, (fun h => f0 (by simpa using h)), (fun h => (f1 (by simpa using h))), (fun h => f2 (by simpa using h)), (fun h => (f3 (by simpa using h))), (fun _ => rfl), (fun h => (f5 (by simpa using h))), (fun h => by simpa using (f6 (by simpa using h))), (fun h => by simpa using (f7 (by simpa using h))), (fun h => by simpa using (f8 (by simpa using h))), (fun h h' => n01 (by simpa using h) (by simpa using h')), (fun h h' => n02 (by simpa using h) (by simpa using h')), (fun h h' => n12 (by simpa using h) (by simpa using h')), (fun h => by simpa using t0 (by simpa using h)), (fun h => by simpa using t1 (by simpa using h)), (fun h => by simpa using t2 (by simpa using h))⟩
        · intro d a2 w2 hd hm ⟨u15, u16, u17, u18, u19, u20, u8, u9, u10, e, HB, f0, f1, f2, f3, f4, f5, f6, f7, f8, n01, n02, n12, t0, t1, t2⟩ K hK
          subst e
          simp only [Act.put, List.setIfInBounds_toArray, List.set_cons_zero, List.set_cons_succ]
          obtain rfl := f4 (hm ⟨4, .data⟩ (by simp) rfl)
          clear f4
          go_simp
          refine (HM3.out _ (B1.trans (Below.mono HB B1.size))).mono ?_
          rintro e w3 ⟨gg, AA, nn, cc, rfl, hi, hb⟩
          have HB3 := HB.trans (hb.mono HB.size)
          go_wp2_with fail
          exact hK.out _ _ ⟨u15, u16, u17, u18, .agg #[.slice A3 n3 c3, .bool s3], .agg #[.bool gg, .slice AA nn cc], u8, u9, u10, (by simp only [Act.put, List.setIfInBounds_toArray, List.set_cons_zero, List.set_cons_succ]), HB3, (fun h => f0 (by simpa using h)), (fun h => (f1 (by simpa using h)).below hb), (fun h => f2 (by simpa using h)), (fun h => (f3 (by simpa using h)).below hb), (fun _ => rfl), (fun _ => ⟨_, _, _, _, rfl, hi⟩), (fun h => by simpa using (f6 (by simpa using h)).below hb), (fun h => by simpa using (f7 (by simpa using h)).below hb), (fun h => by simpa using (f8 (by simpa using h)).below hb), (fun h h' => n01 (by simpa using h) (by simpa using h')), (fun h h' => n02 (by simpa using h) (by simpa using h')), (fun h h' => n12 (by simpa using h) (by simpa using h')), (fun h => by simpa using t0 (by simpa using h)), (fun h => by simpa using t1 (by simpa using h)), (fun h => by simpa using t2 (by simpa using h))⟩
        · intro d a2 w2 hd hm ⟨u15, u16, u17, u18, u19, u20, u8, u9, u10, e, HB, f0, f1, f2, f3, f4, f5, f6, f7, f8, n01, n02, n12, t0, t1, t2⟩ K hK
          subst e
          simp only [Act.put, List.setIfInBounds_toArray, List.set_cons_zero, List.set_cons_succ]
          have hb : Below w2.heap.size w2 (w2.alloc (.cells #[.bool false, .slice none 0 0] 28)) := (Below.refl _ _).alloc (Nat.le_refl _) _
          have HB3 := HB.trans (hb.mono HB.size)
          go_simp
          exact hK.out _ _ ⟨u15, u16, u17, u18, u19, u20, .pointer (some ⟨w2.heap.size, 0, none⟩), u9, u10, (by simp only [Act.put, List.setIfInBounds_toArray, List.set_cons_zero, List.set_cons_succ]), HB3, (fun h => f0 (by simpa using h)), (fun h => (f1 (by simpa using h)).below hb), (fun h => f2 (by simpa using h)), (fun h => (f3 (by simpa using h)).below hb), (fun h => f4 (by simpa using h)), (fun h => (f5 (by simpa using h)).below hb), (fun _ => by have hs : d 9 = false := (by cases hq : d 9 with | false => rfl | true => (have hz := t0 hq; rw [hd] at hz; cases hz)); simpa [hs] using OwnP.new HB.size a), (fun h => by simpa using (f7 (by simpa using h)).below hb), (fun h => by simpa using (f8 (by simpa using h)).below hb), (fun _ h' => ((f7 (by simpa using h')).lt).symm), (fun _ h' => ((f8 (by simpa using h')).lt).symm), (fun h h' => n12 (by simpa using h) (by simpa using h')), (fun _ => by simp), (fun h => by simpa using t1 (by simpa using h)), (fun h => by simpa using t2 (by simpa using h))⟩
        · intro d a2 w2 hd hm ⟨u15, u16, u17, u18, u19, u20, u8, u9, u10, e, HB, f0, f1, f2, f3, f4, f5, f6, f7, f8, n01, n02, n12, t0, t1, t2⟩ K hK
          subst e
          simp only [Act.put, List.setIfInBounds_toArray, List.set_cons_zero, List.set_cons_succ]
          have hb : Below w2.heap.size w2 (w2.alloc (.cells #[.bool false, .slice none 0 0] 28)) := (Below.refl _ _).alloc (Nat.le_refl _) _
          have HB3 := HB.trans (hb.mono HB.size)
          go_simp
          exact hK.out _ _ ⟨u15, u16, u17, u18, u19, u20, u8, .pointer (some ⟨w2.heap.size, 0, none⟩), u10, (by simp only [Act.put, List.setIfInBounds_toArray, List.set_cons_zero, List.set_cons_succ]), HB3, (fun h => f0 (by simpa using h)), (fun h => (f1 (by simpa using h)).below hb), (fun h => f2 (by simpa using h)), (fun h => (f3 (by simpa using h)).below hb), (fun h => f4 (by simpa using h)), (fun h => (f5 (by simpa using h)).below hb), (fun h => by simpa using (f6 (by simpa using h)).below hb), (fun _ => by have hs : d 10 = false := (by cases hq : d 10 with | false => rfl | true => (have hz := t1 hq; rw [hd] at hz; cases hz)); simpa [hs] using OwnP.new HB.size b), (fun h => by simpa using (f8 (by simpa using h)).below hb), (fun h _ => (f6 (by simpa using h)).lt), (fun h h' => n02 (by simpa using h) (by simpa using h')), (fun _ h' => ((f8 (by simpa using h')).lt).symm), (fun h => by simpa using t0 (by simpa using h)), (fun _ => by simp), (fun h => by simpa using t2 (by simpa using h))⟩
        · intro d a2 w2 hd hm ⟨u15, u16, u17, u18, u19, u20, u8, u9, u10, e, HB, f0, f1, f2, f3, f4, f5, f6, f7, f8, n01, n02, n12, t0, t1, t2⟩ K hK
          subst e
          simp only [Act.put, List.setIfInBounds_toArray, List.set_cons_zero, List.set_cons_succ]
          have hb : Below w2.heap.size w2 (w2.alloc (.cells #[.bool false, .slice none 0 0] 28)) := (Below.refl _ _).alloc (Nat.le_refl _) _
          have HB3 := HB.trans (hb.mono HB.size)
          go_simp
          exact hK.out _ _ ⟨u15, u16, u17, u18, u19, u20, u8, u9, .pointer (some ⟨w2.heap.size, 0, none⟩), (by simp only [Act.put, List.setIfInBounds_toArray, List.set_cons_zero, List.set_cons_succ]), HB3, (fun h => f0 (by simpa using h)), (fun h => (f1 (by simpa using h)).below hb), (fun h => f2 (by simpa using h)), (fun h => (f3 (by simpa using h)).below hb), (fun h => f4 (by simpa using h)), (fun h => (f5 (by simpa using h)).below hb), (fun h => by simpa using (f6 (by simpa using h)).below hb), (fun h => by simpa using (f7 (by simpa using h)).below hb), (fun _ => by have hs : d 11 = false := (by cases hq : d 11 with | false => rfl | true => (have hz := t2 hq; rw [hd] at hz; cases hz)); simpa [hs] using OwnP.new HB.size c), (fun h h' => n01 (by simpa using h) (by simpa using h')), (fun h _ => (f6 (by simpa using h)).lt), (fun h _ => (f7 (by simpa using h)).lt), (fun h => by simpa using t0 (by simpa using h)), (fun h => by simpa using t1 (by simpa using h)), (fun _ => by simp)⟩
        · intro d a2 w2 hd hm ⟨u15, u16, u17, u18, u19, u20, u8, u9, u10, e, HB, f0, f1, f2, f3, f4, f5, f6, f7, f8, n01, n02, n12, t0, t1, t2⟩ K hK
          subst e
          simp only [Act.put, List.setIfInBounds_toArray, List.set_cons_zero, List.set_cons_succ]
          obtain ⟨gg, AA, nn, cc, rfl, hi⟩ := f1 (hm ⟨1, .data⟩ (by simp) rfl)
          obtain ⟨g, rfl, hg, b0, b1, hs, n0, n1, _⟩ := f6 (hm ⟨6, .data⟩ (by simp) rfl)
          obtain ⟨k0, k1, k2, k3, k4⟩ := id hs
          go_simp
          exact hK.out _ _ ⟨u15, .agg #[.bool gg, .slice AA nn cc], u17, u18, u19, u20, .pointer (some ⟨g, 0, none⟩), u9, u10, (by simp only [Act.put, List.setIfInBounds_toArray, List.set_cons_zero, List.set_cons_succ]), Below.set2 HB hg _ _, (fun h => f0 (by simpa using h)), (fun h => (f1 (by simpa using h)).set2 hs n0 n1 _ _), (fun h => f2 (by simpa using h)), (fun h => (f3 (by simpa using h)).set2 hs n0 n1 _ _), (fun h => f4 (by simpa using h)), (fun h => (f5 (by simpa using h)).set2 hs n0 n1 _ _), (fun _ => by simpa using OwnP.near hi hg hs n0 n1), (fun h => by simpa using (f7 (by simpa using h)).far ((n01 (hm ⟨6, .data⟩ (by simp) rfl) (by simpa using h)).symm) hs n0 n1 _ _), (fun h => by simpa using (f8 (by simpa using h)).far ((n02 (hm ⟨6, .data⟩ (by simp) rfl) (by simpa using h)).symm) hs n0 n1 _ _), (fun h h' => n01 (by simpa using h) (by simpa using h')), (fun h h' => n02 (by simpa using h) (by simpa using h')), (fun h h' => n12 (by simpa using h) (by simpa using h')), (fun _ => by simpa using hm ⟨6, .data⟩ (by simp) rfl), (fun h => by simpa using t1 (by simpa using h)), (fun h => by simpa using t2 (by simpa using h))⟩
        · intro d a2 w2 hd hm ⟨u15, u16, u17, u18, u19, u20, u8, u9, u10, e, HB, f0, f1, f2, f3, f4, f5, f6, f7, f8, n01, n02, n12, t0, t1, t2⟩ K hK
          subst e
          simp only [Act.put, List.setIfInBounds_toArray, List.set_cons_zero, List.set_cons_succ]
          obtain ⟨gg, AA, nn, cc, rfl, hi⟩ := f3 (hm ⟨3, .data⟩ (by simp) rfl)
          obtain ⟨g, rfl, hg, b0, b1, hs, n0, n1, _⟩ := f7 (hm ⟨7, .data⟩ (by simp) rfl)
          obtain ⟨k0, k1, k2, k3, k4⟩ := id hs
          go_simp
          exact hK.out _ _ ⟨u15, u16, u17, .agg #[.bool gg, .slice AA nn cc], u19, u20, u8, .pointer (some ⟨g, 0, none⟩), u10, (by simp only [Act.put, List.setIfInBounds_toArray, List.set_cons_zero, List.set_cons_succ]), Below.set2 HB hg _ _, (fun h => f0 (by simpa using h)), (fun h => (f1 (by simpa using h)).set2 hs n0 n1 _ _), (fun h => f2 (by simpa using h)), (fun h => (f3 (by simpa using h)).set2 hs n0 n1 _ _), (fun h => f4 (by simpa using h)), (fun h => (f5 (by simpa using h)).set2 hs n0 n1 _ _), (fun h => by simpa using (f6 (by simpa using h)).far (n01 (by simpa using h) (hm ⟨7, .data⟩ (by simp) rfl)) hs n0 n1 _ _), (fun _ => by simpa using OwnP.near hi hg hs n0 n1), (fun h => by simpa using (f8 (by simpa using h)).far ((n12 (hm ⟨7, .data⟩ (by simp) rfl) (by simpa using h)).symm) hs n0 n1 _ _), (fun h h' => n01 (by simpa using h) (by simpa using h')), (fun h h' => n02 (by simpa using h) (by simpa using h')), (fun h h' => n12 (by simpa using h) (by simpa using h')), (fun h => by simpa using t0 (by simpa using h)), (fun _ => by simpa using hm ⟨7, .data⟩ (by simp) rfl), (fun h => by simpa using t2 (by simpa using h))⟩
        · intro d a2 w2 hd hm ⟨u15, u16, u17, u18, u19, u20, u8, u9, u10, e, HB, f0, f1, f2, f3, f4, f5, f6, f7, f8, n01, n02, n12, t0, t1, t2⟩ K hK
          subst e
          simp only [Act.put, List.setIfInBounds_toArray, List.set_cons_zero, List.set_cons_succ]
          obtain ⟨gg, AA, nn, cc, rfl, hi⟩ := f5 (hm ⟨5, .data⟩ (by simp) rfl)
          obtain ⟨g, rfl, hg, b0, b1, hs, n0, n1, _⟩ := f8 (hm ⟨8, .data⟩ (by simp) rfl)
          obtain ⟨k0, k1, k2, k3, k4⟩ := id hs
          go_simp
          exact hK.out _ _ ⟨u15, u16, u17, u18, u19, .agg #[.bool gg, .slice AA nn cc], u8, u9, .pointer (some ⟨g, 0, none⟩), (by simp only [Act.put, List.setIfInBounds_toArray, List.set_cons_zero, List.set_cons_succ]), Below.set2 HB hg _ _, (fun h => f0 (by simpa using h)), (fun h => (f1 (by simpa using h)).set2 hs n0 n1 _ _), (fun h => f2 (by simpa using h)), (fun h => (f3 (by simpa using h)).set2 hs n0 n1 _ _), (fun h => f4 (by simpa using h)), (fun h => (f5 (by simpa using h)).set2 hs n0 n1 _ _), (fun h => by simpa using (f6 (by simpa using h)).far (n02 (by simpa using h) (hm ⟨8, .data⟩ (by simp) rfl)) hs n0 n1 _ _), (fun h => by simpa using (f7 (by simpa using h)).far (n12 (by simpa using h) (hm ⟨8, .data⟩ (by simp) rfl)) hs n0 n1 _ _), (fun _ => by simpa using OwnP.near hi hg hs n0 n1), (fun h h' => n01 (by simpa using h) (by simpa using h')), (fun h h' => n02 (by simpa using h) (by simpa using h')), (fun h h' => n12 (by simpa using h) (by simpa using h')), (fun h => by simpa using t0 (by simpa using h)), (fun h => by simpa using t1 (by simpa using h)), (fun _ => by simpa using hm ⟨8, .data⟩ (by simp) rfl)⟩
      · intro d a2 w2 hall ⟨u15, u16, u17, u18, u19, u20, u8, u9, u10, e, HB, f0, f1, f2, f3, f4, f5, f6, f7, f8, n01, n02, n12, t0, t1, t2⟩
        subst e
        simp only [Act.put, List.setIfInBounds_toArray, List.set_cons_zero, List.set_cons_succ]
        obtain ⟨g0, rfl, h0⟩ := OwnP.intAt (by have := f6 (hall _ (by decide)); rwa [hall 9 (by decide)] at this)
        obtain ⟨g1, rfl, h1⟩ := OwnP.intAt (by have := f7 (hall _ (by decide)); rwa [hall 10 (by decide)] at this)
        obtain ⟨g2, rfl, h2⟩ := OwnP.intAt (by have := f8 (hall _ (by decide)); rwa [hall 11 (by decide)] at this)
        go_wp2_with fail
        go_meet
        exact ⟨g0, g1, g2, rfl, rfl, rfl, Bag.cons h0 (Bag.cons h1 (Bag.cons h2 (bag_nil _))), B1.trans (HB.mono B1.size)⟩
  case rest =>
  obtain ⟨ba, bb, bc, rfl, rfl, rfl, BG2, B2⟩ := hcut
  clear B1 X1 Y1 Z1
  obtain ⟨W2, rfl⟩ : ∃ x : World, x = wc := ⟨_, rfl⟩
  obtain ⟨g1, A1', n1', c1', S1, I1⟩ := BG2 (ba, a) (by simp)
  obtain ⟨g2, A2', n2', c2', S2, I2⟩ := BG2 (bb, b) (by simp)
  have ⟨k0, k1, _, _, _⟩ := S1
  have ⟨k2, k3, _, _, _⟩ := S2
  go_wp2_with fail
  refine (mul_z' _ _ _ _ _ _ _ _ _ I1 I2 Za Zb).mono ?_
  rintro e w3 ⟨g3, A3', n3', c3', rfl, hi3, hb3⟩
  have BG3 := (BG2.after hb3).new hi3
  have B3 := (B2.trans (hb3.mono B2.size)).alloc (Nat.le_trans B2.size hb3.size) (.cells #[.bool g3, .slice A3' n3' c3'] 28)
  clear k0 k1 k2 k3 S1 S2 I1 I2 BG2 B2
  go_wp2_with fail
  generalize w3.heap.size = bp at *
  generalize hW3 : w3.alloc (.cells #[.bool g3, .slice A3' n3' c3'] 28) = W3 at *
  clear hW3
  have Zab : Sz 24 (a * b) := Sz.mul Za Zb (by decide)
  go_cut [12] (fun s wx => s = .bool true ∧ Below W3.heap.size W3 wx)
  case first =>
    as_aux_lemma =>
      obtain ⟨ga, Aa, na, ca, Sa, Ia⟩ := BG3 (ba, a) (by simp)
      obtain ⟨gb, Ab, nb, cb, Sb, Ib⟩ := BG3 (bb, b) (by simp)
      obtain ⟨gc, Ac, nc, cc, Sc, Ic⟩ := BG3 (bc, c) (by simp)
      have Zp1 : Sz 13 (a + b) := Sz.add Za Zb (by decide)
      have Zp2 : Sz 13 (b + a) := Sz.add Zb Za (by decide)
      have Zp4 : Sz 13 (a + b) := Sz.add Za Zb (by decide)
      have Zp5 : Sz 14 ((a + b) + c) := Sz.add Zp4 (Sz.mono Zc (by decide) (by decide)) (by decide)
      have Zp6 : Sz 13 (b + c) := Sz.add Zb Zc (by decide)
      have Zp7 : Sz 14 (a + (b + c)) := Sz.add (Sz.mono Za (by decide) (by decide)) Zp6 (by decide)
      have Zp9 : Sz 1 ((0 : Int)) := Sz.of (by decide) (by decide)
      have Zp10 : Sz 13 (a + ((0 : Int))) := Sz.add Za (Sz.mono Zp9 (by decide) (by decide)) (by decide)
      have Zp12 : Sz 12 (-a) := Sz.neg Za
      have Zp13 : Sz 13 (a + -a) := Sz.add Za Zp12 (by decide)
      have Zp15 : Sz 13 (a + b) := Sz.add Za Zb (by decide)
      have Zp16 : Sz 14 ((a + b) - b) := Sz.sub Zp15 (Sz.mono Zb (by decide) (by decide)) (by decide)
      have HSp : Hid (∀ W, Below W3.heap.size W3 W → W.cell? ⟨ba, 0, none⟩ = some (.bool ga) ∧ W.cell? ⟨ba, 1, none⟩ = some (.slice Aa na ca) ∧ W.cell? ⟨bb, 0, none⟩ = some (.bool gb) ∧ W.cell? ⟨bb, 1, none⟩ = some (.slice Ab nb cb) ∧ W.cell? ⟨bc, 0, none⟩ = some (.bool gc) ∧ W.cell? ⟨bc, 1, none⟩ = some (.slice Ac nc cc)) := fun W hW => ⟨(Sa.after hW).1, (Sa.after hW).2.1, (Sb.after hW).1, (Sb.after hW).2.1, (Sc.after hW).1, (Sc.after hW).2.1⟩
      have Dp0 : Below W3.heap.size W3 W3.drew := (Below.refl _ _).drew
      clear Sa Sb Sc
      go_region_held3 (fun W => W.cell? ⟨ba, 0, none⟩ = some (.bool ga) ∧ W.cell? ⟨ba, 1, none⟩ = some (.slice Aa na ca) ∧ W.cell? ⟨bb, 0, none⟩ = some (.bool gb) ∧ W.cell? ⟨bb, 1, none⟩ = some (.slice Ab nb cb) ∧ W.cell? ⟨bc, 0, none⟩ = some (.bool gc) ∧ W.cell? ⟨bc, 1, none⟩ = some (.slice Ac nc cc)) (exact HSp.out _ (by with_reducible assumption))
        (first | (have _q := Dp16; go_at_call 18; (with_reducible refine (same_z gp16 ga Ap16 Aa np16 cp16 na ca _ ip16 (Ia.below Dp16) (Int.add_sub_cancel a b)).mono ?_); rintro e vp17 ⟨rfl, bp17⟩; (with_reducible have Dp17 : Below W3.heap.size W3 vp17 := (Below.trans Dp16 (bp17.mono (Below.size Dp16))))) | (have _q := Dp15; go_at_call 22; (with_reducible refine (sub_z gp15 gb Ap15 Ab np15 cp15 nb cb _ ip15 (Ib.below Dp15) Zp15 Zb).mono ?_); rintro e vp16 ⟨gp16, Ap16, np16, cp16, rfl, ip16, bp16⟩; (with_reducible have Dp16 : Below W3.heap.size W3 vp16 := (Below.trans Dp15 (bp16.mono (Below.size Dp15))))) | (have _q := Dp14; go_at_call 19; (with_reducible refine (add_z ga gb Aa Ab na ca nb cb _ (Ia.below Dp14) (Ib.below Dp14) Za Zb).mono ?_); rintro e vp15 ⟨gp15, Ap15, np15, cp15, rfl, ip15, bp15⟩; (with_reducible have Dp15 : Below W3.heap.size W3 vp15 := (Below.trans Dp14 (bp15.mono (Below.size Dp14))))) | (have _q := Dp13; go_at_call 20; (with_reducible refine (sign_z gp13 Ap13 np13 cp13 _ 0 ip13 (sgn_zero (Int.add_right_neg a))).mono ?_); rintro e vp14 ⟨rfl, bp14⟩; (with_reducible have Dp14 : Below W3.heap.size W3 vp14 := (Below.trans Dp13 (bp14.mono (Below.size Dp13))))) | (have _q := Dp12; go_at_call 19; (with_reducible refine (add_z ga gp12 Aa Ap12 na ca np12 cp12 _ (Ia.below Dp12) ip12 Za Zp12).mono ?_); rintro e vp13 ⟨gp13, Ap13, np13, cp13, rfl, ip13, bp13⟩; (with_reducible have Dp13 : Below W3.heap.size W3 vp13 := (Below.trans Dp12 (bp13.mono (Below.size Dp12))))) | (have _q := Dp11; go_at_call 21; (with_reducible refine (neg_z ga Aa na ca _ (Ia.below Dp11) Za).mono ?_); rintro e vp12 ⟨gp12, Ap12, np12, cp12, rfl, ip12, bp12⟩; (with_reducible have Dp12 : Below W3.heap.size W3 vp12 := (Below.trans Dp11 (bp12.mono (Below.size Dp11))))) | (have _q := Dp10; go_at_call 18; (with_reducible refine (same_z gp10 ga Ap10 Aa np10 cp10 na ca _ ip10 (Ia.below Dp10) (Int.add_zero a)).mono ?_); rintro e vp11 ⟨rfl, bp11⟩; (with_reducible have Dp11 : Below W3.heap.size W3 vp11 := (Below.trans Dp10 (bp11.mono (Below.size Dp10))))) | (have _q := Dp9; go_at_call 19; (with_reducible refine (add_z ga gp9 Aa Ap9 na ca np9 cp9 _ (Ia.below Dp9) ip9 Za Zp9).mono ?_); rintro e vp10 ⟨gp10, Ap10, np10, cp10, rfl, ip10, bp10⟩; (with_reducible have Dp10 : Below W3.heap.size W3 vp10 := (Below.trans Dp9 (bp10.mono (Below.size Dp9))))) | (have _q := Dp8; go_at_call 13; (with_reducible refine (of_any (0) _ (by decide) (by decide)).mono ?_); rintro e vp9 ⟨gp9, Ap9, np9, cp9, rfl, ip9, bp9⟩; (with_reducible have Dp9 : Below W3.heap.size W3 vp9 := (Below.trans Dp8 (bp9.mono (Below.size Dp8))))) | (have _q := Dp7; go_at_call 18; (with_reducible refine (same_z gp5 gp7 Ap5 Ap7 np5 cp5 np7 cp7 _ ((ip5.below bp6).below bp7) ip7 (Int.add_assoc a b c)).mono ?_); rintro e vp8 ⟨rfl, bp8⟩; (with_reducible have Dp8 : Below W3.heap.size W3 vp8 := (Below.trans Dp7 (bp8.mono (Below.size Dp7))))) | (have _q := Dp6; go_at_call 19; (with_reducible refine (add_z ga gp6 Aa Ap6 na ca np6 cp6 _ (Ia.below Dp6) ip6 Za Zp6).mono ?_); rintro e vp7 ⟨gp7, Ap7, np7, cp7, rfl, ip7, bp7⟩; (with_reducible have Dp7 : Below W3.heap.size W3 vp7 := (Below.trans Dp6 (bp7.mono (Below.size Dp6))))) | (have _q := Dp5; go_at_call 19; (with_reducible refine (add_z gb gc Ab Ac nb cb nc cc _ (Ib.below Dp5) (Ic.below Dp5) Zb Zc).mono ?_); rintro e vp6 ⟨gp6, Ap6, np6, cp6, rfl, ip6, bp6⟩; (with_reducible have Dp6 : Below W3.heap.size W3 vp6 := (Below.trans Dp5 (bp6.mono (Below.size Dp5))))) | (have _q := Dp4; go_at_call 19; (with_reducible refine (add_z gp4 gc Ap4 Ac np4 cp4 nc cc _ ip4 (Ic.below Dp4) Zp4 Zc).mono ?_); rintro e vp5 ⟨gp5, Ap5, np5, cp5, rfl, ip5, bp5⟩; (with_reducible have Dp5 : Below W3.heap.size W3 vp5 := (Below.trans Dp4 (bp5.mono (Below.size Dp4))))) | (have _q := Dp3; go_at_call 19; (with_reducible refine (add_z ga gb Aa Ab na ca nb cb _ (Ia.below Dp3) (Ib.below Dp3) Za Zb).mono ?_); rintro e vp4 ⟨gp4, Ap4, np4, cp4, rfl, ip4, bp4⟩; (with_reducible have Dp4 : Below W3.heap.size W3 vp4 := (Below.trans Dp3 (bp4.mono (Below.size Dp3))))) | (have _q := Dp2; go_at_call 18; (with_reducible refine (same_z gp1 gp2 Ap1 Ap2 np1 cp1 np2 cp2 _ (ip1.below bp2) ip2 (Int.add_comm a b)).mono ?_); rintro e vp3 ⟨rfl, bp3⟩; (with_reducible have Dp3 : Below W3.heap.size W3 vp3 := (Below.trans Dp2 (bp3.mono (Below.size Dp2))))) | (have _q := Dp1; go_at_call 19; (with_reducible refine (add_z gb ga Ab Aa nb cb na ca _ (Ib.below Dp1) (Ia.below Dp1) Zb Za).mono ?_); rintro e vp2 ⟨gp2, Ap2, np2, cp2, rfl, ip2, bp2⟩; (with_reducible have Dp2 : Below W3.heap.size W3 vp2 := (Below.trans Dp1 (bp2.mono (Below.size Dp1))))) | (have _q := Dp0; go_at_call 19; (with_reducible refine (add_z ga gb Aa Ab na ca nb cb _ (Ia.below Dp0) (Ib.below Dp0) Za Zb).mono ?_); rintro e vp1 ⟨gp1, Ap1, np1, cp1, rfl, ip1, bp1⟩; (with_reducible have Dp1 : Below W3.heap.size W3 vp1 := (Below.trans Dp0 (bp1.mono (Below.size Dp0))))))
      go_wp2_with fail
      go_meet
      exact ⟨rfl, Dp17⟩
  case rest =>
  obtain ⟨rfl, DC⟩ := hcut
  have BG4 := BG3.after DC
  have BB4 := B3.trans (DC.mono B3.size)
  clear DC BG3 B3
  obtain ⟨W4, rfl⟩ : ∃ x : World, x = wc := ⟨_, rfl⟩
  go_wp2_with fail
  go_cut [13] (fun s wx => s = .bool true ∧ Below W4.heap.size W4 wx)
  case first =>
    as_aux_lemma =>
      obtain ⟨gab, Aab, nab, cab, Sab, Iab⟩ := BG4 (bp, a * b) (by simp)
      obtain ⟨ga, Aa, na, ca, Sa, Ia⟩ := BG4 (ba, a) (by simp)
      obtain ⟨gb, Ab, nb, cb, Sb, Ib⟩ := BG4 (bb, b) (by simp)
      obtain ⟨gc, Ac, nc, cc, Sc, Ic⟩ := BG4 (bc, c) (by simp)
      have Zq1 : Sz 24 (b * a) := Sz.mul Zb Za (by decide)
      have Zq3 : Sz 36 ((a * b) * c) := Sz.mul Zab Zc (by decide)
      have Zq4 : Sz 24 (b * c) := Sz.mul Zb Zc (by decide)
      have Zq5 : Sz 36 (a * (b * c)) := Sz.mul Za Zq4 (by decide)
      have Zq7 : Sz 1 ((1 : Int)) := Sz.of (by decide) (by decide)
      have Zq8 : Sz 13 (a * ((1 : Int))) := Sz.mul Za Zq7 (by decide)
      have Zq10 : Sz 13 (b + c) := Sz.add Zb Zc (by decide)
      have Zq11 : Sz 25 (a * (b + c)) := Sz.mul Za Zq10 (by decide)
      have Zq12 : Sz 24 (a * c) := Sz.mul Za Zc (by decide)
      have Zq13 : Sz 25 ((a * b) + (a * c)) := Sz.add Zab Zq12 (by decide)
      have HSq : Hid (∀ W, Below W4.heap.size W4 W → W.cell? ⟨bp, 0, none⟩ = some (.bool gab) ∧ W.cell? ⟨bp, 1, none⟩ = some (.slice Aab nab cab) ∧ W.cell? ⟨ba, 0, none⟩ = some (.bool ga) ∧ W.cell? ⟨ba, 1, none⟩ = some (.slice Aa na ca) ∧ W.cell? ⟨bb, 0, none⟩ = some (.bool gb) ∧ W.cell? ⟨bb, 1, none⟩ = some (.slice Ab nb cb) ∧ W.cell? ⟨bc, 0, none⟩ = some (.bool gc) ∧ W.cell? ⟨bc, 1, none⟩ = some (.slice Ac nc cc)) := fun W hW => ⟨(Sab.after hW).1, (Sab.after hW).2.1, (Sa.after hW).1, (Sa.after hW).2.1, (Sb.after hW).1, (Sb.after hW).2.1, (Sc.after hW).1, (Sc.after hW).2.1⟩
      have Dq0 : Below W4.heap.size W4 W4.drew := (Below.refl _ _).drew
      clear Sab Sa Sb Sc
      go_region_held3 (fun W => W.cell? ⟨bp, 0, none⟩ = some (.bool gab) ∧ W.cell? ⟨bp, 1, none⟩ = some (.slice Aab nab cab) ∧ W.cell? ⟨ba, 0, none⟩ = some (.bool ga) ∧ W.cell? ⟨ba, 1, none⟩ = some (.slice Aa na ca) ∧ W.cell? ⟨bb, 0, none⟩ = some (.bool gb) ∧ W.cell? ⟨bb, 1, none⟩ = some (.slice Ab nb cb) ∧ W.cell? ⟨bc, 0, none⟩ = some (.bool gc) ∧ W.cell? ⟨bc, 1, none⟩ = some (.slice Ac nc cc)) (exact HSq.out _ (by with_reducible assumption))
        (first | (have _q := Dq13; go_at_call 18; (with_reducible refine (same_z gq11 gq13 Aq11 Aq13 nq11 cq11 nq13 cq13 _ ((iq11.below bq12).below bq13) iq13 (Int.mul_add a b c)).mono ?_); rintro e vq14 ⟨rfl, bq14⟩; (with_reducible have Dq14 : Below W4.heap.size W4 vq14 := (Below.trans Dq13 (bq14.mono (Below.size Dq13))))) | (have _q := Dq12; go_at_call 19; (with_reducible refine (add_z gab gq12 Aab Aq12 nab cab nq12 cq12 _ (Iab.below Dq12) iq12 Zab Zq12).mono ?_); rintro e vq13 ⟨gq13, Aq13, nq13, cq13, rfl, iq13, bq13⟩; (with_reducible have Dq13 : Below W4.heap.size W4 vq13 := (Below.trans Dq12 (bq13.mono (Below.size Dq12))))) | (have _q := Dq11; go_at_call 17; (with_reducible refine (mul_z' ga gc Aa Ac na ca nc cc _ (Ia.below Dq11) (Ic.below Dq11) Za Zc).mono ?_); rintro e vq12 ⟨gq12, Aq12, nq12, cq12, rfl, iq12, bq12⟩; (with_reducible have Dq12 : Below W4.heap.size W4 vq12 := (Below.trans Dq11 (bq12.mono (Below.size Dq11))))) | (have _q := Dq10; go_at_call 17; (with_reducible refine (mul_z' ga gq10 Aa Aq10 na ca nq10 cq10 _ (Ia.below Dq10) iq10 Za Zq10).mono ?_); rintro e vq11 ⟨gq11, Aq11, nq11, cq11, rfl, iq11, bq11⟩; (with_reducible have Dq11 : Below W4.heap.size W4 vq11 := (Below.trans Dq10 (bq11.mono (Below.size Dq10))))) | (have _q := Dq9; go_at_call 19; (with_reducible refine (add_z gb gc Ab Ac nb cb nc cc _ (Ib.below Dq9) (Ic.below Dq9) Zb Zc).mono ?_); rintro e vq10 ⟨gq10, Aq10, nq10, cq10, rfl, iq10, bq10⟩; (with_reducible have Dq10 : Below W4.heap.size W4 vq10 := (Below.trans Dq9 (bq10.mono (Below.size Dq9))))) | (have _q := Dq8; go_at_call 18; (with_reducible refine (same_z gq8 ga Aq8 Aa nq8 cq8 na ca _ iq8 (Ia.below Dq8) (Int.mul_one a)).mono ?_); rintro e vq9 ⟨rfl, bq9⟩; (with_reducible have Dq9 : Below W4.heap.size W4 vq9 := (Below.trans Dq8 (bq9.mono (Below.size Dq8))))) | (have _q := Dq7; go_at_call 17; (with_reducible refine (mul_z' ga gq7 Aa Aq7 na ca nq7 cq7 _ (Ia.below Dq7) iq7 Za Zq7).mono ?_); rintro e vq8 ⟨gq8, Aq8, nq8, cq8, rfl, iq8, bq8⟩; (with_reducible have Dq8 : Below W4.heap.size W4 vq8 := (Below.trans Dq7 (bq8.mono (Below.size Dq7))))) | (have _q := Dq6; go_at_call 13; (with_reducible refine (of_any (1) _ (by decide) (by decide)).mono ?_); rintro e vq7 ⟨gq7, Aq7, nq7, cq7, rfl, iq7, bq7⟩; (with_reducible have Dq7 : Below W4.heap.size W4 vq7 := (Below.trans Dq6 (bq7.mono (Below.size Dq6))))) | (have _q := Dq5; go_at_call 18; (with_reducible refine (same_z gq3 gq5 Aq3 Aq5 nq3 cq3 nq5 cq5 _ ((iq3.below bq4).below bq5) iq5 (Int.mul_assoc a b c)).mono ?_); rintro e vq6 ⟨rfl, bq6⟩; (with_reducible have Dq6 : Below W4.heap.size W4 vq6 := (Below.trans Dq5 (bq6.mono (Below.size Dq5))))) | (have _q := Dq4; go_at_call 17; (with_reducible refine (mul_z' ga gq4 Aa Aq4 na ca nq4 cq4 _ (Ia.below Dq4) iq4 Za Zq4).mono ?_); rintro e vq5 ⟨gq5, Aq5, nq5, cq5, rfl, iq5, bq5⟩; (with_reducible have Dq5 : Below W4.heap.size W4 vq5 := (Below.trans Dq4 (bq5.mono (Below.size Dq4))))) | (have _q := Dq3; go_at_call 17; (with_reducible refine (mul_z' gb gc Ab Ac nb cb nc cc _ (Ib.below Dq3) (Ic.below Dq3) Zb Zc).mono ?_); rintro e vq4 ⟨gq4, Aq4, nq4, cq4, rfl, iq4, bq4⟩; (with_reducible have Dq4 : Below W4.heap.size W4 vq4 := (Below.trans Dq3 (bq4.mono (Below.size Dq3))))) | (have _q := Dq2; go_at_call 17; (with_reducible refine (mul_z' gab gc Aab Ac nab cab nc cc _ (Iab.below Dq2) (Ic.below Dq2) Zab Zc).mono ?_); rintro e vq3 ⟨gq3, Aq3, nq3, cq3, rfl, iq3, bq3⟩; (with_reducible have Dq3 : Below W4.heap.size W4 vq3 := (Below.trans Dq2 (bq3.mono (Below.size Dq2))))) | (have _q := Dq1; go_at_call 18; (with_reducible refine (same_z gab gq1 Aab Aq1 nab cab nq1 cq1 _ (Iab.below Dq1) iq1 (Int.mul_comm a b)).mono ?_); rintro e vq2 ⟨rfl, bq2⟩; (with_reducible have Dq2 : Below W4.heap.size W4 vq2 := (Below.trans Dq1 (bq2.mono (Below.size Dq1))))) | (have _q := Dq0; go_at_call 17; (with_reducible refine (mul_z' gb ga Ab Aa nb cb na ca _ (Ib.below Dq0) (Ia.below Dq0) Zb Za).mono ?_); rintro e vq1 ⟨gq1, Aq1, nq1, cq1, rfl, iq1, bq1⟩; (with_reducible have Dq1 : Below W4.heap.size W4 vq1 := (Below.trans Dq0 (bq1.mono (Below.size Dq0))))))
      go_wp2_with fail
      go_meet
      exact ⟨rfl, Dq14⟩
  case rest =>
  obtain ⟨rfl, DC⟩ := hcut
  have BG5 := BG4.after DC
  have BB5 := BB4.trans (DC.mono BB4.size)
  clear DC BG4 BB4
  obtain ⟨W5, rfl⟩ : ∃ x : World, x = wc := ⟨_, rfl⟩
  go_wp2_with fail
  go_cut [6] (fun s wx => s = .bool true ∧ Below W5.heap.size W5 wx)
  case first =>
    rcases Decidable.em (a = 0) with h0 | h0
    case' inl =>
      as_aux_lemma =>
        have e0 := Lib.hid h0
        clear h0
        refine ring_r6a (BG5 (ba, a) (by simp)) (BG5 (bp, a * b) (by simp)) (sgn_zero (by rw [e0.out, Int.zero_mul])) (sgn_zero e0.out) ?_
        intros
        go_wp2_with fail
        go_meet
        exact ⟨rfl, by assumption⟩
    case' inr =>
    rcases Decidable.em (b = 0) with h1 | h1
    case' inl =>
      as_aux_lemma =>
        obtain ⟨gab, Aab, nab, cab, Sab, Iab⟩ := BG5 (bp, a * b) (by simp)
        obtain ⟨ga, Aa, na, ca, Sa, Ia⟩ := BG5 (ba, a) (by simp)
        obtain ⟨gb, Ab, nb, cb, Sb, Ib⟩ := BG5 (bb, b) (by simp)
        have e0 := Lib.hid h0
        have e1 := Lib.hid h1
        clear h0 h1
        have hs := sgn_ne e0.out
        obtain ⟨s, hs1⟩ : ∃ s, sgn a = s := ⟨_, rfl⟩
        rw [hs1] at hs
        have HS1 := Lib.hid hs1
        clear hs1
        have HSr : Hid (∀ W, Below W5.heap.size W5 W → W.cell? ⟨bp, 0, none⟩ = some (.bool gab) ∧ W.cell? ⟨bp, 1, none⟩ = some (.slice Aab nab cab) ∧ W.cell? ⟨ba, 0, none⟩ = some (.bool ga) ∧ W.cell? ⟨ba, 1, none⟩ = some (.slice Aa na ca) ∧ W.cell? ⟨bb, 0, none⟩ = some (.bool gb) ∧ W.cell? ⟨bb, 1, none⟩ = some (.slice Ab nb cb)) := fun W hW => ⟨(Sab.after hW).1, (Sab.after hW).2.1, (Sa.after hW).1, (Sa.after hW).2.1, (Sb.after hW).1, (Sb.after hW).2.1⟩
        have Dr0 : Below W5.heap.size W5 W5.drew := (Below.refl _ _).drew
        clear Sab Sa Sb
        go_region_held3 (fun W => W.cell? ⟨bp, 0, none⟩ = some (.bool gab) ∧ W.cell? ⟨bp, 1, none⟩ = some (.slice Aab nab cab) ∧ W.cell? ⟨ba, 0, none⟩ = some (.bool ga) ∧ W.cell? ⟨ba, 1, none⟩ = some (.slice Aa na ca) ∧ W.cell? ⟨bb, 0, none⟩ = some (.bool gb) ∧ W.cell? ⟨bb, 1, none⟩ = some (.slice Ab nb cb)) (exact HSr.out _ (by with_reducible assumption))
          (first | (have _q := Dr2; go_at_call 20; (with_reducible refine (sign_z gb Ab nb cb _ 0 (Ib.below Dr2) (sgn_zero e1.out)).mono ?_); rintro e vr3 ⟨rfl, br3⟩; (with_reducible have Dr3 : Below W5.heap.size W5 vr3 := (Below.trans Dr2 (br3.mono (Below.size Dr2))))) | (have _q := Dr1; go_at_call 20; (with_reducible refine (sign_z ga Aa na ca _ s (Ia.below Dr1) HS1.out).mono ?_); rintro e vr2 ⟨rfl, br2⟩; (with_reducible have Dr2 : Below W5.heap.size W5 vr2 := (Below.trans Dr1 (br2.mono (Below.size Dr1))))) | (have _q := Dr0; go_at_call 20; (with_reducible refine (sign_z gab Aab nab cab _ 0 (Iab.below Dr0) (sgn_zero (by rw [e1.out, Int.mul_zero]))).mono ?_); rintro e vr1 ⟨rfl, br1⟩; (with_reducible have Dr1 : Below W5.heap.size W5 vr1 := (Below.trans Dr0 (br1.mono (Below.size Dr0))))))
        go_wp2_with fail
        go_meet
        exact ⟨rfl, Dr3⟩
    case' inr =>
      as_aux_lemma =>
        obtain ⟨gab, Aab, nab, cab, Sab, Iab⟩ := BG5 (bp, a * b) (by simp)
        obtain ⟨ga, Aa, na, ca, Sa, Ia⟩ := BG5 (ba, a) (by simp)
        obtain ⟨gb, Ab, nb, cb, Sb, Ib⟩ := BG5 (bb, b) (by simp)
        have hs := sgn_ne h0
        have ht := sgn_ne h1
        have hu := sgn_ne (Int.mul_ne_zero h0 h1)
        clear h0 h1
        obtain ⟨s, hs1⟩ : ∃ s, sgn a = s := ⟨_, rfl⟩
        obtain ⟨t, ht1⟩ : ∃ t, sgn b = t := ⟨_, rfl⟩
        obtain ⟨u, hu1⟩ : ∃ u, sgn (a * b) = u := ⟨_, rfl⟩
        rw [hs1] at hs
        rw [ht1] at ht
        rw [hu1] at hu
        have HS1 := Lib.hid hs1
        have HT1 := Lib.hid ht1
        have HU1 := Lib.hid hu1
        clear hs1 ht1 hu1
        have HSr : Hid (∀ W, Below W5.heap.size W5 W → W.cell? ⟨bp, 0, none⟩ = some (.bool gab) ∧ W.cell? ⟨bp, 1, none⟩ = some (.slice Aab nab cab) ∧ W.cell? ⟨ba, 0, none⟩ = some (.bool ga) ∧ W.cell? ⟨ba, 1, none⟩ = some (.slice Aa na ca) ∧ W.cell? ⟨bb, 0, none⟩ = some (.bool gb) ∧ W.cell? ⟨bb, 1, none⟩ = some (.slice Ab nb cb)) := fun W hW => ⟨(Sab.after hW).1, (Sab.after hW).2.1, (Sa.after hW).1, (Sa.after hW).2.1, (Sb.after hW).1, (Sb.after hW).2.1⟩
        have Dr0 : Below W5.heap.size W5 W5.drew := (Below.refl _ _).drew
        clear Sab Sa Sb
        go_region_held3 (fun W => W.cell? ⟨bp, 0, none⟩ = some (.bool gab) ∧ W.cell? ⟨bp, 1, none⟩ = some (.slice Aab nab cab) ∧ W.cell? ⟨ba, 0, none⟩ = some (.bool ga) ∧ W.cell? ⟨ba, 1, none⟩ = some (.slice Aa na ca) ∧ W.cell? ⟨bb, 0, none⟩ = some (.bool gb) ∧ W.cell? ⟨bb, 1, none⟩ = some (.slice Ab nb cb)) (exact HSr.out _ (by with_reducible assumption))
          (first | (have _q := Dr2; go_at_call 20; (with_reducible refine (sign_z gb Ab nb cb _ t (Ib.below Dr2) HT1.out).mono ?_); rintro e vr3 ⟨rfl, br3⟩; (with_reducible have Dr3 : Below W5.heap.size W5 vr3 := (Below.trans Dr2 (br3.mono (Below.size Dr2))))) | (have _q := Dr1; go_at_call 20; (with_reducible refine (sign_z ga Aa na ca _ s (Ia.below Dr1) HS1.out).mono ?_); rintro e vr2 ⟨rfl, br2⟩; (with_reducible have Dr2 : Below W5.heap.size W5 vr2 := (Below.trans Dr1 (br2.mono (Below.size Dr1))))) | (have _q := Dr0; go_at_call 20; (with_reducible refine (sign_z gab Aab nab cab _ u (Iab.below Dr0) HU1.out).mono ?_); rintro e vr1 ⟨rfl, br1⟩; (with_reducible have Dr1 : Below W5.heap.size W5 vr1 := (Below.trans Dr0 (br1.mono (Below.size Dr0))))))
        go_wp2_with fail
        go_meet
        exact ⟨rfl, Dr3⟩
  case rest =>
  obtain ⟨rfl, DC⟩ := hcut
  have BB6 := BB5.trans (DC.mono BB5.size)
  go_wp2_with fail
  go_ret
  exact ⟨rfl, BB6⟩
end Go.Proofs.YtdknibhaacbkpaaDoor
