/- The walk of the law IntegerOrder, given what its fixed examples return. -/
import Derived.Test.YtdknibhaacbkpaaDoorVLawRing
import Derived.Test.YtdknibhaacbkpaaDoorVLawOrderR
namespace Go.Proofs.YtdknibhaacbkpaaDoor
open Go.RowKit
theorem cmpN_add (a b c : Int) : cmpN (a + c) (b + c) = cmpN a b := by
  unfold cmpN
  by_cases h : a < b
  · rw [if_pos h, if_pos (by omega)]
  · rw [if_neg h, if_neg (by omega)]
    by_cases h2 : b < a
    · rw [if_pos h2, if_pos (by omega)]
    · rw [if_neg h2, if_neg (by omega)]
theorem cmpN_mul (a b c : Int) : cmpN (a * c) (b * c) = cmpN a b * sgn c := by
  rcases Int.lt_trichotomy c 0 with h | h | h
  · rw [show sgn c = -1 by unfold sgn; rw [if_pos h]]
    rcases Int.lt_trichotomy a b with k | k | k
    · rw [cmpN_lt k, cmpN_gt (Int.mul_lt_mul_of_neg_right k h)]; rfl
    · subst k; rw [cmpN_eq, cmpN_eq]; rfl
    · rw [cmpN_gt k, cmpN_lt (Int.mul_lt_mul_of_neg_right k h)]; rfl
  · subst h; rw [Int.mul_zero, Int.mul_zero, cmpN_eq]; simp [sgn]
  · rw [show sgn c = 1 by unfold sgn; rw [if_neg (by omega), if_pos h]]
    rcases Int.lt_trichotomy a b with k | k | k
    · rw [cmpN_lt k, cmpN_lt (Int.mul_lt_mul_of_pos_right k h)]; rfl
    · subst k; rw [cmpN_eq, cmpN_eq]; rfl
    · rw [cmpN_gt k, cmpN_gt (Int.mul_lt_mul_of_pos_right k h)]; rfl
theorem wrap_cmp (a b c : Int) : IntKind.i64.wrap (cmpN a b * sgn c) = cmpN a b * sgn c := by
  unfold cmpN sgn
  split <;> (try split) <;> (try split) <;> (try split) <;> rfl
set_option maxRecDepth 1000000 in
set_option maxHeartbeats 2000000 in
theorem law_order (HS : SanOk) (A1 A2 A3 : Option Addr) (n1 c1 n2 c2 n3 c3 : Nat) (s1 s2 s3 : Bool) (xs ys zs : List Nat) (w : World) (ha : Lim w w.heap.size A1 n1 c1 xs) (hb : Lim w w.heap.size A2 n2 c2 ys) (hc : Lim w w.heap.size A3 n3 c3 zs) :
    Calls Tryd.prog 5 #[.agg #[.slice A1 n1 c1, .bool s1], .agg #[.slice A2 n2 c2, .bool s2], .agg #[.slice A3 n3 c3, .bool s3]] w fun e w' => e = .returned (.bool true) ∧ Below w.heap.size w w' := by
  have HS' := Lib.hid HS
  clear HS
  have M1 := fun W (hW : Below w.heap.size w W) => made_any s1 A1 n1 c1 w.heap.size xs W (ha.below hW) hW.size
  have M2 := fun W (hW : Below w.heap.size w W) => made_any s2 A2 n2 c2 w.heap.size ys W (hb.below hW) hW.size
  have M3 := fun W (hW : Below w.heap.size w W) => made_any s3 A3 n3 c3 w.heap.size zs W (hc.below hW) hW.size
  have Za := Sz.raw s1 xs 12 ha.lt (by decide)
  have Zb := Sz.raw s2 ys 12 hb.lt (by decide)
  have Zc := Sz.raw s3 zs 12 hc.lt (by decide)
  generalize zOf s1 (val (xs.take 12)) = a at M1 Za
  generalize zOf s2 (val (ys.take 12)) = b at M2 Zb
  generalize zOf s3 (val (zs.take 12)) = c at M3 Zc
  have HM1 := Lib.hid M1
  have HM2 := Lib.hid M2
  have HM3 := Lib.hid M3
  clear M1 M2 M3
  obtain ⟨B0, X0, Y0, Z0⟩ := frameR3 w (.slice A1 n1 c1) (.bool s1) (.slice A2 n2 c2) (.bool s2) (.slice A3 n3 c3) (.bool s3)
  go_enter Tryd.func5, Tryd.ntmps5
  go_wp2_with fail
  refine (HS'.out _).mono ?_
  rintro e w1 ⟨rfl, hb1⟩
  have B1 := B0.trans (hb1.mono B0.size)
  have X1 := X0.after hb1
  have Y1 := Y0.after hb1
  have Z1 := Z0.after hb1
  clear X0 Y0 Z0 B0 hb1
  go_wp2_with fail
  go_cut [8, 9, 10] (fun p8 p9 p10 wx => ∃ g8 g9 g10 : Nat, p8 = .pointer (some ⟨g8, 0, none⟩) ∧ p9 = .pointer (some ⟨g9, 0, none⟩) ∧ p10 = .pointer (some ⟨g10, 0, none⟩) ∧ Bag wx [(g8, a), (g9, b), (g10, c)] ∧ Below w.heap.size w wx)
  case first =>
    as_aux_lemma =>
      have HX : Hid (∀ W, Below w1.heap.size w1 W → (Slot2 W w.heap.size (.slice A1 n1 c1) (.bool s1) ∧ Slot2 W (w.heap.size + 1) (.slice A2 n2 c2) (.bool s2) ∧ Slot2 W (w.heap.size + 1 + 1) (.slice A3 n3 c3) (.bool s3))) := fun W hW => ⟨X1.after hW, Y1.after hW, Z1.after hW⟩
      clear X1 Y1 Z1
      refine wp_region_ev (fun d a0 a' w' => ∃ u15 u16 u17 u18 u19 u20 u8 u9 u10 : Value, a' = (((((((((a0.put (some 15) u15).put (some 16) u16).put (some 17) u17).put (some 18) u18).put (some 19) u19).put (some 20) u20).put (some 8) u8).put (some 9) u9).put (some 10) u10) ∧ Below w1.heap.size w1 w' ∧ (d 0 = true → u15 = .agg #[.slice A1 n1 c1, .bool s1]) ∧ (d 1 = true → IntV w' u16 a) ∧ (d 2 = true → u17 = .agg #[.slice A2 n2 c2, .bool s2]) ∧ (d 3 = true → IntV w' u18 b) ∧ (d 4 = true → u19 = .agg #[.slice A3 n3 c3, .bool s3]) ∧ (d 5 = true → IntV w' u20 c) ∧ (d 6 = true → OwnP w1.heap.size w' u8 (d 9) a) ∧ (d 7 = true → OwnP w1.heap.size w' u9 (d 10) b) ∧ (d 8 = true → OwnP w1.heap.size w' u10 (d 11) c) ∧ (d 6 = true → d 7 = true → u8 ≠ u9) ∧ (d 6 = true → d 8 = true → u8 ≠ u10) ∧ (d 7 = true → d 8 = true → u9 ≠ u10) ∧ (d 9 = true → d 6 = true) ∧ (d 10 = true → d 7 = true) ∧ (d 11 = true → d 8 = true)) (by kernel_rfl) (by kernel_rfl) ?_ ?_ ?_ ?_
      · intro d d' h a' w' hh
        obtain rfl : d = d' := funext h
        exact hh
      · exact ⟨undef, undef, undef, undef, undef, undef, undef, undef, undef, (by simp only [Act.put, List.setIfInBounds_toArray, List.set_cons_zero, List.set_cons_succ]), (Below.refl _ _).drew, (fun h => by cases h), (fun h => by cases h), (fun h => by cases h), (fun h => by cases h), (fun h => by cases h), (fun h => by cases h), (fun h => by cases h), (fun h => by cases h), (fun h => by cases h), (fun h => by cases h), (fun h => by cases h), (fun h => by cases h), (fun h => by cases h), (fun h => by cases h), (fun h => by cases h)⟩
      · refine ⟨?_, ?_, ?_, ?_, ?_, ?_, ?_, ?_, ?_, ?_, ?_, ?_, trivial⟩
        · intro d a2 w2 hd hm ⟨u15, u16, u17, u18, u19, u20, u8, u9, u10, e, HB, f0, f1, f2, f3, f4, f5, f6, f7, f8, n01, n02, n12, t0, t1, t2⟩ K hK
          subst e
          simp only [Act.put, List.setIfInBounds_toArray, List.set_cons_zero, List.set_cons_succ]
          obtain ⟨⟨q0, q1, _, _, _⟩, ⟨q2, q3, _, _, _⟩, ⟨q4, q5, _, _, _⟩⟩ := HX.out w2 HB
          go_simp
          exact hK.out _ _ ⟨.agg #[.slice A1 n1 c1, .bool s1], u16, u17, u18, u19, u20, u8, u9, u10, (by simp only [Act.put, List.setIfInBounds_toArray, List.set_cons_zero, List.set_cons_succ]), HB, (fun _ => rfl), (fun h => (f1 (by simpa using h))), (fun h => f2 (by simpa using h)), (fun h => (f3 (by simpa using h))), (fun h => f4 (by simpa using h)), (fun h => (f5 (by simpa using h))), (fun h => by simpa using (f6 (by simpa using h))), (fun h => by simpa using (f7 (by simpa using h))), (fun h => by simpa using (f8 (by simpa using h))), (fun h h' => n01 (by simpa using h) (by simpa using h')), (fun h h' => n02 (by simpa using h) (by simpa using h')), (fun h h' => n12 (by simpa using h) (by simpa using h')), (fun h => by simpa using t0 (by simpa using h)), (fun h => by simpa using t1 (by simpa using h)), (fun h => by simpa using t2 (by simpa using h))⟩
        · intro d a2 w2 hd hm ⟨u15, u16, u17, u18, u19, u20, u8, u9, u10, e, HB, f0, f1, f2, f3, f4, f5, f6, f7, f8, n01, n02, n12, t0, t1, t2⟩ K hK
          subst e
          simp only [Act.put, List.setIfInBounds_toArray, List.set_cons_zero, List.set_cons_succ]
          obtain rfl := f0 (hm ⟨0, .data⟩ (by simp) rfl)
          clear f0
          go_simp
          refine (HM1.out _ (B1.trans (Below.mono HB B1.size))).mono ?_
          rintro e w3 ⟨gg, AA, nn, cc, rfl, hi, hb⟩
          have HB3 := HB.trans (hb.mono HB.size)
          go_wp2_with fail
          exact hK.out _ _ ⟨.agg #[.slice A1 n1 c1, .bool s1], .agg #[.bool gg, .slice AA nn cc], u17, u18, u19, u20, u8, u9, u10, (by simp only [Act.put, List.setIfInBounds_toArray, List.set_cons_zero, List.set_cons_succ]), HB3, (fun _ => rfl), (fun _ => ⟨_, _, _, _, rfl, hi⟩), (fun h => f2 (by simpa using h)), (fun h => (f3 (by simpa using h)).below hb), (fun h => f4 (by simpa using h)), (fun h => (f5 (by simpa using h)).below hb), (fun h => by simpa using (f6 (by simpa using h)).below hb), (fun h => by simpa using (f7 (by simpa using h)).below hb), (fun h => by simpa using (f8 (by simpa using h)).below hb), (fun h h' => n01 (by simpa using h) (by simpa using h')), (fun h h' => n02 (by simpa using h) (by simpa using h')), (fun h h' => n12 (by simpa using h) (by simpa using h')), (fun h => by simpa using t0 (by simpa using h)), (fun h => by simpa using t1 (by simpa using h)), (fun h => by simpa using t2 (by simpa using h))⟩
        · intro d a2 w2 hd hm ⟨u15, u16, u17, u18, u19, u20, u8, u9, u10, e, HB, f0, f1, f2, f3, f4, f5, f6, f7, f8, n01, n02, n12, t0, t1, t2⟩ K hK
          subst e
          simp only [Act.put, List.setIfInBounds_toArray, List.set_cons_zero, List.set_cons_succ]
          obtain ⟨⟨q0, q1, _, _, _⟩, ⟨q2, q3, _, _, _⟩, ⟨q4, q5, _, _, _⟩⟩ := HX.out w2 HB
          go_simp
          exact hK.out _ _ ⟨u15, u16, .agg #[.slice A2 n2 c2, .bool s2], u18, u19, u20, u8, u9, u10, (by simp only [Act.put, List.setIfInBounds_toArray, List.set_cons_zero, List.set_cons_succ]), HB, (fun h => f0 (by simpa using h)), (fun h => (f1 (by simpa using h))), (fun _ => rfl), (fun h => (f3 (by simpa using h))), (fun h => f4 (by simpa using h)), (fun h => (f5 (by simpa using h))), (fun h => by simpa using (f6 (by simpa using h))), (fun h => by simpa using (f7 (by simpa using h))), (fun h => by simpa using (f8 (by simpa using h))), (fun h h' => n01 (by simpa using h) (by simpa using h')), (fun h h' => n02 (by simpa using h) (by simpa using h')), (fun h h' => n12 (by simpa using h) (by simpa using h')), (fun h => by simpa using t0 (by simpa using h)), (fun h => by simpa using t1 (by simpa using h)), (fun h => by simpa using t2 (by simpa using h))⟩
        · intro d a2 w2 hd hm ⟨u15, u16, u17, u18, u19, u20, u8, u9, u10, e, HB, f0, f1, f2, f3, f4, f5, f6, f7, f8, n01, n02, n12, t0, t1, t2⟩ K hK
          subst e
          simp only [Act.put, List.setIfInBounds_toArray, List.set_cons_zero, List.set_cons_succ]
          obtain rfl := f2 (hm ⟨2, .data⟩ (by simp) rfl)
          clear f2
          go_simp
          refine (HM2.out _ (B1.trans (Below.mono HB B1.size))).mono ?_
          rintro e w3 ⟨gg, AA, nn, cc, rfl, hi, hb⟩
          have HB3 := HB.trans (hb.mono HB.size)
          go_wp2_with fail
          exact hK.out _ _ ⟨u15, u16, .agg #[.slice A2 n2 c2, .bool s2], .agg #[.bool gg, .slice AA nn cc], u19, u20, u8, u9, u10, (by simp only [Act.put, List.setIfInBounds_toArray, List.set_cons_zero, List.set_cons_succ]), HB3, (fun h => f0 (by simpa using h)), (fun h => (f1 (by simpa using h)).below hb), (fun _ => rfl), (fun _ => ⟨_, _, _, _, rfl, hi⟩), (fun h => f4 (by simpa using h)), (fun h => (f5 (by simpa using h)).below hb), (fun h => by simpa using (f6 (by simpa using h)).below hb), (fun h => by simpa using (f7 (by simpa using h)).below hb), (fun h => by simpa using (f8 (by simpa using h)).below hb), (fun h h' => n01 (by simpa using h) (by simpa using h')), (fun h h' => n02 (by simpa using h) (by simpa using h')), (fun h h' => n12 (by simpa using h) (by simpa using h')), (fun h => by simpa using t0 (by simpa using h)), (fun h => by simpa using t1 (by simpa using h)), (fun h => by simpa using t2 (by simpa using h))⟩
        · intro d a2 w2 hd hm ⟨u15, u16, u17, u18, u19, u20, u8, u9, u10, e, HB, f0, f1, f2, f3, f4, f5, f6, f7, f8, n01, n02, n12, t0, t1, t2⟩ K hK
          subst e
          simp only [Act.put, List.setIfInBounds_toArray, List.set_cons_zero, List.set_cons_succ]
          obtain ⟨⟨q0, q1, _, _, _⟩, ⟨q2, q3, _, _, _⟩, ⟨q4, q5, _, _, _⟩⟩ := HX.out w2 HB
          go_simp
          exact hK.out _ _ ⟨u15, u16, u17, u18, .agg #[.slice A3 n3 c3, .bool s3], u20, u8, u9, u10, (by simp only [Act.put, List.setIfInBounds_toArray, List.set_cons_zero, List.set_cons_succ]), HB, (fun h => f0 (by simpa using h)), (fun h => (f1 (by simpa using h))), (fun h => f2 (by simpa using h)), (fun h => (f3 (by simpa using h))), (fun _ => rfl), (fun h => (f5 (by simpa using h))), (fun h => by simpa using (f6 (by simpa using h))), (fun h => by simpa using (f7 (by simpa using h))), (fun h => by simpa using (f8 (by simpa using h))), (fun h h' => n01 (by simpa using h) (by simpa using h')), (fun h h' => n02 (by simpa using h) (by simpa using h')), (fun h h' => n12 (by simpa using h) (by simpa using h')), (fun h => by simpa using t0 (by simpa using h)), (fun h => by simpa using t1 (by simpa using h)), (fun h => by simpa using t2 (by simpa using h))⟩
        · intro d a2 w2 hd hm ⟨u15, u16, u17, u18, u19, u20, u8, u9, u10, e, HB, f0, f1, f2, f3, f4, f5, f6, f7, f8, n01, n02, n12, t0, t1, t2⟩ K hK
          subst e
          simp only [Act.put, List.setIfInBounds_toArray, List.set_cons_zero, List.set_cons_succ]
          obtain rfl := f4 (hm ⟨4, .data⟩ (by simp) rfl)
          clear f4
          go_simp
          refine (HM3.out _ (B1.trans (Below.mono HB B1.size))).mono ?_
          rintro e w3 ⟨gg, AA, nn, cc, rfl, hi, hb⟩
          have HB3 := HB.trans (hb.mono HB.size)
          go_wp2_with fail
          exact hK.out _ _ ⟨u15, u16, u17, u18, .agg #[.slice A3 n3 c3, .bool s3], .agg #[.bool gg, .slice AA nn cc], u8, u9, u10, (by simp only [Act.put, List.setIfInBounds_toArray, List.set_cons_zero, List.set_cons_succ]), HB3, (fun h => f0 (by simpa using h)), (fun h => (f1 (by simpa using h)).below hb), (fun h => f2 (by simpa using h)), (fun h => (f3 (by simpa using h)).below hb), (fun _ => rfl), (fun _ => ⟨_, _, _, _, rfl, hi⟩), (fun h => by simpa using (f6 (by simpa using h)).below hb), (fun h => by simpa using (f7 (by simpa using h)).below hb), (fun h => by simpa using (f8 (by simpa using h)).below hb), (fun h h' => n01 (by simpa using h) (by simpa using h')), (fun h h' => n02 (by simpa using h) (by simpa using h')), (fun h h' => n12 (by simpa using h) (by simpa using h')), (fun h => by simpa using t0 (by simpa using h)), (fun h => by simpa using t1 (by simpa using h)), (fun h => by simpa using t2 (by simpa using h))⟩
        · intro d a2 w2 hd hm ⟨u15, u16, u17, u18, u19, u20, u8, u9, u10, e, HB, f0, f1, f2, f3, f4, f5, f6, f7, f8, n01, n02, n12, t0, t1, t2⟩ K hK
          subst e
          simp only [Act.put, List.setIfInBounds_toArray, List.set_cons_zero, List.set_cons_succ]
          have hb : Below w2.heap.size w2 (w2.alloc (.cells #[.bool false, .slice none 0 0] 28)) := (Below.refl _ _).alloc (Nat.le_refl _) _
          have HB3 := HB.trans (hb.mono HB.size)
          go_simp
          exact hK.out _ _ ⟨u15, u16, u17, u18, u19, u20, .pointer (some ⟨w2.heap.size, 0, none⟩), u9, u10, (by simp only [Act.put, List.setIfInBounds_toArray, List.set_cons_zero, List.set_cons_succ]), HB3, (fun h => f0 (by simpa using h)), (fun h => (f1 (by simpa using h)).below hb), (fun h => f2 (by simpa using h)), (fun h => (f3 (by simpa using h)).below hb), (fun h => f4 (by simpa using h)), (fun h => (f5 (by simpa using h)).below hb), (fun _ => by have hs : d 9 = false := (by cases hq : d 9 with | false => rfl | true => (have hz := t0 hq; rw [hd] at hz; cases hz)); simpa [hs] using OwnP.new HB.size a), (fun h => by simpa using (f7 (by simpa using h)).below hb), (fun h => by simpa using (f8 (by simpa using h)).below hb), (fun _ h' => ((f7 (by simpa using h')).lt).symm), (fun _ h' => ((f8 (by simpa using h')).lt).symm), (fun h h' => n12 (by simpa using h) (by simpa using h')), (fun _ => by simp), (fun h => by simpa using t1 (by simpa using h)), (fun h => by simpa using t2 (by simpa using h))⟩
        · intro d a2 w2 hd hm ⟨u15, u16, u17, u18, u19, u20, u8, u9, u10, e, HB, f0, f1, f2, f3, f4, f5, f6, f7, f8, n01, n02, n12, t0, t1, t2⟩ K hK
          subst e
          simp only [Act.put, List.setIfInBounds_toArray, List.set_cons_zero, List.set_cons_succ]
          have hb : Below w2.heap.size w2 (w2.alloc (.cells #[.bool false, .slice none 0 0] 28)) := (Below.refl _ _).alloc (Nat.le_refl _) _
          have HB3 := HB.trans (hb.mono HB.size)
          go_simp
          exact hK.out _ _ ⟨u15, u16, u17, u18, u19, u20, u8, .pointer (some ⟨w2.heap.size, 0, none⟩), u10, (by simp only [Act.put, List.setIfInBounds_toArray, List.set_cons_zero, List.set_cons_succ]), HB3, (fun h => f0 (by simpa using h)), (fun h => (f1 (by simpa using h)).below hb), (fun h => f2 (by simpa using h)), (fun h => (f3 (by simpa using h)).below hb), (fun h => f4 (by simpa using h)), (fun h => (f5 (by simpa using h)).below hb), (fun h => by simpa using (f6 (by simpa using h)).below hb), (fun _ => by have hs : d 10 = false := (by cases hq : d 10 with | false => rfl | true => (have hz := t1 hq; rw [hd] at hz; cases hz)); simpa [hs] using OwnP.new HB.size b), (fun h => by simpa using (f8 (by simpa using h)).below hb), (fun h _ => (f6 (by simpa using h)).lt), (fun h h' => n02 (by simpa using h) (by simpa using h')), (fun _ h' => ((f8 (by simpa using h')).lt).symm), (fun h => by simpa using t0 (by simpa using h)), (fun _ => by simp), (fun h => by simpa using t2 (by simpa using h))⟩
        · intro d a2 w2 hd hm ⟨u15, u16, u17, u18, u19, u20, u8, u9, u10, e, HB, f0, f1, f2, f3, f4, f5, f6, f7, f8, n01, n02, n12, t0, t1, t2⟩ K hK
          subst e
          simp only [Act.put, List.setIfInBounds_toArray, List.set_cons_zero, List.set_cons_succ]
          have hb : Below w2.heap.size w2 (w2.alloc (.cells #[.bool false, .slice none 0 0] 28)) := (Below.refl _ _).alloc (Nat.le_refl _) _
          have HB3 := HB.trans (hb.mono HB.size)
          go_simp
          exact hK.out _ _ ⟨u15, u16, u17, u18, u19, u20, u8, u9, .pointer (some ⟨w2.heap.size, 0, none⟩), (by simp only [Act.put, List.setIfInBounds_toArray, List.set_cons_zero, List.set_cons_succ]), HB3, (fun h => f0 (by simpa using h)), (fun h => (f1 (by simpa using h)).below hb), (fun h => f2 (by simpa using h)), (fun h => (f3 (by simpa using h)).below hb), (fun h => f4 (by simpa using h)), (fun h => (f5 (by simpa using h)).below hb), (fun h => by simpa using (f6 (by simpa using h)).below hb), (fun h => by simpa using (f7 (by simpa using h)).below hb), (fun _ => by have hs : d 11 = false := (by cases hq : d 11 with | false => rfl | true => (have hz := t2 hq; rw [hd] at hz; cases hz)); simpa [hs] using OwnP.new HB.size c), (fun h h' => n01 (by simpa using h) (by simpa using h')), (fun h _ => (f6 (by simpa using h)).lt), (fun h _ => (f7 (by simpa using h)).lt), (fun h => by simpa using t0 (by simpa using h)), (fun h => by simpa using t1 (by simpa using h)), (fun _ => by simp)⟩
        · intro d a2 w2 hd hm ⟨u15, u16, u17, u18, u19, u20, u8, u9, u10, e, HB, f0, f1, f2, f3, f4, f5, f6, f7, f8, n01, n02, n12, t0, t1, t2⟩ K hK
          subst e
          simp only [Act.put, List.setIfInBounds_toArray, List.set_cons_zero, List.set_cons_succ]
          obtain ⟨gg, AA, nn, cc, rfl, hi⟩ := f1 (hm ⟨1, .data⟩ (by simp) rfl)
          obtain ⟨g, rfl, hg, b0, b1, hs, n0, n1, _⟩ := f6 (hm ⟨6, .data⟩ (by simp) rfl)
          obtain ⟨k0, k1, k2, k3, k4⟩ := id hs
          go_simp
          exact hK.out _ _ ⟨u15, .agg #[.bool gg, .slice AA nn cc], u17, u18, u19, u20, .pointer (some ⟨g, 0, none⟩), u9, u10, (by simp only [Act.put, List.setIfInBounds_toArray, List.set_cons_zero, List.set_cons_succ]), Below.set2 HB hg _ _, (fun h => f0 (by simpa using h)), (fun h => (f1 (by simpa using h)).set2 hs n0 n1 _ _), (fun h => f2 (by simpa using h)), (fun h => (f3 (by simpa using h)).set2 hs n0 n1 _ _), (fun h => f4 (by simpa using h)), (fun h => (f5 (by simpa using h)).set2 hs n0 n1 _ _), (fun _ => by simpa using OwnP.near hi hg hs n0 n1), (fun h => by simpa using (f7 (by simpa using h)).far ((n01 (hm ⟨6, .data⟩ (by simp) rfl) (by simpa using h)).symm) hs n0 n1 _ _), (fun h => by simpa using (f8 (by simpa using h)).far ((n02 (hm ⟨6, .data⟩ (by simp) rfl) (by simpa using h)).symm) hs n0 n1 _ _), (fun h h' => n01 (by simpa using h) (by simpa using h')), (fun h h' => n02 (by simpa using h) (by simpa using h')), (fun h h' => n12 (by simpa using h) (by simpa using h')), (fun _ => by simpa using hm ⟨6, .data⟩ (by simp) rfl), (fun h => by simpa using t1 (by simpa using h)), (fun h => by simpa using t2 (by simpa using h))⟩
        · intro d a2 w2 hd hm ⟨u15, u16, u17, u18, u19, u20, u8, u9, u10, e, HB, f0, f1, f2, f3, f4, f5, f6, f7, f8, n01, n02, n12, t0, t1, t2⟩ K hK
          subst e
          simp only [Act.put, List.setIfInBounds_toArray, List.set_cons_zero, List.set_cons_succ]
          obtain ⟨gg, AA, nn, cc, rfl, hi⟩ := f3 (hm ⟨3, .data⟩ (by simp) rfl)
          obtain ⟨g, rfl, hg, b0, b1, hs, n0, n1, _⟩ := f7 (hm ⟨7, .data⟩ (by simp) rfl)
          obtain ⟨k0, k1, k2, k3, k4⟩ := id hs
          go_simp
          exact hK.out _ _ ⟨u15, u16, u17, .agg #[.bool gg, .slice AA nn cc], u19, u20, u8, .pointer (some ⟨g, 0, none⟩), u10, (by simp only [Act.put, List.setIfInBounds_toArray, List.set_cons_zero, List.set_cons_succ]), Below.set2 HB hg _ _, (fun h => f0 (by simpa using h)), (fun h => (f1 (by simpa using h)).set2 hs n0 n1 _ _), (fun h => f2 (by simpa using h)), (fun h => (f3 (by simpa using h)).set2 hs n0 n1 _ _), (fun h => f4 (by simpa using h)), (fun h => (f5 (by simpa using h)).set2 hs n0 n1 _ _), (fun h => by simpa using (f6 (by simpa using h)).far (n01 (by simpa using h) (hm ⟨7, .data⟩ (by simp) rfl)) hs n0 n1 _ _), (fun _ => by simpa using OwnP.near hi hg hs n0 n1), (fun h => by simpa using (f8 (by simpa using h)).far ((n12 (hm ⟨7, .data⟩ (by simp) rfl) (by simpa using h)).symm) hs n0 n1 _ _), (fun h h' => n01 (by simpa using h) (by simpa using h')), (fun h h' => n02 (by simpa using h) (by simpa using h')), (fun h h' => n12 (by simpa using h) (by simpa using h')), (fun h => by simpa using t0 (by simpa using h)), (fun _ => by simpa using hm ⟨7, .data⟩ (by simp) rfl), (fun h => by simpa using t2 (by simpa using h))⟩
        · intro d a2 w2 hd hm ⟨u15, u16, u17, u18, u19, u20, u8, u9, u10, e, HB, f0, f1, f2, f3, f4, f5, f6, f7, f8, n01, n02, n12, t0, t1, t2⟩ K hK
          subst e
          simp only [Act.put, List.setIfInBounds_toArray, List.set_cons_zero, List.set_cons_succ]
          obtain ⟨gg, AA, nn, cc, rfl, hi⟩ := f5 (hm ⟨5, .data⟩ (by simp) rfl)
          obtain ⟨g, rfl, hg, b0, b1, hs, n0, n1, _⟩ := f8 (hm ⟨8, .data⟩ (by simp) rfl)
          obtain ⟨k0, k1, k2, k3, k4⟩ := id hs
          go_simp
          exact hK.out _ _ ⟨u15, u16, u17, u18, u19, .agg #[.bool gg, .slice AA nn cc], u8, u9, .pointer (some ⟨g, 0, none⟩), (by simp only [Act.put, List.setIfInBounds_toArray, List.set_cons_zero, List.set_cons_succ]), Below.set2 HB hg _ _, (fun h => f0 (by simpa using h)), (fun h => (f1 (by simpa using h)).set2 hs n0 n1 _ _), (fun h => f2 (by simpa using h)), (fun h => (f3 (by simpa using h)).set2 hs n0 n1 _ _), (fun h => f4 (by simpa using h)), (fun h => (f5 (by simpa using h)).set2 hs n0 n1 _ _), (fun h => by simpa using (f6 (by simpa using h)).far (n02 (by simpa using h) (hm ⟨8, .data⟩ (by simp) rfl)) hs n0 n1 _ _), (fun h => by simpa using (f7 (by simpa using h)).far (n12 (by simpa using h) (hm ⟨8, .data⟩ (by simp) rfl)) hs n0 n1 _ _), (fun _ => by simpa using OwnP.near hi hg hs n0 n1), (fun h h' => n01 (by simpa using h) (by simpa using h')), (fun h h' => n02 (by simpa using h) (by simpa using h')), (fun h h' => n12 (by simpa using h) (by simpa using h')), (fun h => by simpa using t0 (by simpa using h)), (fun h => by simpa using t1 (by simpa using h)), (fun _ => by simpa using hm ⟨8, .data⟩ (by simp) rfl)⟩
      · intro d a2 w2 hall ⟨u15, u16, u17, u18, u19, u20, u8, u9, u10, e, HB, f0, f1, f2, f3, f4, f5, f6, f7, f8, n01, n02, n12, t0, t1, t2⟩
        subst e
        simp only [Act.put, List.setIfInBounds_toArray, List.set_cons_zero, List.set_cons_succ]
        obtain ⟨g0, rfl, h0⟩ := OwnP.intAt (by have := f6 (hall _ (by decide)); rwa [hall 9 (by decide)] at this)
        obtain ⟨g1, rfl, h1⟩ := OwnP.intAt (by have := f7 (hall _ (by decide)); rwa [hall 10 (by decide)] at this)
        obtain ⟨g2, rfl, h2⟩ := OwnP.intAt (by have := f8 (hall _ (by decide)); rwa [hall 11 (by decide)] at this)
        go_wp2_with fail
        go_meet
        exact ⟨g0, g1, g2, rfl, rfl, rfl, Bag.cons h0 (Bag.cons h1 (Bag.cons h2 (bag_nil _))), B1.trans (HB.mono B1.size)⟩
  case rest =>
  obtain ⟨ba, bb, bc, rfl, rfl, rfl, BG2, B2⟩ := hcut
  clear B1 X1 Y1 Z1
  obtain ⟨W2, rfl⟩ : ∃ x : World, x = wc := ⟨_, rfl⟩
  obtain ⟨n, hn⟩ : ∃ n, cmpN a b = n := ⟨_, rfl⟩
  have HN := Lib.hid hn
  clear hn
  obtain ⟨ga1, Aa1, na1, ca1, Sa1, Ia1⟩ := BG2 (ba, a) (by simp)
  have ⟨xa1, ya1, _, _, _⟩ := Sa1
  obtain ⟨gb1, Ab1, nb1, cb1, Sb1, Ib1⟩ := BG2 (bb, b) (by simp)
  have ⟨xb1, yb1, _, _, _⟩ := Sb1
  go_wp2_with fail
  refine (cmp_z ga1 gb1 Aa1 Ab1 na1 ca1 nb1 cb1 _ n Ia1 Ib1 HN.out).mono ?_
  rintro e w1' ⟨rfl, hb1⟩
  have BG1' := BG2.after hb1
  have D1' : Below W2.heap.size W2 w1' := hb1
  clear xa1 ya1 xb1 yb1
  have B3 := B2.trans (D1'.mono B2.size)
  clear B2 BG2 D1'
  obtain ⟨W3, rfl⟩ : ∃ x : World, x = w1' := ⟨_, rfl⟩
  go_upto_region 4 with (fail)
  go_cut [12] (fun s wx => s = .bool true ∧ Below W3.heap.size W3 wx)
  case first =>
    rcases Int.lt_trichotomy a b with hab | hab | hab
    · as_aux_lemma =>
        obtain rfl : n = -1 := HN.out.symm.trans (cmpN_lt hab)
        have E1 : Hid (cmpN b a = 1) := (cmpN_gt hab)
        have E2 : Hid (false = decide (a = b)) := ((decide_eq_false (by omega)).symm)
        have E3 : Hid (sgn (a - b) = -1) := Lib.hid (show sgn (a - b) = -1 from by unfold sgn; rw [if_pos (by omega)])
        clear hab HN
        obtain ⟨gb2, Ab2, nb2, cb2, Sb2, Ib2⟩ := BG1' (bb, b) (by simp)
        have ⟨xb2, yb2, _, _, _⟩ := Sb2
        obtain ⟨ga2, Aa2, na2, ca2, Sa2, Ia2⟩ := BG1' (ba, a) (by simp)
        have ⟨xa2, ya2, _, _, _⟩ := Sa2
        go_wp2_with fail
        refine (cmp_z gb2 ga2 Ab2 Aa2 nb2 cb2 na2 ca2 _ (1) Ib2 Ia2 E1.out).mono ?_
        rintro e w2' ⟨rfl, hb2⟩
        have BG2' := BG1'.after hb2
        have D2' : Below W3.heap.size W3 w2' := hb2
        clear xb2 yb2 xa2 ya2
        obtain ⟨ga3, Aa3, na3, ca3, Sa3, Ia3⟩ := BG2' (ba, a) (by simp)
        have ⟨xa3, ya3, _, _, _⟩ := Sa3
        obtain ⟨gb3, Ab3, nb3, cb3, Sb3, Ib3⟩ := BG2' (bb, b) (by simp)
        have ⟨xb3, yb3, _, _, _⟩ := Sb3
        go_wp2_with fail
        refine (same_v ga3 gb3 Aa3 Ab3 na3 ca3 nb3 cb3 _ false Ia3 Ib3 E2.out).mono ?_
        rintro e w3' ⟨rfl, hb3⟩
        have BG3' := BG2'.after hb3
        have D3' : Below W3.heap.size W3 w3' := D2'.trans (hb3.mono D2'.size)
        clear xa3 ya3 xb3 yb3
        obtain ⟨ga4, Aa4, na4, ca4, Sa4, Ia4⟩ := BG3' (ba, a) (by simp)
        have ⟨xa4, ya4, _, _, _⟩ := Sa4
        obtain ⟨gb4, Ab4, nb4, cb4, Sb4, Ib4⟩ := BG3' (bb, b) (by simp)
        have ⟨xb4, yb4, _, _, _⟩ := Sb4
        go_wp2_with fail
        refine (sub_z ga4 gb4 Aa4 Ab4 na4 ca4 nb4 cb4 _ Ia4 Ib4 Za Zb).mono ?_
        rintro e w4' ⟨gr4, Ar4, nr4, cr4, rfl, ir4, hb4⟩
        have BG4' := BG3'.after hb4
        have D4' : Below W3.heap.size W3 w4' := D3'.trans (hb4.mono D3'.size)
        clear xa4 ya4 xb4 yb4
        go_wp2_with fail
        refine (sign_z gr4 Ar4 nr4 cr4 _ (-1) ir4 E3.out).mono ?_
        rintro e w5' ⟨rfl, hb5⟩
        have BG5' := BG4'.after hb5
        have D5' : Below W3.heap.size W3 w5' := D4'.trans (hb5.mono D4'.size)
        go_wp2_with fail
        go_meet
        exact ⟨rfl, D5'⟩
    · as_aux_lemma =>
        obtain rfl : n = 0 := HN.out.symm.trans (by rw [hab]; exact cmpN_eq b)
        have E1 : Hid (cmpN b a = 0) := (by rw [hab]; exact cmpN_eq b)
        have E2 : Hid (true = decide (a = b)) := ((decide_eq_true hab).symm)
        have E3 : Hid (sgn (a - b) = 0) := Lib.hid (show sgn (a - b) = 0 from by unfold sgn; rw [if_neg (by omega), if_neg (by omega)])
        clear hab HN
        obtain ⟨gb6, Ab6, nb6, cb6, Sb6, Ib6⟩ := BG1' (bb, b) (by simp)
        have ⟨xb6, yb6, _, _, _⟩ := Sb6
        obtain ⟨ga6, Aa6, na6, ca6, Sa6, Ia6⟩ := BG1' (ba, a) (by simp)
        have ⟨xa6, ya6, _, _, _⟩ := Sa6
        go_wp2_with fail
        refine (cmp_z gb6 ga6 Ab6 Aa6 nb6 cb6 na6 ca6 _ (0) Ib6 Ia6 E1.out).mono ?_
        rintro e w6' ⟨rfl, hb6⟩
        have BG6' := BG1'.after hb6
        have D6' : Below W3.heap.size W3 w6' := hb6
        clear xb6 yb6 xa6 ya6
        obtain ⟨ga7, Aa7, na7, ca7, Sa7, Ia7⟩ := BG6' (ba, a) (by simp)
        have ⟨xa7, ya7, _, _, _⟩ := Sa7
        obtain ⟨gb7, Ab7, nb7, cb7, Sb7, Ib7⟩ := BG6' (bb, b) (by simp)
        have ⟨xb7, yb7, _, _, _⟩ := Sb7
        go_wp2_with fail
        refine (same_v ga7 gb7 Aa7 Ab7 na7 ca7 nb7 cb7 _ true Ia7 Ib7 E2.out).mono ?_
        rintro e w7' ⟨rfl, hb7⟩
        have BG7' := BG6'.after hb7
        have D7' : Below W3.heap.size W3 w7' := D6'.trans (hb7.mono D6'.size)
        clear xa7 ya7 xb7 yb7
        obtain ⟨ga8, Aa8, na8, ca8, Sa8, Ia8⟩ := BG7' (ba, a) (by simp)
        have ⟨xa8, ya8, _, _, _⟩ := Sa8
        obtain ⟨gb8, Ab8, nb8, cb8, Sb8, Ib8⟩ := BG7' (bb, b) (by simp)
        have ⟨xb8, yb8, _, _, _⟩ := Sb8
        go_wp2_with fail
        refine (sub_z ga8 gb8 Aa8 Ab8 na8 ca8 nb8 cb8 _ Ia8 Ib8 Za Zb).mono ?_
        rintro e w8' ⟨gr8, Ar8, nr8, cr8, rfl, ir8, hb8⟩
        have BG8' := BG7'.after hb8
        have D8' : Below W3.heap.size W3 w8' := D7'.trans (hb8.mono D7'.size)
        clear xa8 ya8 xb8 yb8
        go_wp2_with fail
        refine (sign_z gr8 Ar8 nr8 cr8 _ (0) ir8 E3.out).mono ?_
        rintro e w9' ⟨rfl, hb9⟩
        have BG9' := BG8'.after hb9
        have D9' : Below W3.heap.size W3 w9' := D8'.trans (hb9.mono D8'.size)
        go_wp2_with fail
        go_meet
        exact ⟨rfl, D9'⟩
    · as_aux_lemma =>
        obtain rfl : n = 1 := HN.out.symm.trans (cmpN_gt hab)
        have E1 : Hid (cmpN b a = -1) := (cmpN_lt hab)
        have E2 : Hid (false = decide (a = b)) := ((decide_eq_false (by omega)).symm)
        have E3 : Hid (sgn (a - b) = 1) := Lib.hid (show sgn (a - b) = 1 from by unfold sgn; rw [if_neg (by omega), if_pos (by omega)])
        clear hab HN
        obtain ⟨gb10, Ab10, nb10, cb10, Sb10, Ib10⟩ := BG1' (bb, b) (by simp)
        have ⟨xb10, yb10, _, _, _⟩ := Sb10
        obtain ⟨ga10, Aa10, na10, ca10, Sa10, Ia10⟩ := BG1' (ba, a) (by simp)
        have ⟨xa10, ya10, _, _, _⟩ := Sa10
        go_wp2_with fail
        refine (cmp_z gb10 ga10 Ab10 Aa10 nb10 cb10 na10 ca10 _ (-1) Ib10 Ia10 E1.out).mono ?_
        rintro e w10' ⟨rfl, hb10⟩
        have BG10' := BG1'.after hb10
        have D10' : Below W3.heap.size W3 w10' := hb10
        clear xb10 yb10 xa10 ya10
        obtain ⟨ga11, Aa11, na11, ca11, Sa11, Ia11⟩ := BG10' (ba, a) (by simp)
        have ⟨xa11, ya11, _, _, _⟩ := Sa11
        obtain ⟨gb11, Ab11, nb11, cb11, Sb11, Ib11⟩ := BG10' (bb, b) (by simp)
        have ⟨xb11, yb11, _, _, _⟩ := Sb11
        go_wp2_with fail
        refine (same_v ga11 gb11 Aa11 Ab11 na11 ca11 nb11 cb11 _ false Ia11 Ib11 E2.out).mono ?_
        rintro e w11' ⟨rfl, hb11⟩
        have BG11' := BG10'.after hb11
        have D11' : Below W3.heap.size W3 w11' := D10'.trans (hb11.mono D10'.size)
        clear xa11 ya11 xb11 yb11
        obtain ⟨ga12, Aa12, na12, ca12, Sa12, Ia12⟩ := BG11' (ba, a) (by simp)
        have ⟨xa12, ya12, _, _, _⟩ := Sa12
        obtain ⟨gb12, Ab12, nb12, cb12, Sb12, Ib12⟩ := BG11' (bb, b) (by simp)
        have ⟨xb12, yb12, _, _, _⟩ := Sb12
        go_wp2_with fail
        refine (sub_z ga12 gb12 Aa12 Ab12 na12 ca12 nb12 cb12 _ Ia12 Ib12 Za Zb).mono ?_
        rintro e w12' ⟨gr12, Ar12, nr12, cr12, rfl, ir12, hb12⟩
        have BG12' := BG11'.after hb12
        have D12' : Below W3.heap.size W3 w12' := D11'.trans (hb12.mono D11'.size)
        clear xa12 ya12 xb12 yb12
        go_wp2_with fail
        refine (sign_z gr12 Ar12 nr12 cr12 _ (1) ir12 E3.out).mono ?_
        rintro e w13' ⟨rfl, hb13⟩
        have BG13' := BG12'.after hb13
        have D13' : Below W3.heap.size W3 w13' := D12'.trans (hb13.mono D12'.size)
        go_wp2_with fail
        go_meet
        exact ⟨rfl, D13'⟩
  case rest =>
  obtain ⟨rfl, DC⟩ := hcut
  have BG4 := BG1'.after DC
  have B4 := B3.trans (DC.mono B3.size)
  clear DC BG1' B3
  obtain ⟨W4, rfl⟩ : ∃ x : World, x = wc := ⟨_, rfl⟩
  go_upto_region 5 with (fail)
  go_cut [13] (fun s wx => s = .bool true ∧ Below W4.heap.size W4 wx)
  case first =>
    rcases Int.lt_or_le b a with hab | hab
    · as_aux_lemma =>
        obtain rfl : n = 1 := HN.out.symm.trans (cmpN_gt hab)
        clear hab HN
        go_wp2_with fail
        go_meet
        exact ⟨rfl, Below.refl _ _⟩
    have hn0 : n ≤ 0 := by
      rw [← HN.out]; unfold cmpN; split
      · omega
      · rw [if_neg (by omega)]; omega
    rcases Int.lt_or_le c b with hbc | hbc
    · as_aux_lemma =>
        have E1 : Hid (cmpN b c = 1) := (cmpN_gt hbc)
        clear hab hbc HN
        obtain ⟨gb14, Ab14, nb14, cb14, Sb14, Ib14⟩ := BG4 (bb, b) (by simp)
        have ⟨xb14, yb14, _, _, _⟩ := Sb14
        obtain ⟨gc14, Ac14, nc14, cc14, Sc14, Ic14⟩ := BG4 (bc, c) (by simp)
        have ⟨xc14, yc14, _, _, _⟩ := Sc14
        go_wp2_with fail
        refine (cmp_z gb14 gc14 Ab14 Ac14 nb14 cb14 nc14 cc14 _ 1 Ib14 Ic14 E1.out).mono ?_
        rintro e w14' ⟨rfl, hb14⟩
        have BG14' := BG4.after hb14
        have D14' : Below W4.heap.size W4 w14' := hb14
        clear xb14 yb14 xc14 yc14
        go_wp2_with fail
        go_meet
        exact ⟨rfl, D14'⟩
    · as_aux_lemma =>
        obtain ⟨s1, hs1⟩ : ∃ s, cmpN b c = s := ⟨_, rfl⟩
        obtain ⟨s2, hs2⟩ : ∃ s, cmpN a c = s := ⟨_, rfl⟩
        have hz1 : s1 ≤ 0 := by
          rw [← hs1]; unfold cmpN; split
          · omega
          · rw [if_neg (by omega)]; omega
        have hz2 : s2 ≤ 0 := by
          rw [← hs2]; unfold cmpN; split
          · omega
          · rw [if_neg (by omega)]; omega
        have E1 := Lib.hid hs1
        have E2 := Lib.hid hs2
        clear hab hbc HN hs1 hs2
        obtain ⟨gb15, Ab15, nb15, cb15, Sb15, Ib15⟩ := BG4 (bb, b) (by simp)
        have ⟨xb15, yb15, _, _, _⟩ := Sb15
        obtain ⟨gc15, Ac15, nc15, cc15, Sc15, Ic15⟩ := BG4 (bc, c) (by simp)
        have ⟨xc15, yc15, _, _, _⟩ := Sc15
        go_wp2_with fail
        refine (cmp_z gb15 gc15 Ab15 Ac15 nb15 cb15 nc15 cc15 _ s1 Ib15 Ic15 E1.out).mono ?_
        rintro e w15' ⟨rfl, hb15⟩
        have BG15' := BG4.after hb15
        have D15' : Below W4.heap.size W4 w15' := hb15
        clear xb15 yb15 xc15 yc15
        obtain ⟨ga16, Aa16, na16, ca16, Sa16, Ia16⟩ := BG15' (ba, a) (by simp)
        have ⟨xa16, ya16, _, _, _⟩ := Sa16
        obtain ⟨gc16, Ac16, nc16, cc16, Sc16, Ic16⟩ := BG15' (bc, c) (by simp)
        have ⟨xc16, yc16, _, _, _⟩ := Sc16
        go_wp2_with fail
        refine (cmp_z ga16 gc16 Aa16 Ac16 na16 ca16 nc16 cc16 _ s2 Ia16 Ic16 E2.out).mono ?_
        rintro e w16' ⟨rfl, hb16⟩
        have BG16' := BG15'.after hb16
        have D16' : Below W4.heap.size W4 w16' := D15'.trans (hb16.mono D15'.size)
        clear xa16 ya16 xc16 yc16
        go_wp2_with fail
        go_meet
        exact ⟨rfl, D16'⟩
  case rest =>
  obtain ⟨rfl, DC⟩ := hcut
  have BG5 := BG4.after DC
  have B5 := B4.trans (DC.mono B4.size)
  clear DC BG4 B4
  obtain ⟨W5, rfl⟩ : ∃ x : World, x = wc := ⟨_, rfl⟩
  have F1 : cmpN (a + c) (b + c) = n := by rw [← HN.out]; exact cmpN_add a b c
  have F2 : IntKind.i64.wrap (n * sgn c) = cmpN (a * c) (b * c) := by rw [← HN.out, cmpN_mul]; exact wrap_cmp a b c
  have HF1 := Lib.hid F1
  have HF2 := Lib.hid F2
  clear F1 F2
  go_wp2_with fail
  go_cut [6] (fun s wx => s = .bool true ∧ Below W5.heap.size W5 wx)
  case first =>
    refine order_r6 (BG5 (ba, a) (by simp)) (BG5 (bb, b) (by simp)) (BG5 (bc, c) (by simp)) Za Zb Zc HF1.out (Lib.hid rfl) (Lib.hid rfl) HF2.out ?_
    intros
    go_wp2_with fail
    go_meet
    exact ⟨rfl, by assumption⟩
  case rest =>
  obtain ⟨rfl, DC⟩ := hcut
  have BB6 := B5.trans (DC.mono B5.size)
  go_wp2_with fail
  go_ret
  exact ⟨rfl, BB6⟩
end Go.Proofs.YtdknibhaacbkpaaDoor
