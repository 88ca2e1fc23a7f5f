/- The walk of the law IntegerDivides, given what its fixed examples return. -/
import Derived.Test.YtdknibhaacbkpaaDoorVLawKit
import Derived.Test.YtdknibhaacbkpaaDoorVLawDivR
namespace Go.Proofs.YtdknibhaacbkpaaDoor
open Go.RowKit
set_option maxRecDepth 1000000 in
set_option maxHeartbeats 2000000 in
theorem law_divides (HS : SanOk) (A1 A2 : Option Addr) (n1 c1 n2 c2 : Nat) (s1 s2 : Bool) (xs ys : List Nat) (w : World) (ha : Lim w w.heap.size A1 n1 c1 xs) (hb : Lim w w.heap.size A2 n2 c2 ys) :
    Calls Tryd.prog 6 #[.agg #[.slice A1 n1 c1, .bool s1], .agg #[.slice A2 n2 c2, .bool s2]] w fun e w' => e = .returned (.bool true) ∧ Below w.heap.size w w' := by
  have HS' := Lib.hid HS
  clear HS
  have M1 := fun W (hW : Below w.heap.size w W) => made_any s1 A1 n1 c1 w.heap.size xs W (ha.below hW) hW.size
  have M2 := fun W (hW : Below w.heap.size w W) => made_any s2 A2 n2 c2 w.heap.size ys W (hb.below hW) hW.size
  have Za := Sz.raw s1 xs 12 ha.lt (by decide)
  have Zb := Sz.raw s2 ys 12 hb.lt (by decide)
  generalize zOf s1 (val (xs.take 12)) = a at M1 Za
  generalize zOf s2 (val (ys.take 12)) = b at M2 Zb
  have HM1 := Lib.hid M1
  have HM2 := Lib.hid M2
  clear M1 M2 ha hb
  obtain ⟨B0, X0, Y0⟩ := frameR2 w (.slice A1 n1 c1) (.bool s1) (.slice A2 n2 c2) (.bool s2)
  go_enter Tryd.func6, Tryd.ntmps6
  go_wp2_with fail
  refine (HS'.out _).mono ?_
  rintro e w1 ⟨rfl, hb1⟩
  have B1 := B0.trans (hb1.mono B0.size)
  have X1 := X0.after hb1
  have Y1 := Y0.after hb1
  clear X0 Y0 B0 hb1
  go_wp2_with fail
  go_cut [6, 7] (fun p6 p7 wx => ∃ g6 g7 : Nat, p6 = .pointer (some ⟨g6, 0, none⟩) ∧ p7 = .pointer (some ⟨g7, 0, none⟩) ∧ Bag wx [(g6, a), (g7, b)] ∧ Below w.heap.size w wx)
  case first =>
    as_aux_lemma =>
      have HX : Hid (∀ W, Below w1.heap.size w1 W → (Slot2 W w.heap.size (.slice A1 n1 c1) (.bool s1) ∧ Slot2 W (w.heap.size + 1) (.slice A2 n2 c2) (.bool s2))) := fun W hW => ⟨X1.after hW, Y1.after hW⟩
      clear X1 Y1
      refine wp_region_ev (fun d a0 a' w' => ∃ u16 u17 u18 u19 u6 u7 : Value, a' = ((((((a0.put (some 16) u16).put (some 17) u17).put (some 18) u18).put (some 19) u19).put (some 6) u6).put (some 7) u7) ∧ Below w1.heap.size w1 w' ∧ (d 0 = true → u16 = .agg #[.slice A1 n1 c1, .bool s1]) ∧ (d 1 = true → IntV w' u17 (a)) ∧ (d 2 = true → u18 = .agg #[.slice A2 n2 c2, .bool s2]) ∧ (d 3 = true → IntV w' u19 (b)) ∧ (d 4 = true → OwnP w1.heap.size w' u6 (d 6) (a)) ∧ (d 5 = true → OwnP w1.heap.size w' u7 (d 7) (b)) ∧ (d 4 = true → d 5 = true → u6 ≠ u7) ∧ (d 6 = true → d 4 = true) ∧ (d 7 = true → d 5 = true)) (by kernel_rfl) (by kernel_rfl) ?_ ?_ ?_ ?_
      · intro d d' h a' w' hh
        obtain rfl : d = d' := funext h
        exact hh
      · exact ⟨_, _, _, _, _, _, (by simp only [Act.put, List.setIfInBounds_toArray, List.set_cons_zero, List.set_cons_succ]; rfl), (Below.refl _ _).drew, (fun h => by cases h), (fun h => by cases h), (fun h => by cases h), (fun h => by cases h), (fun h => by cases h), (fun h => by cases h), (fun h => by cases h), (fun h => by cases h), (fun h => by cases h)⟩
      · refine ⟨?_, ?_, ?_, ?_, ?_, ?_, ?_, ?_, trivial⟩
        · intro d a2 w2 hd hm ⟨u16, u17, u18, u19, u6, u7, e, HB, f0, f1, f2, f3, f4, f5, n01, t0, t1⟩ K hK
          subst e
          simp only [Act.put, List.setIfInBounds_toArray, List.set_cons_zero, List.set_cons_succ]
          obtain ⟨⟨q0, q1, _, _, _⟩, ⟨q2, q3, _, _, _⟩⟩ := HX.out w2 HB
          go_simp
          exact hK.out _ _ ⟨.agg #[.slice A1 n1 c1, .bool s1], u17, u18, u19, u6, u7, (by simp only [Act.put, List.setIfInBounds_toArray, List.set_cons_zero, List.set_cons_succ]), HB, (fun _ => rfl), (fun h => (f1 (by simpa using h))), (fun h => f2 (by simpa using h)), (fun h => (f3 (by simpa using h))), (fun h => by simpa using (f4 (by simpa using h))), (fun h => by simpa using (f5 (by simpa using h))), (fun h h' => n01 (by simpa using h) (by simpa using h')), (fun h => by simpa using t0 (by simpa using h)), (fun h => by simpa using t1 (by simpa using h))⟩
        · intro d a2 w2 hd hm ⟨u16, u17, u18, u19, u6, u7, e, HB, f0, f1, f2, f3, f4, f5, n01, t0, t1⟩ K hK
          subst e
          simp only [Act.put, List.setIfInBounds_toArray, List.set_cons_zero, List.set_cons_succ]
          obtain rfl := f0 (hm ⟨0, .data⟩ (by simp) rfl)
          clear f0
          go_simp
          (with_reducible refine (HM1.out _ (B1.trans (Below.mono HB B1.size))).mono ?_)
          rintro e w3 ⟨gg, AA, nn, cc, rfl, hi, hb⟩
          have HB3 := HB.trans (hb.mono HB.size)
          go_wp2_with fail
          exact hK.out _ _ ⟨.agg #[.slice A1 n1 c1, .bool s1], .agg #[.bool gg, .slice AA nn cc], u18, u19, u6, u7, (by simp only [Act.put, List.setIfInBounds_toArray, List.set_cons_zero, List.set_cons_succ]), HB3, (fun _ => rfl), (fun _ => ⟨_, _, _, _, rfl, hi⟩), (fun h => f2 (by simpa using h)), (fun h => (f3 (by simpa using h)).below hb), (fun h => by simpa using (f4 (by simpa using h)).below hb), (fun h => by simpa using (f5 (by simpa using h)).below hb), (fun h h' => n01 (by simpa using h) (by simpa using h')), (fun h => by simpa using t0 (by simpa using h)), (fun h => by simpa using t1 (by simpa using h))⟩
        · intro d a2 w2 hd hm ⟨u16, u17, u18, u19, u6, u7, e, HB, f0, f1, f2, f3, f4, f5, n01, t0, t1⟩ K hK
          subst e
          simp only [Act.put, List.setIfInBounds_toArray, List.set_cons_zero, List.set_cons_succ]
          obtain ⟨⟨q0, q1, _, _, _⟩, ⟨q2, q3, _, _, _⟩⟩ := HX.out w2 HB
          go_simp
          exact hK.out _ _ ⟨u16, u17, .agg #[.slice A2 n2 c2, .bool s2], u19, u6, u7, (by simp only [Act.put, List.setIfInBounds_toArray, List.set_cons_zero, List.set_cons_succ]), HB, (fun h => f0 (by simpa using h)), (fun h => (f1 (by simpa using h))), (fun _ => rfl), (fun h => (f3 (by simpa using h))), (fun h => by simpa using (f4 (by simpa using h))), (fun h => by simpa using (f5 (by simpa using h))), (fun h h' => n01 (by simpa using h) (by simpa using h')), (fun h => by simpa using t0 (by simpa using h)), (fun h => by simpa using t1 (by simpa using h))⟩
        · intro d a2 w2 hd hm ⟨u16, u17, u18, u19, u6, u7, e, HB, f0, f1, f2, f3, f4, f5, n01, t0, t1⟩ K hK
          subst e
          simp only [Act.put, List.setIfInBounds_toArray, List.set_cons_zero, List.set_cons_succ]
          obtain rfl := f2 (hm ⟨2, .data⟩ (by simp) rfl)
          clear f2
          go_simp
          (with_reducible refine (HM2.out _ (B1.trans (Below.mono HB B1.size))).mono ?_)
          rintro e w3 ⟨gg, AA, nn, cc, rfl, hi, hb⟩
          have HB3 := HB.trans (hb.mono HB.size)
          go_wp2_with fail
          exact hK.out _ _ ⟨u16, u17, .agg #[.slice A2 n2 c2, .bool s2], .agg #[.bool gg, .slice AA nn cc], u6, u7, (by simp only [Act.put, List.setIfInBounds_toArray, List.set_cons_zero, List.set_cons_succ]), HB3, (fun h => f0 (by simpa using h)), (fun h => (f1 (by simpa using h)).below hb), (fun _ => rfl), (fun _ => ⟨_, _, _, _, rfl, hi⟩), (fun h => by simpa using (f4 (by simpa using h)).below hb), (fun h => by simpa using (f5 (by simpa using h)).below hb), (fun h h' => n01 (by simpa using h) (by simpa using h')), (fun h => by simpa using t0 (by simpa using h)), (fun h => by simpa using t1 (by simpa using h))⟩
        · intro d a2 w2 hd hm ⟨u16, u17, u18, u19, u6, u7, e, HB, f0, f1, f2, f3, f4, f5, n01, t0, t1⟩ K hK
          subst e
          simp only [Act.put, List.setIfInBounds_toArray, List.set_cons_zero, List.set_cons_succ]
          have hb : Below w2.heap.size w2 (w2.alloc (.cells #[.bool false, .slice none 0 0] 28)) := (Below.refl _ _).alloc (Nat.le_refl _) _
          have HB3 := HB.trans (hb.mono HB.size)
          go_simp
          exact hK.out _ _ ⟨u16, u17, u18, u19, .pointer (some ⟨w2.heap.size, 0, none⟩), u7, (by simp only [Act.put, List.setIfInBounds_toArray, List.set_cons_zero, List.set_cons_succ]), HB3, (fun h => f0 (by simpa using h)), (fun h => (f1 (by simpa using h)).below hb), (fun h => f2 (by simpa using h)), (fun h => (f3 (by simpa using h)).below hb), (fun _ => by have hs : d 6 = false := (by cases hq : d 6 with | false => rfl | true => (have hz := t0 hq; rw [hd] at hz; cases hz)); simpa [hs] using OwnP.new HB.size (a)), (fun h => by simpa using (f5 (by simpa using h)).below hb), (fun _ h' => ((f5 (by simpa using h')).lt).symm), (fun _ => by simp), (fun h => by simpa using t1 (by simpa using h))⟩
        · intro d a2 w2 hd hm ⟨u16, u17, u18, u19, u6, u7, e, HB, f0, f1, f2, f3, f4, f5, n01, t0, t1⟩ K hK
          subst e
          simp only [Act.put, List.setIfInBounds_toArray, List.set_cons_zero, List.set_cons_succ]
          have hb : Below w2.heap.size w2 (w2.alloc (.cells #[.bool false, .slice none 0 0] 28)) := (Below.refl _ _).alloc (Nat.le_refl _) _
          have HB3 := HB.trans (hb.mono HB.size)
          go_simp
          exact hK.out _ _ ⟨u16, u17, u18, u19, u6, .pointer (some ⟨w2.heap.size, 0, none⟩), (by simp only [Act.put, List.setIfInBounds_toArray, List.set_cons_zero, List.set_cons_succ]), HB3, (fun h => f0 (by simpa using h)), (fun h => (f1 (by simpa using h)).below hb), (fun h => f2 (by simpa using h)), (fun h => (f3 (by simpa using h)).below hb), (fun h => by simpa using (f4 (by simpa using h)).below hb), (fun _ => by have hs : d 7 = false := (by cases hq : d 7 with | false => rfl | true => (have hz := t1 hq; rw [hd] at hz; cases hz)); simpa [hs] using OwnP.new HB.size (b)), (fun h _ => (f4 (by simpa using h)).lt), (fun h => by simpa using t0 (by simpa using h)), (fun _ => by simp)⟩
        · intro d a2 w2 hd hm ⟨u16, u17, u18, u19, u6, u7, e, HB, f0, f1, f2, f3, f4, f5, n01, t0, t1⟩ K hK
          subst e
          simp only [Act.put, List.setIfInBounds_toArray, List.set_cons_zero, List.set_cons_succ]
          obtain ⟨gg, AA, nn, cc, rfl, hi⟩ := f1 (hm ⟨1, .data⟩ (by simp) rfl)
          obtain ⟨g, rfl, hg, b0, b1, hs, n0, n1, _⟩ := f4 (hm ⟨4, .data⟩ (by simp) rfl)
          obtain ⟨k0, k1, k2, k3, k4⟩ := id hs
          go_simp
          exact hK.out _ _ ⟨u16, .agg #[.bool gg, .slice AA nn cc], u18, u19, .pointer (some ⟨g, 0, none⟩), u7, (by simp only [Act.put, List.setIfInBounds_toArray, List.set_cons_zero, List.set_cons_succ]), Below.set2 HB hg _ _, (fun h => f0 (by simpa using h)), (fun h => (f1 (by simpa using h)).set2 hs n0 n1 _ _), (fun h => f2 (by simpa using h)), (fun h => (f3 (by simpa using h)).set2 hs n0 n1 _ _), (fun _ => by simpa using OwnP.near hi hg hs n0 n1), (fun h => by simpa using (f5 (by simpa using h)).far ((n01 (hm ⟨4, .data⟩ (by simp) rfl) (by simpa using h)).symm) hs n0 n1 _ _), (fun h h' => n01 (by simpa using h) (by simpa using h')), (fun _ => by simpa using hm ⟨4, .data⟩ (by simp) rfl), (fun h => by simpa using t1 (by simpa using h))⟩
        · intro d a2 w2 hd hm ⟨u16, u17, u18, u19, u6, u7, e, HB, f0, f1, f2, f3, f4, f5, n01, t0, t1⟩ K hK
          subst e
          simp only [Act.put, List.setIfInBounds_toArray, List.set_cons_zero, List.set_cons_succ]
          obtain ⟨gg, AA, nn, cc, rfl, hi⟩ := f3 (hm ⟨3, .data⟩ (by simp) rfl)
          obtain ⟨g, rfl, hg, b0, b1, hs, n0, n1, _⟩ := f5 (hm ⟨5, .data⟩ (by simp) rfl)
          obtain ⟨k0, k1, k2, k3, k4⟩ := id hs
          go_simp
          exact hK.out _ _ ⟨u16, u17, u18, .agg #[.bool gg, .slice AA nn cc], u6, .pointer (some ⟨g, 0, none⟩), (by simp only [Act.put, List.setIfInBounds_toArray, List.set_cons_zero, List.set_cons_succ]), Below.set2 HB hg _ _, (fun h => f0 (by simpa using h)), (fun h => (f1 (by simpa using h)).set2 hs n0 n1 _ _), (fun h => f2 (by simpa using h)), (fun h => (f3 (by simpa using h)).set2 hs n0 n1 _ _), (fun h => by simpa using (f4 (by simpa using h)).far (n01 (by simpa using h) (hm ⟨5, .data⟩ (by simp) rfl)) hs n0 n1 _ _), (fun _ => by simpa using OwnP.near hi hg hs n0 n1), (fun h h' => n01 (by simpa using h) (by simpa using h')), (fun h => by simpa using t0 (by simpa using h)), (fun _ => by simpa using hm ⟨5, .data⟩ (by simp) rfl)⟩
      · intro d a2 w2 hall ⟨u16, u17, u18, u19, u6, u7, e, HB, f0, f1, f2, f3, f4, f5, n01, t0, t1⟩
        subst e
        simp only [Act.put, List.setIfInBounds_toArray, List.set_cons_zero, List.set_cons_succ]
        obtain rfl := f0 (hall _ (by decide))
        obtain rfl := f2 (hall _ (by decide))
        obtain ⟨g0, rfl, h0, b0⟩ := OwnP.intAtB (by have := f4 (hall _ (by decide)); rwa [hall 6 (by decide)] at this)
        obtain ⟨g1, rfl, h1, b1⟩ := OwnP.intAtB (by have := f5 (hall _ (by decide)); rwa [hall 7 (by decide)] at this)
        go_wp2_with fail
        go_meet
        exact ⟨g0, g1, rfl, rfl, Bag.cons h0 (Bag.cons h1 (bag_nil _)), B1.trans (HB.mono B1.size)⟩
  case rest =>
  obtain ⟨ba, bb, rfl, rfl, BG2, B2⟩ := hcut
  clear B1 X1 Y1
  obtain ⟨W2, rfl⟩ : ∃ x : World, x = wc := ⟨_, rfl⟩
  obtain ⟨ga, Aa, na, ca, Sa, Ia⟩ := BG2 (ba, a) (by simp)
  obtain ⟨gb, Ab, nb, cb, Sb, Ib⟩ := BG2 (bb, b) (by simp)
  by_cases hz : b = 0
  · as_aux_lemma =>
      subst hz
      have hn0 : nb = 0 := (len_of Ib).2 rfl
      have hgb : gb = false := by rw [Ib.sign]; rfl
      subst hn0 hgb
      have HDM := Lib.hid (dm_zero ga Aa Ab na ca cb a W2 Ia Ib)
      have ⟨xa, ya, _, _, _⟩ := Sa
      have ⟨xb, yb, _, _, _⟩ := Sb
      go_wp2_with fail
      refine HDM.out.mono ?_
      rintro e w3 ⟨g1, A1', n1', c1', g2, A2', n2', c2', rfl, i1, i2, hb3⟩
      have ⟨xb1, yb1, _, _, _⟩ := Sb.after hb3
      clear xa ya xb yb
      obtain ⟨BQ, DQ⟩ := two_new i1 i2
      have BW4 := B2.trans ((hb3.trans (DQ.mono hb3.size)).mono B2.size)
      have Ib4 := (Ib.below hb3).below DQ
      clear i1 i2 HDM
      go_wp2_with fail
      generalize (w3.alloc (.cells #[.bool g1, .slice A1' n1' c1'] 28)).alloc (.cells #[.bool g2, .slice A2' n2' c2'] 28) = w4 at *
      refine (rsign_z _ _ _ _ _ 0 Ib4 rfl).mono ?_
      rintro e w5 ⟨rfl, hb5⟩
      have BQ5 := BQ.after hb5
      have BW5 := BW4.trans (hb5.mono BW4.size)
      obtain ⟨gq, Aq, nq, cq, Sq, Iq⟩ := BQ5 (w3.heap.size, 0) (by simp)
      have ⟨xq, yq, _, _, _⟩ := Sq
      have BQ6' := BQ5
      clear xb1 yb1 BQ BQ5 Ib4 BW4
      go_wp2_with fail
      refine (same_z _ _ _ _ _ _ _ _ _ Iq (isInt_zero' _) rfl).mono ?_
      rintro e w6 ⟨rfl, hb6⟩
      have BW6 := BW5.trans (hb6.mono BW5.size)
      obtain ⟨gr, Ar, nr, cr, Sr, Ir⟩ := BQ6' (w3.heap.size + 1, 0) (by simp)
      have Sr6 := Sr.after hb6
      have Ir6 := Ir.below hb6
      have ⟨xr, yr, _, _, _⟩ := Sr6
      clear xq yq Sr Ir BW5
      go_wp2_with fail
      refine (same_z _ _ _ _ _ _ _ _ _ Ir6 (isInt_zero' _) rfl).mono ?_
      rintro e w7 ⟨rfl, hb7⟩
      go_wp2_with fail
      go_ret
      exact ⟨rfl, BW6.trans (hb7.mono BW6.size)⟩
  · obtain ⟨s, hs⟩ : ∃ s, sgn b = s := ⟨_, rfl⟩
    have hs0 : (s == 0) = false := by rw [← hs]; exact sgn_ne' hz
    have HDM := Lib.hid (dm_z ga gb Aa Ab na ca nb cb W2 Ia Ib Za Zb hz)
    have HSG := Lib.hid hs
    have HZ := Lib.hid hz
    clear hs hz
    have ⟨xa, ya, _, _, _⟩ := Sa
    have ⟨xb, yb, _, _, _⟩ := Sb
    go_wp2_with fail
    refine HDM.out.mono ?_
    rintro e w3 ⟨g1, A1', n1', c1', g2, A2', n2', c2', rfl, i1, i2, hb3⟩
    have ⟨xb1, yb1, _, _, _⟩ := Sb.after hb3
    clear xa ya xb yb
    obtain ⟨BQ, DQ⟩ := two_new i1 i2
    have D24 := hb3.trans (DQ.mono hb3.size)
    have BW4 := B2.trans (D24.mono B2.size)
    have BG4 := BG2.after D24
    have Ib4 := Ib.below D24
    clear i1 i2 HDM BG2 Sa Sb Ia Ib B2
    go_wp2_with fail
    generalize (w3.alloc (.cells #[.bool g1, .slice A1' n1' c1'] 28)).alloc (.cells #[.bool g2, .slice A2' n2' c2'] 28) = w4 at *
    generalize w3.heap.size = bq at *
    refine (rsign_z _ _ _ _ _ s Ib4 HSG.out).mono ?_
    rintro e w5 ⟨rfl, hb5⟩
    have BQ5 := BQ.after hb5
    have BG5 := BG4.after hb5
    have B5 := BW4.trans (hb5.mono BW4.size)
    clear xb1 yb1 BQ BG4 Ib4 BW4 DQ D24 hb3 hb5 HSG
    go_wp2_with fail
    obtain ⟨W5, rfl⟩ : ∃ x : World, x = w5 := ⟨_, rfl⟩
    go_cut [11, 12, 13] (fun p11 p12 p13 wx => ∃ g11 g12 : Nat, p11 = .pointer (some ⟨g11, 0, none⟩) ∧ p12 = .pointer (some ⟨g12, 0, none⟩) ∧ p13 = .int .i64 0 ∧ Bag wx [(g11, a * b / b), (g12, a * b % b)] ∧ Below W5.heap.size W5 wx)
    case first =>
      as_aux_lemma =>
        obtain ⟨ga, Aa, na, ca, Sa, Ia⟩ := BG5 (ba, a) (by simp)
        obtain ⟨gb, Ab, nb, cb, Sb, Ib⟩ := BG5 (bb, b) (by simp)
        have HX : Hid (∀ W, Below W5.heap.size W5 W → (Slot2 W ba (.bool ga) (.slice Aa na ca) ∧ Slot2 W bb (.bool gb) (.slice Ab nb cb))) := fun W hW => ⟨Sa.after hW, Sb.after hW⟩
        clear Sa Sb BG5 BQ5
        refine wp_region_ev (fun d a0 a' w' => ∃ u46 u47 u48 u49 u50 u45 u51 u52 u53 u11 u12 u13 : Value, a' = ((((((((((((a0.put (some 46) u46).put (some 47) u47).put (some 48) u48).put (some 49) u49).put (some 50) u50).put (some 45) u45).put (some 51) u51).put (some 52) u52).put (some 53) u53).put (some 11) u11).put (some 12) u12).put (some 13) u13) ∧ Below W5.heap.size W5 w' ∧ (d 0 = true → u46 = .agg #[.bool ga, .slice Aa na ca]) ∧ (d 1 = true → u47 = .agg #[.bool gb, .slice Ab nb cb]) ∧ (d 2 = true → IntV w' u48 (a * b)) ∧ (d 3 = true → u49 = .agg #[.bool gb, .slice Ab nb cb]) ∧ (d 4 = true → TupV w' u50 (a * b / b) (a * b % b) (0)) ∧ (d 5 = true → TupV w' u45 (a * b / b) (a * b % b) (0)) ∧ (d 6 = true → IntV w' u51 (a * b / b)) ∧ (d 7 = true → IntV w' u52 (a * b % b)) ∧ (d 8 = true → u53 = .int .i64 (0)) ∧ (d 13 = true → u13 = .int .i64 (0)) ∧ (d 9 = true → OwnP W5.heap.size w' u11 (d 11) (a * b / b)) ∧ (d 10 = true → OwnP W5.heap.size w' u12 (d 12) (a * b % b)) ∧ (d 9 = true → d 10 = true → u11 ≠ u12) ∧ (d 11 = true → d 9 = true) ∧ (d 12 = true → d 10 = true)) (by kernel_rfl) (by kernel_rfl) ?_ ?_ ?_ ?_
        · intro d d' h a' w' hh
          obtain rfl : d = d' := funext h
          exact hh
        · exact ⟨_, _, _, _, _, _, _, _, _, _, _, _, (by simp only [Act.put, List.setIfInBounds_toArray, List.set_cons_zero, List.set_cons_succ]; rfl), (Below.refl _ _).drew, (fun h => by cases h), (fun h => by cases h), (fun h => by cases h), (fun h => by cases h), (fun h => by cases h), (fun h => by cases h), (fun h => by cases h), (fun h => by cases h), (fun h => by cases h), (fun h => by cases h), (fun h => by cases h), (fun h => by cases h), (fun h => by cases h), (fun h => by cases h), (fun h => by cases h)⟩
        · refine ⟨?_, ?_, ?_, ?_, ?_, ?_, ?_, ?_, ?_, ?_, ?_, ?_, ?_, ?_, trivial⟩
          · intro d a2 w2 hd hm ⟨u46, u47, u48, u49, u50, u45, u51, u52, u53, u11, u12, u13, e, HB, f0, f1, f2, f3, f4, f5, f6, f7, f8, f13, f9, f10, n01, t0, t1⟩ K hK
            subst e
            simp only [Act.put, List.setIfInBounds_toArray, List.set_cons_zero, List.set_cons_succ]
            obtain ⟨⟨q0, q1, _, _, _⟩, ⟨q2, q3, _, _, _⟩⟩ := HX.out w2 HB
            go_simp
            exact hK.out _ _ ⟨.agg #[.bool ga, .slice Aa na ca], u47, u48, u49, u50, u45, u51, u52, u53, u11, u12, u13, (by simp only [Act.put, List.setIfInBounds_toArray, List.set_cons_zero, List.set_cons_succ]), HB, (fun _ => rfl), (fun h => f1 (by simpa using h)), (fun h => (f2 (by simpa using h))), (fun h => f3 (by simpa using h)), (fun h => (f4 (by simpa using h))), (fun h => (f5 (by simpa using h))), (fun h => (f6 (by simpa using h))), (fun h => (f7 (by simpa using h))), (fun h => f8 (by simpa using h)), (fun h => f13 (by simpa using h)), (fun h => by simpa using (f9 (by simpa using h))), (fun h => by simpa using (f10 (by simpa using h))), (fun h h' => n01 (by simpa using h) (by simpa using h')), (fun h => by simpa using t0 (by simpa using h)), (fun h => by simpa using t1 (by simpa using h))⟩
          · intro d a2 w2 hd hm ⟨u46, u47, u48, u49, u50, u45, u51, u52, u53, u11, u12, u13, e, HB, f0, f1, f2, f3, f4, f5, f6, f7, f8, f13, f9, f10, n01, t0, t1⟩ K hK
            subst e
            simp only [Act.put, List.setIfInBounds_toArray, List.set_cons_zero, List.set_cons_succ]
            obtain ⟨⟨q0, q1, _, _, _⟩, ⟨q2, q3, _, _, _⟩⟩ := HX.out w2 HB
            go_simp
            exact hK.out _ _ ⟨u46, .agg #[.bool gb, .slice Ab nb cb], u48, u49, u50, u45, u51, u52, u53, u11, u12, u13, (by simp only [Act.put, List.setIfInBounds_toArray, List.set_cons_zero, List.set_cons_succ]), HB, (fun h => f0 (by simpa using h)), (fun _ => rfl), (fun h => (f2 (by simpa using h))), (fun h => f3 (by simpa using h)), (fun h => (f4 (by simpa using h))), (fun h => (f5 (by simpa using h))), (fun h => (f6 (by simpa using h))), (fun h => (f7 (by simpa using h))), (fun h => f8 (by simpa using h)), (fun h => f13 (by simpa using h)), (fun h => by simpa using (f9 (by simpa using h))), (fun h => by simpa using (f10 (by simpa using h))), (fun h h' => n01 (by simpa using h) (by simpa using h')), (fun h => by simpa using t0 (by simpa using h)), (fun h => by simpa using t1 (by simpa using h))⟩
          · intro d a2 w2 hd hm ⟨u46, u47, u48, u49, u50, u45, u51, u52, u53, u11, u12, u13, e, HB, f0, f1, f2, f3, f4, f5, f6, f7, f8, f13, f9, f10, n01, t0, t1⟩ K hK
            subst e
            simp only [Act.put, List.setIfInBounds_toArray, List.set_cons_zero, List.set_cons_succ]
            obtain rfl := f0 (hm ⟨0, .data⟩ (by simp) rfl)
            clear f0
            obtain rfl := f1 (hm ⟨1, .data⟩ (by simp) rfl)
            clear f1
            go_simp
            (with_reducible refine (rmul_z ga gb Aa Ab na ca nb cb _ (Ia.below HB) (Ib.below HB) Za Zb).mono ?_)
            rintro e w3 ⟨gg, AA, nn, cc, rfl, hi, hb⟩
            have HB3 := HB.trans (hb.mono HB.size)
            go_wp2_with fail
            exact hK.out _ _ ⟨.agg #[.bool ga, .slice Aa na ca], .agg #[.bool gb, .slice Ab nb cb], .agg #[.bool gg, .slice AA nn cc], u49, u50, u45, u51, u52, u53, u11, u12, u13, (by simp only [Act.put, List.setIfInBounds_toArray, List.set_cons_zero, List.set_cons_succ]), HB3, (fun _ => rfl), (fun _ => rfl), (fun _ => ⟨_, _, _, _, rfl, hi⟩), (fun h => f3 (by simpa using h)), (fun h => (f4 (by simpa using h)).below hb), (fun h => (f5 (by simpa using h)).below hb), (fun h => (f6 (by simpa using h)).below hb), (fun h => (f7 (by simpa using h)).below hb), (fun h => f8 (by simpa using h)), (fun h => f13 (by simpa using h)), (fun h => by simpa using (f9 (by simpa using h)).below hb), (fun h => by simpa using (f10 (by simpa using h)).below hb), (fun h h' => n01 (by simpa using h) (by simpa using h')), (fun h => by simpa using t0 (by simpa using h)), (fun h => by simpa using t1 (by simpa using h))⟩
          · intro d a2 w2 hd hm ⟨u46, u47, u48, u49, u50, u45, u51, u52, u53, u11, u12, u13, e, HB, f0, f1, f2, f3, f4, f5, f6, f7, f8, f13, f9, f10, n01, t0, t1⟩ K hK
            subst e
            simp only [Act.put, List.setIfInBounds_toArray, List.set_cons_zero, List.set_cons_succ]
            obtain ⟨⟨q0, q1, _, _, _⟩, ⟨q2, q3, _, _, _⟩⟩ := HX.out w2 HB
            go_simp
            exact hK.out _ _ ⟨u46, u47, u48, .agg #[.bool gb, .slice Ab nb cb], u50, u45, u51, u52, u53, u11, u12, u13, (by simp only [Act.put, List.setIfInBounds_toArray, List.set_cons_zero, List.set_cons_succ]), HB, (fun h => f0 (by simpa using h)), (fun h => f1 (by simpa using h)), (fun h => (f2 (by simpa using h))), (fun _ => rfl), (fun h => (f4 (by simpa using h))), (fun h => (f5 (by simpa using h))), (fun h => (f6 (by simpa using h))), (fun h => (f7 (by simpa using h))), (fun h => f8 (by simpa using h)), (fun h => f13 (by simpa using h)), (fun h => by simpa using (f9 (by simpa using h))), (fun h => by simpa using (f10 (by simpa using h))), (fun h h' => n01 (by simpa using h) (by simpa using h')), (fun h => by simpa using t0 (by simpa using h)), (fun h => by simpa using t1 (by simpa using h))⟩
          · intro d a2 w2 hd hm ⟨u46, u47, u48, u49, u50, u45, u51, u52, u53, u11, u12, u13, e, HB, f0, f1, f2, f3, f4, f5, f6, f7, f8, f13, f9, f10, n01, t0, t1⟩ K hK
            subst e
            simp only [Act.put, List.setIfInBounds_toArray, List.set_cons_zero, List.set_cons_succ]
            obtain ⟨G2, A2, N2, C2, rfl, I2⟩ := f2 (hm ⟨2, .data⟩ (by simp) rfl)
            obtain rfl := f3 (hm ⟨3, .data⟩ (by simp) rfl)
            clear f3
            go_simp
            (with_reducible refine (dm_z G2 gb A2 Ab N2 C2 nb cb _ I2 (Ib.below HB) (Sz.mul Za Zb (by decide)) Zb HZ.out).mono ?_)
            rintro e w3 ⟨g1, A1', n1', c1', g2, A2', n2', c2', rfl, hi1, hi2, hb⟩
            have HB3 := HB.trans (hb.mono HB.size)
            go_wp2_with fail
            exact hK.out _ _ ⟨u46, u47, .agg #[.bool G2, .slice A2 N2 C2], .agg #[.bool gb, .slice Ab nb cb], .tuple #[.agg #[.bool g1, .slice A1' n1' c1'], .agg #[.bool g2, .slice A2' n2' c2'], .int .i64 (0)], u45, u51, u52, u53, u11, u12, u13, (by simp only [Act.put, List.setIfInBounds_toArray, List.set_cons_zero, List.set_cons_succ]), HB3, (fun h => f0 (by simpa using h)), (fun h => f1 (by simpa using h)), (fun h => (f2 (by simpa using h)).below hb), (fun _ => rfl), (fun _ => ⟨_, _, rfl, ⟨_, _, _, _, rfl, hi1⟩, ⟨_, _, _, _, rfl, hi2⟩⟩), (fun h => (f5 (by simpa using h)).below hb), (fun h => (f6 (by simpa using h)).below hb), (fun h => (f7 (by simpa using h)).below hb), (fun h => f8 (by simpa using h)), (fun h => f13 (by simpa using h)), (fun h => by simpa using (f9 (by simpa using h)).below hb), (fun h => by simpa using (f10 (by simpa using h)).below hb), (fun h h' => n01 (by simpa using h) (by simpa using h')), (fun h => by simpa using t0 (by simpa using h)), (fun h => by simpa using t1 (by simpa using h))⟩
          · intro d a2 w2 hd hm ⟨u46, u47, u48, u49, u50, u45, u51, u52, u53, u11, u12, u13, e, HB, f0, f1, f2, f3, f4, f5, f6, f7, f8, f13, f9, f10, n01, t0, t1⟩ K hK
            subst e
            simp only [Act.put, List.setIfInBounds_toArray, List.set_cons_zero, List.set_cons_succ]
            obtain ⟨V4, U4, rfl, I4, J4⟩ := f4 (hm ⟨4, .data⟩ (by simp) rfl)
            go_simp
            exact hK.out _ _ ⟨u46, u47, u48, u49, .tuple #[V4, U4, .int .i64 (0)], .tuple #[V4, U4, .int .i64 (0)], u51, u52, u53, u11, u12, u13, (by simp only [Act.put, List.setIfInBounds_toArray, List.set_cons_zero, List.set_cons_succ]), HB, (fun h => f0 (by simpa using h)), (fun h => f1 (by simpa using h)), (fun h => (f2 (by simpa using h))), (fun h => f3 (by simpa using h)), (fun h => (f4 (by simpa using h))), (fun _ => ⟨V4, U4, rfl, I4, J4⟩), (fun h => (f6 (by simpa using h))), (fun h => (f7 (by simpa using h))), (fun h => f8 (by simpa using h)), (fun h => f13 (by simpa using h)), (fun h => by simpa using (f9 (by simpa using h))), (fun h => by simpa using (f10 (by simpa using h))), (fun h h' => n01 (by simpa using h) (by simpa using h')), (fun h => by simpa using t0 (by simpa using h)), (fun h => by simpa using t1 (by simpa using h))⟩
          · intro d a2 w2 hd hm ⟨u46, u47, u48, u49, u50, u45, u51, u52, u53, u11, u12, u13, e, HB, f0, f1, f2, f3, f4, f5, f6, f7, f8, f13, f9, f10, n01, t0, t1⟩ K hK
            subst e
            simp only [Act.put, List.setIfInBounds_toArray, List.set_cons_zero, List.set_cons_succ]
            obtain ⟨V5, U5, rfl, I5, J5⟩ := f5 (hm ⟨5, .data⟩ (by simp) rfl)
            go_simp
            exact hK.out _ _ ⟨u46, u47, u48, u49, u50, .tuple #[V5, U5, .int .i64 (0)], V5, u52, u53, u11, u12, u13, (by simp only [Act.put, List.setIfInBounds_toArray, List.set_cons_zero, List.set_cons_succ]), HB, (fun h => f0 (by simpa using h)), (fun h => f1 (by simpa using h)), (fun h => (f2 (by simpa using h))), (fun h => f3 (by simpa using h)), (fun h => (f4 (by simpa using h))), (fun h => (f5 (by simpa using h))), (fun _ => I5), (fun h => (f7 (by simpa using h))), (fun h => f8 (by simpa using h)), (fun h => f13 (by simpa using h)), (fun h => by simpa using (f9 (by simpa using h))), (fun h => by simpa using (f10 (by simpa using h))), (fun h h' => n01 (by simpa using h) (by simpa using h')), (fun h => by simpa using t0 (by simpa using h)), (fun h => by simpa using t1 (by simpa using h))⟩
          · intro d a2 w2 hd hm ⟨u46, u47, u48, u49, u50, u45, u51, u52, u53, u11, u12, u13, e, HB, f0, f1, f2, f3, f4, f5, f6, f7, f8, f13, f9, f10, n01, t0, t1⟩ K hK
            subst e
            simp only [Act.put, List.setIfInBounds_toArray, List.set_cons_zero, List.set_cons_succ]
            obtain ⟨V5, U5, rfl, I5, J5⟩ := f5 (hm ⟨5, .data⟩ (by simp) rfl)
            go_simp
            exact hK.out _ _ ⟨u46, u47, u48, u49, u50, .tuple #[V5, U5, .int .i64 (0)], u51, U5, u53, u11, u12, u13, (by simp only [Act.put, List.setIfInBounds_toArray, List.set_cons_zero, List.set_cons_succ]), HB, (fun h => f0 (by simpa using h)), (fun h => f1 (by simpa using h)), (fun h => (f2 (by simpa using h))), (fun h => f3 (by simpa using h)), (fun h => (f4 (by simpa using h))), (fun h => (f5 (by simpa using h))), (fun h => (f6 (by simpa using h))), (fun _ => J5), (fun h => f8 (by simpa using h)), (fun h => f13 (by simpa using h)), (fun h => by simpa using (f9 (by simpa using h))), (fun h => by simpa using (f10 (by simpa using h))), (fun h h' => n01 (by simpa using h) (by simpa using h')), (fun h => by simpa using t0 (by simpa using h)), (fun h => by simpa using t1 (by simpa using h))⟩
          · intro d a2 w2 hd hm ⟨u46, u47, u48, u49, u50, u45, u51, u52, u53, u11, u12, u13, e, HB, f0, f1, f2, f3, f4, f5, f6, f7, f8, f13, f9, f10, n01, t0, t1⟩ K hK
            subst e
            simp only [Act.put, List.setIfInBounds_toArray, List.set_cons_zero, List.set_cons_succ]
            obtain ⟨V5, U5, rfl, I5, J5⟩ := f5 (hm ⟨5, .data⟩ (by simp) rfl)
            go_simp
            exact hK.out _ _ ⟨u46, u47, u48, u49, u50, .tuple #[V5, U5, .int .i64 (0)], u51, u52, .int .i64 (0), u11, u12, u13, (by simp only [Act.put, List.setIfInBounds_toArray, List.set_cons_zero, List.set_cons_succ]), HB, (fun h => f0 (by simpa using h)), (fun h => f1 (by simpa using h)), (fun h => (f2 (by simpa using h))), (fun h => f3 (by simpa using h)), (fun h => (f4 (by simpa using h))), (fun h => (f5 (by simpa using h))), (fun h => (f6 (by simpa using h))), (fun h => (f7 (by simpa using h))), (fun _ => rfl), (fun h => f13 (by simpa using h)), (fun h => by simpa using (f9 (by simpa using h))), (fun h => by simpa using (f10 (by simpa using h))), (fun h h' => n01 (by simpa using h) (by simpa using h')), (fun h => by simpa using t0 (by simpa using h)), (fun h => by simpa using t1 (by simpa using h))⟩
          · intro d a2 w2 hd hm ⟨u46, u47, u48, u49, u50, u45, u51, u52, u53, u11, u12, u13, e, HB, f0, f1, f2, f3, f4, f5, f6, f7, f8, f13, f9, f10, n01, t0, t1⟩ K hK
            subst e
            simp only [Act.put, List.setIfInBounds_toArray, List.set_cons_zero, List.set_cons_succ]
            have hb : Below w2.heap.size w2 (w2.alloc (.cells #[.bool false, .slice none 0 0] 28)) := (Below.refl _ _).alloc (Nat.le_refl _) _
            have HB3 := HB.trans (hb.mono HB.size)
            go_simp
            exact hK.out _ _ ⟨u46, u47, u48, u49, u50, u45, u51, u52, u53, .pointer (some ⟨w2.heap.size, 0, none⟩), u12, u13, (by simp only [Act.put, List.setIfInBounds_toArray, List.set_cons_zero, List.set_cons_succ]), HB3, (fun h => f0 (by simpa using h)), (fun h => f1 (by simpa using h)), (fun h => (f2 (by simpa using h)).below hb), (fun h => f3 (by simpa using h)), (fun h => (f4 (by simpa using h)).below hb), (fun h => (f5 (by simpa using h)).below hb), (fun h => (f6 (by simpa using h)).below hb), (fun h => (f7 (by simpa using h)).below hb), (fun h => f8 (by simpa using h)), (fun h => f13 (by simpa using h)), (fun _ => by have hs : d 11 = false := (by cases hq : d 11 with | false => rfl | true => (have hz := t0 hq; rw [hd] at hz; cases hz)); simpa [hs] using OwnP.new HB.size (a * b / b)), (fun h => by simpa using (f10 (by simpa using h)).below hb), (fun _ h' => ((f10 (by simpa using h')).lt).symm), (fun _ => by simp), (fun h => by simpa using t1 (by simpa using h))⟩
          · intro d a2 w2 hd hm ⟨u46, u47, u48, u49, u50, u45, u51, u52, u53, u11, u12, u13, e, HB, f0, f1, f2, f3, f4, f5, f6, f7, f8, f13, f9, f10, n01, t0, t1⟩ K hK
            subst e
            simp only [Act.put, List.setIfInBounds_toArray, List.set_cons_zero, List.set_cons_succ]
            have hb : Below w2.heap.size w2 (w2.alloc (.cells #[.bool false, .slice none 0 0] 28)) := (Below.refl _ _).alloc (Nat.le_refl _) _
            have HB3 := HB.trans (hb.mono HB.size)
            go_simp
            exact hK.out _ _ ⟨u46, u47, u48, u49, u50, u45, u51, u52, u53, u11, .pointer (some ⟨w2.heap.size, 0, none⟩), u13, (by simp only [Act.put, List.setIfInBounds_toArray, List.set_cons_zero, List.set_cons_succ]), HB3, (fun h => f0 (by simpa using h)), (fun h => f1 (by simpa using h)), (fun h => (f2 (by simpa using h)).below hb), (fun h => f3 (by simpa using h)), (fun h => (f4 (by simpa using h)).below hb), (fun h => (f5 (by simpa using h)).below hb), (fun h => (f6 (by simpa using h)).below hb), (fun h => (f7 (by simpa using h)).below hb), (fun h => f8 (by simpa using h)), (fun h => f13 (by simpa using h)), (fun h => by simpa using (f9 (by simpa using h)).below hb), (fun _ => by have hs : d 12 = false := (by cases hq : d 12 with | false => rfl | true => (have hz := t1 hq; rw [hd] at hz; cases hz)); simpa [hs] using OwnP.new HB.size (a * b % b)), (fun h _ => (f9 (by simpa using h)).lt), (fun h => by simpa using t0 (by simpa using h)), (fun _ => by simp)⟩
          · intro d a2 w2 hd hm ⟨u46, u47, u48, u49, u50, u45, u51, u52, u53, u11, u12, u13, e, HB, f0, f1, f2, f3, f4, f5, f6, f7, f8, f13, f9, f10, n01, t0, t1⟩ K hK
            subst e
            simp only [Act.put, List.setIfInBounds_toArray, List.set_cons_zero, List.set_cons_succ]
            obtain ⟨gg, AA, nn, cc, rfl, hi⟩ := f6 (hm ⟨6, .data⟩ (by simp) rfl)
            obtain ⟨g, rfl, hg, b0, b1, hs, n0, n1, _⟩ := f9 (hm ⟨9, .data⟩ (by simp) rfl)
            obtain ⟨k0, k1, k2, k3, k4⟩ := id hs
            go_simp
            exact hK.out _ _ ⟨u46, u47, u48, u49, u50, u45, .agg #[.bool gg, .slice AA nn cc], u52, u53, .pointer (some ⟨g, 0, none⟩), u12, u13, (by simp only [Act.put, List.setIfInBounds_toArray, List.set_cons_zero, List.set_cons_succ]), Below.set2 HB hg _ _, (fun h => f0 (by simpa using h)), (fun h => f1 (by simpa using h)), (fun h => (f2 (by simpa using h)).set2 hs n0 n1 _ _), (fun h => f3 (by simpa using h)), (fun h => (f4 (by simpa using h)).set2 hs n0 n1 _ _), (fun h => (f5 (by simpa using h)).set2 hs n0 n1 _ _), (fun h => (f6 (by simpa using h)).set2 hs n0 n1 _ _), (fun h => (f7 (by simpa using h)).set2 hs n0 n1 _ _), (fun h => f8 (by simpa using h)), (fun h => f13 (by simpa using h)), (fun _ => by simpa using OwnP.near hi hg hs n0 n1), (fun h => by simpa using (f10 (by simpa using h)).far ((n01 (hm ⟨9, .data⟩ (by simp) rfl) (by simpa using h)).symm) hs n0 n1 _ _), (fun h h' => n01 (by simpa using h) (by simpa using h')), (fun _ => by simpa using hm ⟨9, .data⟩ (by simp) rfl), (fun h => by simpa using t1 (by simpa using h))⟩
          · intro d a2 w2 hd hm ⟨u46, u47, u48, u49, u50, u45, u51, u52, u53, u11, u12, u13, e, HB, f0, f1, f2, f3, f4, f5, f6, f7, f8, f13, f9, f10, n01, t0, t1⟩ K hK
            subst e
            simp only [Act.put, List.setIfInBounds_toArray, List.set_cons_zero, List.set_cons_succ]
            obtain ⟨gg, AA, nn, cc, rfl, hi⟩ := f7 (hm ⟨7, .data⟩ (by simp) rfl)
            obtain ⟨g, rfl, hg, b0, b1, hs, n0, n1, _⟩ := f10 (hm ⟨10, .data⟩ (by simp) rfl)
            obtain ⟨k0, k1, k2, k3, k4⟩ := id hs
            go_simp
            exact hK.out _ _ ⟨u46, u47, u48, u49, u50, u45, u51, .agg #[.bool gg, .slice AA nn cc], u53, u11, .pointer (some ⟨g, 0, none⟩), u13, (by simp only [Act.put, List.setIfInBounds_toArray, List.set_cons_zero, List.set_cons_succ]), Below.set2 HB hg _ _, (fun h => f0 (by simpa using h)), (fun h => f1 (by simpa using h)), (fun h => (f2 (by simpa using h)).set2 hs n0 n1 _ _), (fun h => f3 (by simpa using h)), (fun h => (f4 (by simpa using h)).set2 hs n0 n1 _ _), (fun h => (f5 (by simpa using h)).set2 hs n0 n1 _ _), (fun h => (f6 (by simpa using h)).set2 hs n0 n1 _ _), (fun h => (f7 (by simpa using h)).set2 hs n0 n1 _ _), (fun h => f8 (by simpa using h)), (fun h => f13 (by simpa using h)), (fun h => by simpa using (f9 (by simpa using h)).far (n01 (by simpa using h) (hm ⟨10, .data⟩ (by simp) rfl)) hs n0 n1 _ _), (fun _ => by simpa using OwnP.near hi hg hs n0 n1), (fun h h' => n01 (by simpa using h) (by simpa using h')), (fun h => by simpa using t0 (by simpa using h)), (fun _ => by simpa using hm ⟨10, .data⟩ (by simp) rfl)⟩
          · intro d a2 w2 hd hm ⟨u46, u47, u48, u49, u50, u45, u51, u52, u53, u11, u12, u13, e, HB, f0, f1, f2, f3, f4, f5, f6, f7, f8, f13, f9, f10, n01, t0, t1⟩ K hK
            subst e
            simp only [Act.put, List.setIfInBounds_toArray, List.set_cons_zero, List.set_cons_succ]
            obtain rfl := f8 (hm ⟨8, .data⟩ (by simp) rfl)
            clear f8
            go_simp
            exact hK.out _ _ ⟨u46, u47, u48, u49, u50, u45, u51, u52, .int .i64 (0), u11, u12, .int .i64 (0), (by simp only [Act.put, List.setIfInBounds_toArray, List.set_cons_zero, List.set_cons_succ]), HB, (fun h => f0 (by simpa using h)), (fun h => f1 (by simpa using h)), (fun h => (f2 (by simpa using h))), (fun h => f3 (by simpa using h)), (fun h => (f4 (by simpa using h))), (fun h => (f5 (by simpa using h))), (fun h => (f6 (by simpa using h))), (fun h => (f7 (by simpa using h))), (fun _ => rfl), (fun _ => rfl), (fun h => by simpa using (f9 (by simpa using h))), (fun h => by simpa using (f10 (by simpa using h))), (fun h h' => n01 (by simpa using h) (by simpa using h')), (fun h => by simpa using t0 (by simpa using h)), (fun h => by simpa using t1 (by simpa using h))⟩
        · intro d a2 w2 hall ⟨u46, u47, u48, u49, u50, u45, u51, u52, u53, u11, u12, u13, e, HB, f0, f1, f2, f3, f4, f5, f6, f7, f8, f13, f9, f10, n01, t0, t1⟩
          subst e
          simp only [Act.put, List.setIfInBounds_toArray, List.set_cons_zero, List.set_cons_succ]
          obtain rfl := f0 (hall _ (by decide))
          obtain rfl := f1 (hall _ (by decide))
          obtain rfl := f3 (hall _ (by decide))
          obtain rfl := f8 (hall _ (by decide))
          obtain rfl := f13 (hall _ (by decide))
          obtain ⟨g0, rfl, h0, b0⟩ := OwnP.intAtB (by have := f9 (hall _ (by decide)); rwa [hall 11 (by decide)] at this)
          obtain ⟨g1, rfl, h1, b1⟩ := OwnP.intAtB (by have := f10 (hall _ (by decide)); rwa [hall 12 (by decide)] at this)
          go_wp2_with fail
          go_meet
          exact ⟨g0, g1, rfl, rfl, rfl, Bag.cons h0 (Bag.cons h1 (bag_nil _)), HB⟩
    case rest =>
    obtain ⟨bp, bs, rfl, rfl, rfl, BP6, D6⟩ := hcut
    have BG6 := BG5.after D6
    have BQ6 := BQ5.after D6
    have B6 := B5.trans (D6.mono B5.size)
    clear BG5 BQ5 B5 D6
    have hm0 := Int.emod_nonneg a HZ.out
    have hml := Int.emod_lt a HZ.out
    have E1 : 0 ≤ sgn (a % b) := by unfold sgn; split <;> (try split) <;> omega
    have E2 : cmpN (a % b) ((b.natAbs : Nat) : Int) = -1 := cmpN_lt hml
    have E3 : a / b * b + a % b = a := by rw [Int.mul_comm]; exact Int.mul_ediv_add_emod a b
    have E4 : a * b / b = a := Int.mul_ediv_cancel a HZ.out
    have E5 : sgn (a * b % b) = 0 := sgn_zero (Int.mul_emod_left a b)
    have Zq : Sz 13 (a / b) := Sz.div Za (by decide)
    have Zr : Sz 12 (a % b) := Sz.mod Zb HZ.out
    have HE1 := Lib.hid E1
    have HE2 := Lib.hid E2
    have HE3 := Lib.hid E3
    have HE4 := Lib.hid E4
    have HE5 := Lib.hid E5
    clear hm0 hml E1 E2 E3 E4 E5
    go_wp2_with fail
    obtain ⟨W6, rfl⟩ : ∃ x : World, x = wc := ⟨_, rfl⟩
    go_cut [14] (fun p14 wx => p14 = .bool true ∧ Below W6.heap.size W6 wx)
    case first =>
      refine div_r7 (BG6 (bb, b) (by simp)) (BQ6 (bq, a / b) (by simp)) (BQ6 (bq + 1, a % b) (by simp)) Zb Zr (Lib.hid rfl) HE1.out HE2 ?_
      intros
      go_wp2_with fail
      go_meet
      exact ⟨rfl, by assumption⟩
    case rest =>
    obtain ⟨rfl, D7⟩ := hcut
    have BG7 := BG6.after D7
    have BQ7 := BQ6.after D7
    have BP7 := BP6.after D7
    have B7 := B6.trans (D7.mono B6.size)
    clear BG6 BQ6 BP6 B6 D7
    go_wp2_with fail
    obtain ⟨W7, rfl⟩ : ∃ x : World, x = wc := ⟨_, rfl⟩
    go_cut [4] (fun p4 wx => p4 = .bool true ∧ Below W7.heap.size W7 wx)
    case first =>
      refine div_r8 (BG7 (ba, a) (by simp)) (BG7 (bb, b) (by simp)) (BQ7 (bq, a / b) (by simp)) (BQ7 (bq + 1, a % b) (by simp)) (BP7 (bp, a * b / b) (by simp)) (BP7 (bs, a * b % b) (by simp)) Zb Zq Zr HE3 HE4 HE5 ?_
      intros
      go_wp2_with fail
      go_meet
      exact ⟨rfl, by assumption⟩
    case rest =>
    obtain ⟨rfl, D8⟩ := hcut
    have B8 := B7.trans (D8.mono B7.size)
    go_wp2_with fail
    go_ret
    exact ⟨rfl, B8⟩
end Go.Proofs.YtdknibhaacbkpaaDoor
