/- The walk of the law CrtRecovers, given what its fixed examples return. -/
import Derived.Test.YtclmenpclkmfeaaDoorVCrtOf
import Derived.Test.YtclmenpclkmfeaaDoorVCrtRc
import Derived.Deep.DeepCutAuto
namespace Go.Proofs.YtclmenpclkmfeaaDoor
open Go.RowKit Go.Maps
set_option maxRecDepth 1000000 in
set_option maxHeartbeats 8000000 in
theorem law_crec (HSan : SanC) (A0 : Option Addr) (n0 c0 : Nat) (A1 A2 : Option Addr) (n1 c1 n2 c2 : Nat) (s1 s2 : Bool) (xs ys : List Nat) (w : World) (hr : RawsL w A0 n0) (ha : Lim w w.heap.size A1 n1 c1 xs) (hb : Lim w w.heap.size A2 n2 c2 ys) (hT : TabW w) (h5 : TabN w.heap.size) :
    Calls Tryd.prog 5 #[.slice A0 n0 c0, .agg #[.slice A1 n1 c1, .bool s1], .agg #[.slice A2 n2 c2, .bool s2]] w fun e w' => e = .returned (.bool true) ∧ Below w.heap.size w w' := by
  have a1 := (Below.refl w.heap.size w).alloc (Nat.le_refl _) (.cells #[.slice A1 n1 c1, .bool s1] 45)
  have B0 := a1.alloc a1.size (.cells #[.slice A2 n2 c2, .bool s2] 45)
  have X0 := (Slot2.new w (.slice A1 n1 c1) (.bool s1) 45).alloc (.cells #[.slice A2 n2 c2, .bool s2] 45)
  have Y0 := Slot2.new (w.alloc (.cells #[.slice A1 n1 c1, .bool s1] 45)) (.slice A2 n2 c2) (.bool s2) 45
  simp only [World.size_alloc] at Y0
  obtain ⟨a, hae⟩ : ∃ a, zOf s1 (val (xs.take 8)) = a := ⟨_, rfl⟩
  obtain ⟨b, hbe⟩ : ∃ b, zOf s2 (val (ys.take 8)) = b := ⟨_, rfl⟩
  have Za : Sz 8 a := by rw [← hae]; exact Sz.raw s1 xs 8 ha.lt (by decide)
  have Zb : Sz 8 b := by rw [← hbe]; exact Sz.raw s2 ys 8 hb.lt (by decide)
  have HM1 : Hid (∀ V, Below w.heap.size w V → Calls Tryd.prog 21 #[.agg #[.slice A1 n1 c1, .bool s1], .int .i64 8] V (RetInt V a)) := fun V hV => by
    have := num_z A1 n1 c1 s1 xs 8 V ((ha.below hV).more hV.size) (by decide)
    rw [hae] at this; exact this
  have HM2 : Hid (∀ V, Below w.heap.size w V → Calls Tryd.prog 21 #[.agg #[.slice A2 n2 c2, .bool s2], .int .i64 8] V (RetInt V b)) := fun V hV => by
    have := num_z A2 n2 c2 s2 ys 8 V ((hb.below hV).more hV.size) (by decide)
    rw [hbe] at this; exact this
  have HMd : Hid (∀ V, Below w.heap.size w V → Calls Tryd.prog 11 #[.slice A0 n0 c0, .int .i64 10] V (RetMd V 10)) := fun V hV => rmade_z A0 n0 c0 10 V (hr.below hV) (by decide)
  have HSn := Lib.hid (HSan _ (hT.below B0 h5) (h5.le B0.size))
  clear HSan ha hb hr a1 hae hbe
  go_enter Tryd.func5, Tryd.ntmps5
  generalize hW : (w.alloc (.cells #[.slice A1 n1 c1, .bool s1] 45)).alloc (.cells #[.slice A2 n2 c2, .bool s2] 45) = W0 at *
  go_wp2_with fail
  try rw [hW]
  clear hW
  (with_reducible refine HSn.out.mono ?_)
  rintro e w1 ⟨rfl, b1⟩
  clear HSn
  replace X0 := X0.after b1
  replace Y0 := Y0.after b1
  replace B0 := B0.trans (b1.mono B0.size)
  clear b1
  go_upto_region 2 with (fail)
  have HX : Hid (∀ V, Below w1.heap.size w1 V → (V.cell? ⟨w.heap.size, 0, none⟩ = some (.slice A1 n1 c1) ∧ V.cell? ⟨w.heap.size, 1, none⟩ = some (.bool s1)) ∧ V.cell? ⟨w.heap.size + 1, 0, none⟩ = some (.slice A2 n2 c2) ∧ V.cell? ⟨w.heap.size + 1, 1, none⟩ = some (.bool s2)) := fun V hV => ⟨⟨(X0.after hV).1, (X0.after hV).2.1⟩, (Y0.after hV).1, (Y0.after hV).2.1⟩
  go_cut [8, 9, 10] (fun p8 p9 p10 wx => ∃ g9 g10, p9 = .pointer (some ⟨g9, 0, none⟩) ∧ p10 = .pointer (some ⟨g10, 0, none⟩) ∧ IntAt wx g9 a ∧ IntAt wx g10 b ∧ MadeV w1.heap.size 10 wx p8 ∧ Below w1.heap.size w1 wx)
  case first =>
    as_aux_lemma =>
      refine wp_region_ev (fun d a0 a' w' => ∃ u21 u22 u23 u24 u25 u26 u9 u10 u8 : Value, a' = (((((((((a0.put (some 21) u21).put (some 22) u22).put (some 23) u23).put (some 24) u24).put (some 25) u25).put (some 26) u26).put (some 9) u9).put (some 10) u10).put (some 8) u8) ∧ Below w1.heap.size w1 w' ∧ (d 0 = true → u21 = .slice A0 n0 c0) ∧ (d 1 = true → MadeV w1.heap.size 10 w' u22) ∧ (d 2 = true → u23 = .agg #[.slice A1 n1 c1, .bool s1]) ∧ (d 3 = true → IntV w' u24 (a)) ∧ (d 4 = true → u25 = .agg #[.slice A2 n2 c2, .bool s2]) ∧ (d 5 = true → IntV w' u26 (b)) ∧ (d 8 = true → u8 = u22) ∧ (d 8 = true → d 1 = true) ∧ (d 6 = true → OwnP w1.heap.size w' u9 (d 9) (a)) ∧ (d 7 = true → OwnP w1.heap.size w' u10 (d 10) (b)) ∧ (d 6 = true → d 7 = true → u9 ≠ u10) ∧ (d 1 = true → d 6 = true → FarV u22 u9) ∧ (d 1 = true → d 7 = true → FarV u22 u10) ∧ (d 9 = true → d 6 = true) ∧ (d 10 = true → d 7 = true)) (by kernel_rfl) (by kernel_rfl) ?_ ?_ ?_ ?_
      · intro d d' h a' w' hh
        obtain rfl : d = d' := funext h
        exact hh
      · exact ⟨_, _, _, _, _, _, _, _, _, (by simp only [Act.put, List.setIfInBounds_toArray, List.set_cons_zero, List.set_cons_succ]; rfl), (Below.refl _ _).drew, (fun h => by cases h), (fun h => by cases h), (fun h => by cases h), (fun h => by cases h), (fun h => by cases h), (fun h => by cases h), (fun h => by cases h), (fun h => by cases h), (fun h => by cases h), (fun h => by cases h), (fun h => by cases h), (fun h => by cases h), (fun h => by cases h), (fun h => by cases h), (fun h => by cases h)⟩
      · refine ⟨?_, ?_, ?_, ?_, ?_, ?_, ?_, ?_, ?_, ?_, ?_, trivial⟩
        · intro d a2 w2 hd hm ⟨u21, u22, u23, u24, u25, u26, u9, u10, u8, e, HB, f0, f1, f2, f3, f4, f5, f8, o8, f6, f7, n01, m6, m7, t0, t1⟩ K hK
          subst e
          simp only [Act.put, List.setIfInBounds_toArray, List.set_cons_zero, List.set_cons_succ]
          go_simp
          exact hK.out _ _ ⟨.slice A0 n0 c0, u22, u23, u24, u25, u26, u9, u10, u8, (by simp only [Act.put, List.setIfInBounds_toArray, List.set_cons_zero, List.set_cons_succ]), HB, (fun _ => rfl), (fun h => (f1 (by simpa using h))), (fun h => f2 (by simpa using h)), (fun h => (f3 (by simpa using h))), (fun h => f4 (by simpa using h)), (fun h => (f5 (by simpa using h))), (fun h => f8 (by simpa using h)), (fun h => by simpa using o8 (by simpa using h)), (fun h => by simpa using (f6 (by simpa using h))), (fun h => by simpa using (f7 (by simpa using h))), (fun h h' => n01 (by simpa using h) (by simpa using h')), (fun h h' => m6 (by simpa using h) (by simpa using h')), (fun h h' => m7 (by simpa using h) (by simpa using h')), (fun h => by simpa using t0 (by simpa using h)), (fun h => by simpa using t1 (by simpa using h))⟩
        · intro d a2 w2 hd hm ⟨u21, u22, u23, u24, u25, u26, u9, u10, u8, e, HB, f0, f1, f2, f3, f4, f5, f8, o8, f6, f7, n01, m6, m7, t0, t1⟩ K hK
          subst e
          simp only [Act.put, List.setIfInBounds_toArray, List.set_cons_zero, List.set_cons_succ]
          obtain rfl := f0 (hm ⟨0, .data⟩ (by simp) rfl)
          clear f0
          go_simp
          (with_reducible refine (HMd.out _ (B0.trans ((HB).mono B0.size))).mono ?_)
          rintro e w3 ⟨g', n', c', L', rfl, hO, hn, hb, hL⟩
          have HB3 := HB.trans (hb.mono HB.size)
          go_wp2_with fail
          exact hK.out _ _ ⟨.slice A0 n0 c0, .slice (some ⟨g', 0, none⟩) n' c', u23, u24, u25, u26, u9, u10, u8, (by simp only [Act.put, List.setIfInBounds_toArray, List.set_cons_zero, List.set_cons_succ]), HB3, (fun _ => rfl), (fun _ => ⟨g', n', c', L', rfl, hO.mono HB.size, hn, hL⟩), (fun h => f2 (by simpa using h)), (fun h => (f3 (by simpa using h)).below hb), (fun h => f4 (by simpa using h)), (fun h => (f5 (by simpa using h)).below hb), (fun h => by have hz := o8 (by simpa using h); rw [hd] at hz; cases hz), (fun _ => by simp), (fun h => by simpa using (f6 (by simpa using h)).below hb), (fun h => by simpa using (f7 (by simpa using h)).below hb), (fun h h' => n01 (by simpa using h) (by simpa using h')), (fun _ h' => FarV.new hO (f6 (by simpa using h'))), (fun _ h' => FarV.new hO (f7 (by simpa using h'))), (fun h => by simpa using t0 (by simpa using h)), (fun h => by simpa using t1 (by simpa using h))⟩
        · intro d a2 w2 hd hm ⟨u21, u22, u23, u24, u25, u26, u9, u10, u8, e, HB, f0, f1, f2, f3, f4, f5, f8, o8, f6, f7, n01, m6, m7, t0, t1⟩ K hK
          subst e
          simp only [Act.put, List.setIfInBounds_toArray, List.set_cons_zero, List.set_cons_succ]
          obtain ⟨⟨q0, q1⟩, q2, q3⟩ := HX.out w2 HB
          go_simp
          exact hK.out _ _ ⟨u21, u22, .agg #[.slice A1 n1 c1, .bool s1], u24, u25, u26, u9, u10, u8, (by simp only [Act.put, List.setIfInBounds_toArray, List.set_cons_zero, List.set_cons_succ]), HB, (fun h => f0 (by simpa using h)), (fun h => (f1 (by simpa using h))), (fun _ => rfl), (fun h => (f3 (by simpa using h))), (fun h => f4 (by simpa using h)), (fun h => (f5 (by simpa using h))), (fun h => f8 (by simpa using h)), (fun h => by simpa using o8 (by simpa using h)), (fun h => by simpa using (f6 (by simpa using h))), (fun h => by simpa using (f7 (by simpa using h))), (fun h h' => n01 (by simpa using h) (by simpa using h')), (fun h h' => m6 (by simpa using h) (by simpa using h')), (fun h h' => m7 (by simpa using h) (by simpa using h')), (fun h => by simpa using t0 (by simpa using h)), (fun h => by simpa using t1 (by simpa using h))⟩
        · intro d a2 w2 hd hm ⟨u21, u22, u23, u24, u25, u26, u9, u10, u8, e, HB, f0, f1, f2, f3, f4, f5, f8, o8, f6, f7, n01, m6, m7, t0, t1⟩ K hK
          subst e
          simp only [Act.put, List.setIfInBounds_toArray, List.set_cons_zero, List.set_cons_succ]
          obtain rfl := f2 (hm ⟨2, .data⟩ (by simp) rfl)
          clear f2
          go_simp
          (with_reducible refine (HM1.out _ (B0.trans ((HB).mono B0.size))).mono ?_)
          rintro e w3 ⟨gg, AA, nn, cc, rfl, hi, hb⟩
          have HB3 := HB.trans (hb.mono HB.size)
          go_wp2_with fail
          exact hK.out _ _ ⟨u21, u22, .agg #[.slice A1 n1 c1, .bool s1], .agg #[.bool gg, .slice AA nn cc], u25, u26, u9, u10, u8, (by simp only [Act.put, List.setIfInBounds_toArray, List.set_cons_zero, List.set_cons_succ]), HB3, (fun h => f0 (by simpa using h)), (fun h => (f1 (by simpa using h)).below hb), (fun _ => rfl), (fun _ => ⟨_, _, _, _, rfl, hi⟩), (fun h => f4 (by simpa using h)), (fun h => (f5 (by simpa using h)).below hb), (fun h => f8 (by simpa using h)), (fun h => by simpa using o8 (by simpa using h)), (fun h => by simpa using (f6 (by simpa using h)).below hb), (fun h => by simpa using (f7 (by simpa using h)).below hb), (fun h h' => n01 (by simpa using h) (by simpa using h')), (fun h h' => m6 (by simpa using h) (by simpa using h')), (fun h h' => m7 (by simpa using h) (by simpa using h')), (fun h => by simpa using t0 (by simpa using h)), (fun h => by simpa using t1 (by simpa using h))⟩
        · intro d a2 w2 hd hm ⟨u21, u22, u23, u24, u25, u26, u9, u10, u8, e, HB, f0, f1, f2, f3, f4, f5, f8, o8, f6, f7, n01, m6, m7, t0, t1⟩ K hK
          subst e
          simp only [Act.put, List.setIfInBounds_toArray, List.set_cons_zero, List.set_cons_succ]
          obtain ⟨⟨q0, q1⟩, q2, q3⟩ := HX.out w2 HB
          go_simp
          exact hK.out _ _ ⟨u21, u22, u23, u24, .agg #[.slice A2 n2 c2, .bool s2], u26, u9, u10, u8, (by simp only [Act.put, List.setIfInBounds_toArray, List.set_cons_zero, List.set_cons_succ]), HB, (fun h => f0 (by simpa using h)), (fun h => (f1 (by simpa using h))), (fun h => f2 (by simpa using h)), (fun h => (f3 (by simpa using h))), (fun _ => rfl), (fun h => (f5 (by simpa using h))), (fun h => f8 (by simpa using h)), (fun h => by simpa using o8 (by simpa using h)), (fun h => by simpa using (f6 (by simpa using h))), (fun h => by simpa using (f7 (by simpa using h))), (fun h h' => n01 (by simpa using h) (by simpa using h')), (fun h h' => m6 (by simpa using h) (by simpa using h')), (fun h h' => m7 (by simpa using h) (by simpa using h')), (fun h => by simpa using t0 (by simpa using h)), (fun h => by simpa using t1 (by simpa using h))⟩
        · intro d a2 w2 hd hm ⟨u21, u22, u23, u24, u25, u26, u9, u10, u8, e, HB, f0, f1, f2, f3, f4, f5, f8, o8, f6, f7, n01, m6, m7, t0, t1⟩ K hK
          subst e
          simp only [Act.put, List.setIfInBounds_toArray, List.set_cons_zero, List.set_cons_succ]
          obtain rfl := f4 (hm ⟨4, .data⟩ (by simp) rfl)
          clear f4
          go_simp
          (with_reducible refine (HM2.out _ (B0.trans ((HB).mono B0.size))).mono ?_)
          rintro e w3 ⟨gg, AA, nn, cc, rfl, hi, hb⟩
          have HB3 := HB.trans (hb.mono HB.size)
          go_wp2_with fail
          exact hK.out _ _ ⟨u21, u22, u23, u24, .agg #[.slice A2 n2 c2, .bool s2], .agg #[.bool gg, .slice AA nn cc], u9, u10, u8, (by simp only [Act.put, List.setIfInBounds_toArray, List.set_cons_zero, List.set_cons_succ]), HB3, (fun h => f0 (by simpa using h)), (fun h => (f1 (by simpa using h)).below hb), (fun h => f2 (by simpa using h)), (fun h => (f3 (by simpa using h)).below hb), (fun _ => rfl), (fun _ => ⟨_, _, _, _, rfl, hi⟩), (fun h => f8 (by simpa using h)), (fun h => by simpa using o8 (by simpa using h)), (fun h => by simpa using (f6 (by simpa using h)).below hb), (fun h => by simpa using (f7 (by simpa using h)).below hb), (fun h h' => n01 (by simpa using h) (by simpa using h')), (fun h h' => m6 (by simpa using h) (by simpa using h')), (fun h h' => m7 (by simpa using h) (by simpa using h')), (fun h => by simpa using t0 (by simpa using h)), (fun h => by simpa using t1 (by simpa using h))⟩
        · intro d a2 w2 hd hm ⟨u21, u22, u23, u24, u25, u26, u9, u10, u8, e, HB, f0, f1, f2, f3, f4, f5, f8, o8, f6, f7, n01, m6, m7, t0, t1⟩ K hK
          subst e
          simp only [Act.put, List.setIfInBounds_toArray, List.set_cons_zero, List.set_cons_succ]
          have hb : Below w2.heap.size w2 (w2.alloc (.cells #[.bool false, .slice none 0 0] 28)) := (Below.refl _ _).alloc (Nat.le_refl _) _
          have HB3 := HB.trans (hb.mono HB.size)
          go_simp
          exact hK.out _ _ ⟨u21, u22, u23, u24, u25, u26, .pointer (some ⟨w2.heap.size, 0, none⟩), u10, u8, (by simp only [Act.put, List.setIfInBounds_toArray, List.set_cons_zero, List.set_cons_succ]), HB3, (fun h => f0 (by simpa using h)), (fun h => (f1 (by simpa using h)).below hb), (fun h => f2 (by simpa using h)), (fun h => (f3 (by simpa using h)).below hb), (fun h => f4 (by simpa using h)), (fun h => (f5 (by simpa using h)).below hb), (fun h => f8 (by simpa using h)), (fun h => by simpa using o8 (by simpa using h)), (fun _ => by have hs : d 9 = false := (by cases hq : d 9 with | false => rfl | true => (have hz := t0 hq; rw [hd] at hz; cases hz)); simpa [hs] using OwnP.new HB.size (a)), (fun h => by simpa using (f7 (by simpa using h)).below hb), (fun _ h' => ((f7 (by simpa using h')).lt).symm), (fun h _ => FarV.fresh (f1 (by simpa using h))), (fun h h' => m7 (by simpa using h) (by simpa using h')), (fun _ => by simp), (fun h => by simpa using t1 (by simpa using h))⟩
        · intro d a2 w2 hd hm ⟨u21, u22, u23, u24, u25, u26, u9, u10, u8, e, HB, f0, f1, f2, f3, f4, f5, f8, o8, f6, f7, n01, m6, m7, t0, t1⟩ K hK
          subst e
          simp only [Act.put, List.setIfInBounds_toArray, List.set_cons_zero, List.set_cons_succ]
          have hb : Below w2.heap.size w2 (w2.alloc (.cells #[.bool false, .slice none 0 0] 28)) := (Below.refl _ _).alloc (Nat.le_refl _) _
          have HB3 := HB.trans (hb.mono HB.size)
          go_simp
          exact hK.out _ _ ⟨u21, u22, u23, u24, u25, u26, u9, .pointer (some ⟨w2.heap.size, 0, none⟩), u8, (by simp only [Act.put, List.setIfInBounds_toArray, List.set_cons_zero, List.set_cons_succ]), HB3, (fun h => f0 (by simpa using h)), (fun h => (f1 (by simpa using h)).below hb), (fun h => f2 (by simpa using h)), (fun h => (f3 (by simpa using h)).below hb), (fun h => f4 (by simpa using h)), (fun h => (f5 (by simpa using h)).below hb), (fun h => f8 (by simpa using h)), (fun h => by simpa using o8 (by simpa using h)), (fun h => by simpa using (f6 (by simpa using h)).below hb), (fun _ => by have hs : d 10 = false := (by cases hq : d 10 with | false => rfl | true => (have hz := t1 hq; rw [hd] at hz; cases hz)); simpa [hs] using OwnP.new HB.size (b)), (fun h _ => (f6 (by simpa using h)).lt), (fun h h' => m6 (by simpa using h) (by simpa using h')), (fun h _ => FarV.fresh (f1 (by simpa using h))), (fun h => by simpa using t0 (by simpa using h)), (fun _ => by simp)⟩
        · intro d a2 w2 hd hm ⟨u21, u22, u23, u24, u25, u26, u9, u10, u8, e, HB, f0, f1, f2, f3, f4, f5, f8, o8, f6, f7, n01, m6, m7, t0, t1⟩ K hK
          subst e
          simp only [Act.put, List.setIfInBounds_toArray, List.set_cons_zero, List.set_cons_succ]
          go_simp
          exact hK.out _ _ ⟨u21, u22, u23, u24, u25, u26, u9, u10, u22, (by simp only [Act.put, List.setIfInBounds_toArray, List.set_cons_zero, List.set_cons_succ]), HB, (fun h => f0 (by simpa using h)), (fun h => (f1 (by simpa using h))), (fun h => f2 (by simpa using h)), (fun h => (f3 (by simpa using h))), (fun h => f4 (by simpa using h)), (fun h => (f5 (by simpa using h))), (fun _ => rfl), (fun _ => by simpa using hm ⟨1, .data⟩ (by simp) rfl), (fun h => by simpa using (f6 (by simpa using h))), (fun h => by simpa using (f7 (by simpa using h))), (fun h h' => n01 (by simpa using h) (by simpa using h')), (fun h h' => m6 (by simpa using h) (by simpa using h')), (fun h h' => m7 (by simpa using h) (by simpa using h')), (fun h => by simpa using t0 (by simpa using h)), (fun h => by simpa using t1 (by simpa using h))⟩
        · intro d a2 w2 hd hm ⟨u21, u22, u23, u24, u25, u26, u9, u10, u8, e, HB, f0, f1, f2, f3, f4, f5, f8, o8, f6, f7, n01, m6, m7, t0, t1⟩ K hK
          subst e
          simp only [Act.put, List.setIfInBounds_toArray, List.set_cons_zero, List.set_cons_succ]
          obtain ⟨gg, AA, nn, cc, rfl, hi⟩ := f3 (hm ⟨3, .data⟩ (by simp) rfl)
          obtain ⟨g, rfl, hg, b0, b1, hs, n0, n1, _⟩ := f6 (hm ⟨6, .data⟩ (by simp) rfl)
          obtain ⟨k0, k1, k2, k3, k4⟩ := id hs
          go_simp
          exact hK.out _ _ ⟨u21, u22, u23, .agg #[.bool gg, .slice AA nn cc], u25, u26, .pointer (some ⟨g, 0, none⟩), u10, u8, (by simp only [Act.put, List.setIfInBounds_toArray, List.set_cons_zero, List.set_cons_succ]), Below.set2 HB hg _ _, (fun h => f0 (by simpa using h)), (fun h => (f1 (by simpa using h)).set2 hs (m6 (by simpa using h) (hm ⟨6, .data⟩ (by simp) rfl)) _ _), (fun h => f2 (by simpa using h)), (fun h => (f3 (by simpa using h)).set2 hs n0 n1 _ _), (fun h => f4 (by simpa using h)), (fun h => (f5 (by simpa using h)).set2 hs n0 n1 _ _), (fun h => f8 (by simpa using h)), (fun h => by simpa using o8 (by simpa using h)), (fun _ => by simpa using OwnP.near hi hg hs n0 n1), (fun h => by simpa using (f7 (by simpa using h)).far ((n01 (hm ⟨6, .data⟩ (by simp) rfl) (by simpa using h)).symm) hs n0 n1 _ _), (fun h h' => n01 (by simpa using h) (by simpa using h')), (fun h h' => m6 (by simpa using h) (by simpa using h')), (fun h h' => m7 (by simpa using h) (by simpa using h')), (fun _ => by simpa using hm ⟨6, .data⟩ (by simp) rfl), (fun h => by simpa using t1 (by simpa using h))⟩
        · intro d a2 w2 hd hm ⟨u21, u22, u23, u24, u25, u26, u9, u10, u8, e, HB, f0, f1, f2, f3, f4, f5, f8, o8, f6, f7, n01, m6, m7, t0, t1⟩ K hK
          subst e
          simp only [Act.put, List.setIfInBounds_toArray, List.set_cons_zero, List.set_cons_succ]
          obtain ⟨gg, AA, nn, cc, rfl, hi⟩ := f5 (hm ⟨5, .data⟩ (by simp) rfl)
          obtain ⟨g, rfl, hg, b0, b1, hs, n0, n1, _⟩ := f7 (hm ⟨7, .data⟩ (by simp) rfl)
          obtain ⟨k0, k1, k2, k3, k4⟩ := id hs
          go_simp
          exact hK.out _ _ ⟨u21, u22, u23, u24, u25, .agg #[.bool gg, .slice AA nn cc], u9, .pointer (some ⟨g, 0, none⟩), u8, (by simp only [Act.put, List.setIfInBounds_toArray, List.set_cons_zero, List.set_cons_succ]), Below.set2 HB hg _ _, (fun h => f0 (by simpa using h)), (fun h => (f1 (by simpa using h)).set2 hs (m7 (by simpa using h) (hm ⟨7, .data⟩ (by simp) rfl)) _ _), (fun h => f2 (by simpa using h)), (fun h => (f3 (by simpa using h)).set2 hs n0 n1 _ _), (fun h => f4 (by simpa using h)), (fun h => (f5 (by simpa using h)).set2 hs n0 n1 _ _), (fun h => f8 (by simpa using h)), (fun h => by simpa using o8 (by simpa using h)), (fun h => by simpa using (f6 (by simpa using h)).far (n01 (by simpa using h) (hm ⟨7, .data⟩ (by simp) rfl)) hs n0 n1 _ _), (fun _ => by simpa using OwnP.near hi hg hs n0 n1), (fun h h' => n01 (by simpa using h) (by simpa using h')), (fun h h' => m6 (by simpa using h) (by simpa using h')), (fun h h' => m7 (by simpa using h) (by simpa using h')), (fun h => by simpa using t0 (by simpa using h)), (fun _ => by simpa using hm ⟨7, .data⟩ (by simp) rfl)⟩
      · intro d a2 w2 hall ⟨u21, u22, u23, u24, u25, u26, u9, u10, u8, e, HB, f0, f1, f2, f3, f4, f5, f8, o8, f6, f7, n01, m6, m7, t0, t1⟩
        subst e
        simp only [Act.put, List.setIfInBounds_toArray, List.set_cons_zero, List.set_cons_succ]
        obtain rfl := f0 (hall _ (by decide))
        obtain rfl := f2 (hall _ (by decide))
        obtain rfl := f4 (hall _ (by decide))
        have hmv := f8 (hall _ (by decide))
        subst hmv
        have hmade := f1 (hall _ (by decide))
        obtain ⟨g0, rfl, h0, b0⟩ := OwnP.intAtB (by have := f6 (hall _ (by decide)); rwa [hall 9 (by decide)] at this)
        obtain ⟨g1, rfl, h1, b1⟩ := OwnP.intAtB (by have := f7 (hall _ (by decide)); rwa [hall 10 (by decide)] at this)
        go_wp2_with fail
        go_meet
        exact ⟨g0, g1, rfl, rfl, h0, h1, hmade, HB⟩
  case rest =>
  obtain ⟨g9, g10, rfl, rfl, ⟨ga, Aa, na, ca, Sa, ia⟩, ⟨gb, Ab, nb, cb, Sb, ib⟩, ⟨g, n, c, L, rfl, O, hn, hL⟩, D⟩ := hcut
  obtain ⟨W2, rfl⟩ : ∃ x : World, x = wc := ⟨_, rfl⟩
  have B := B0.trans (D.mono B0.size)
  have hok := hL.out.1
  have hpr := hL.out.2
  have hln : L.length = n := (O.resL (hok.lt2 hpr)).len
  obtain ⟨M, hM⟩ : ∃ M : Int, ((prodP L : Nat) : Int) = M := ⟨_, rfl⟩
  have ZM := prodP_sz hpr.lt (Nat.le_refl L.length) (by omega)
  rw [List.take_length, hM, hln] at ZM
  have hM0 : 0 < M := by
    rw [← hM]
    have : 0 < prodP L := Nat.pos_of_ne_zero fun e => by
      have h1 : ∀ l : List (Nat × Nat), (∀ x ∈ l, 0 < x.1) → 0 < prodP l := fun l => by
        induction l with
        | nil => intro _; decide
        | cons x l ih => intro h; exact Nat.mul_pos (h x List.mem_cons_self) (ih fun y hy => h y (List.mem_cons_of_mem _ hy))
      have := h1 L (fun x hx => by have := (hpr x hx).1.1; omega)
      omega
    omega
  have HPd : Hid (∀ V, Below W2.heap.size W2 V → Calls Tryd.prog 14 #[.slice (some ⟨g, 0, none⟩) n c] V (RetInt V M)) := fun V hV => by
    have := rprod_z (some ⟨g, 0, none⟩) n c L V ((O.keep hV).resL (hok.lt2 hpr)) (by omega) hpr
    rw [hM] at this; exact this
  clear HX HM1 HM2 HMd X0 Y0 D B0
  go_wp2_with fail
  (with_reducible refine (HPd.out _ (Below.refl _ _)).mono ?_)
  rintro e w21 ⟨gm, Am, nm, cm, rfl, im, bm⟩
  replace Sa := Sa.after bm
  replace Sb := Sb.after bm
  replace ia := ia.below bm
  replace ib := ib.below bm
  replace O := O.keep bm
  replace B := B.trans (bm.mono B.size)
  clear bm
  clear HPd
  have hal := (Below.refl w21.heap.size w21).alloc (Nat.le_refl _) (.cells #[.bool gm, .slice Am nm cm] 28)
  have Sm := Slot2.new w21 (.bool gm) (.slice Am nm cm) 28
  replace Sa := Sa.after hal
  replace Sb := Sb.after hal
  replace ia := ia.below hal
  replace ib := ib.below hal
  replace O := O.keep hal
  replace im := im.below hal
  replace B := B.trans (hal.mono B.size)
  clear hal
  go_upto_region 4 with (fail)
  generalize (w21.alloc (.cells #[.bool gm, .slice Am nm cm] 28)) = W22 at *
  have ⟨Sac0, Sac1, _⟩ := Sa
  have ⟨Smc0, Smc1, _⟩ := Sm
  go_wp2_with fail
  (with_reducible refine (rdm_z ga gm Aa Am na ca nm cm _ ia im Za ZM (by omega) (by decide)).mono ?_)
  rintro e w23 ⟨gq, Aq, nq, cq, gr, Ar, nr, cr, rfl, iq, ir, br⟩
  clear Sac0 Sac1 Smc0 Smc1
  replace Sa := Sa.after br
  replace Sb := Sb.after br
  replace ia := ia.below br
  replace ib := ib.below br
  replace O := O.keep br
  replace im := im.below br
  replace Sm := Sm.after br
  replace B := B.trans (br.mono B.size)
  clear br
  have hg9 : g9 < w23.heap.size := Sa.2.2.2.2
  have hg10 : g10 < w23.heap.size := Sb.2.2.2.2
  have hgm : w21.heap.size < w23.heap.size := Sm.2.2.2.2
  have hgg : g < w23.heap.size := (World.ownsRow.lt O g rfl).2
  have hBs := B.size
  have hal := (Below.refl w23.heap.size w23).alloc (Nat.le_refl _) (.cells #[.bool gq, .slice Aq nq cq] 28)
  replace Sa := Sa.after hal
  replace Sb := Sb.after hal
  replace ia := ia.below hal
  replace ib := ib.below hal
  replace O := O.keep hal
  replace im := im.below hal
  replace Sm := Sm.after hal
  replace ir := ir.below hal
  replace B := B.trans (hal.mono B.size)
  clear hal
  have hal := (Below.refl (w23.alloc (.cells #[.bool gq, .slice Aq nq cq] 28)).heap.size (w23.alloc (.cells #[.bool gq, .slice Aq nq cq] 28))).alloc (Nat.le_refl _) (.cells #[.bool gr, .slice Ar nr cr] 28)
  have Sr := Slot2.new (w23.alloc (.cells #[.bool gq, .slice Aq nq cq] 28)) (.bool gr) (.slice Ar nr cr) 28
  replace Sa := Sa.after hal
  replace Sb := Sb.after hal
  replace ia := ia.below hal
  replace ib := ib.below hal
  replace O := O.keep hal
  replace im := im.below hal
  replace Sm := Sm.after hal
  replace ir := ir.below hal
  replace B := B.trans (hal.mono B.size)
  clear hal
  simp only [World.size_alloc] at Sr
  clear iq
  obtain ⟨g13, hg13⟩ : ∃ x, x = w23.heap.size + 1 := ⟨_, rfl⟩
  go_upto_region 5 with (fail)
  generalize ((w23.alloc (.cells #[.bool gq, .slice Aq nq cq] 28)).alloc (.cells #[.bool gr, .slice Ar nr cr] 28)) = W24 at *
  rw [← hg13] at Sr ⊢
  replace hg9 : g9 ≠ g13 := by omega
  replace hg10 : g10 ≠ g13 := by omega
  replace hgm : w21.heap.size ≠ g13 := by omega
  replace hgg : g ≠ g13 := by omega
  have hw13 : w.heap.size ≤ g13 := by omega
  clear hg13
  obtain ⟨u, hu⟩ : ∃ u, a % M = u := ⟨_, rfl⟩
  rw [hu] at ir
  have hu0 : 0 ≤ u ∧ u < M := by rw [← hu]; exact ⟨Int.emod_nonneg _ (by omega), Int.emod_lt_of_pos _ hM0⟩
  have Zu : Sz (n + 1) u := ZM.abs_le' (by omega)
  have Zuu := Zu.add Zu (by omega)
  obtain ⟨t, ht⟩ : ∃ t, cmpN (u + u) M = t := ⟨_, rfl⟩
  have HT := Lib.hid ht
  have HS : Hid (∀ V, Below W24.heap.size W24 V → (V.cell? ⟨g13, 0, none⟩ = some (.bool gr) ∧ V.cell? ⟨g13, 1, none⟩ = some (.slice Ar nr cr)) ∧ (V.cell? ⟨w21.heap.size, 0, none⟩ = some (.bool gm) ∧ V.cell? ⟨w21.heap.size, 1, none⟩ = some (.slice Am nm cm))) := fun V hV => ⟨⟨(Sr.after hV).1, (Sr.after hV).2.1⟩, (Sm.after hV).1, (Sm.after hV).2.1⟩
  rcases Int.lt_or_le M (u + u) with hlt | hle
  · skip
    have ht0 := cmpN_gt0 ht hlt
    have hzr : midZ a M = u - M := by unfold midZ; rw [hu, if_pos hlt]
    clear ht hlt
    have Ds0 : Below W24.heap.size W24 W24.drew := (Below.refl _ _).drew
    refine wp_region_seq (.pre [(0, true), (1, true), (3, true), (2, false), (4, false), (5, true)] .done) (fun W => (W.cell? ⟨g13, 0, none⟩ = some (.bool gr) ∧ W.cell? ⟨g13, 1, none⟩ = some (.slice Ar nr cr)) ∧ (W.cell? ⟨w21.heap.size, 0, none⟩ = some (.bool gm) ∧ W.cell? ⟨w21.heap.size, 1, none⟩ = some (.slice Am nm cm))) (by kernel_rfl) (by kernel_rfl) ?_ (by kernel_rfl) (HS.out _ Ds0) ?_
    · refine chk_pre _ _ _ (by as_aux_lemma => kernel_rfl) ?_
      exact (by as_aux_lemma => kernel_rfl)
    refine seq_take _ ?_ rfl (Or.inl ⟨by rfl, ?_⟩) ?_
    rotate_left
    · (intro w hSw; (try dsimp only at hSw); go_simp; (try with_reducible rfl))
    try simp only [Act.put, List.setIfInBounds_toArray, List.set_cons_zero, List.set_cons_succ]
    refine seq_take _ ?_ rfl (Or.inl ⟨by rfl, ?_⟩) ?_
    rotate_left
    · (intro w hSw; (try dsimp only at hSw); go_simp; (try with_reducible rfl))
    try simp only [Act.put, List.setIfInBounds_toArray, List.set_cons_zero, List.set_cons_succ]
    refine seq_take _ ?_ rfl (Or.inl ⟨by rfl, ?_⟩) ?_
    rotate_left
    · (intro w hSw; (try dsimp only at hSw); go_simp; (try with_reducible rfl))
    try simp only [Act.put, List.setIfInBounds_toArray, List.set_cons_zero, List.set_cons_succ]
    refine seq_one _ rfl fun K hK => ?_
    go_simp
    (with_reducible refine (radd_z gr gr Ar Ar nr cr nr cr _ (ir.below Ds0) (ir.below Ds0) Zu Zu).mono ?_)
    rintro e vs1 ⟨gs1, As1, ns1, cs1, rfl, is1, bs1⟩
    have Ds1 : Below W24.heap.size W24 vs1 := Below.trans Ds0 (bs1.mono (Below.size Ds0))
    go_wp2_with fail
    refine hK.out _ _ (HS.out _ Ds1) (fun hHeld => ?_)
    clear hK K hHeld
    try simp only [Act.put, List.setIfInBounds_toArray, List.set_cons_zero, List.set_cons_succ]
    refine seq_one _ rfl fun K hK => ?_
    go_simp
    (with_reducible refine (rcmp_z gs1 gm As1 Am ns1 cs1 nm cm _ t is1 (im.below Ds1) Zuu ZM HT.out).mono ?_)
    rintro e vs2 ⟨rfl, bs2⟩
    have Ds2 : Below W24.heap.size W24 vs2 := Below.trans Ds1 (bs2.mono (Below.size Ds1))
    go_wp2_with fail
    refine hK.out _ _ (HS.out _ Ds2) (fun hHeld => ?_)
    clear hK K hHeld
    try simp only [Act.put, List.setIfInBounds_toArray, List.set_cons_zero, List.set_cons_succ]
    refine seq_take _ ?_ rfl (Or.inl ⟨by rfl, ?_⟩) ?_
    rotate_left
    · (intro w hSw; (try dsimp only at hSw); go_simp; (try with_reducible rfl))
    try simp only [Act.put, List.setIfInBounds_toArray, List.set_cons_zero, List.set_cons_succ]
    refine NoPanic.normal ?_
    replace Sa := Sa.after Ds2
    replace Sb := Sb.after Ds2
    replace ia := ia.below Ds2
    replace ib := ib.below Ds2
    replace O := O.keep Ds2
    replace im := im.below Ds2
    replace Sm := Sm.after Ds2
    replace ir := ir.below Ds2
    replace Sr := Sr.after Ds2
    replace B := B.trans (Ds2.mono B.size)
    clear Ds2
    clear Ds0 Ds1 bs1 bs2 is1 HS
    have ⟨Src0, Src1, _⟩ := Sr
    have ⟨Smc0, Smc1, _⟩ := Sm
    go_wp2_with fail
    (with_reducible refine (rsub_z gr gm Ar Am nr cr nm cm _ ir im Zu ZM).mono ?_)
    rintro e w25 ⟨gy, Ay, ny, cy, rfl, iy, bw⟩
    clear Src0 Src1 Smc0 Smc1
    replace Sa := Sa.after bw
    replace Sb := Sb.after bw
    replace ia := ia.below bw
    replace ib := ib.below bw
    replace O := O.keep bw
    replace im := im.below bw
    replace Sm := Sm.after bw
    replace ir := ir.below bw
    replace Sr := Sr.after bw
    replace B := B.trans (bw.mono B.size)
    clear bw
    have ⟨r0, r1, r2, r3, _⟩ := Sr
    have Sa2 := Sa.far2 (g' := g13) (by assumption) (.bool gy) (.slice Ay ny cy)
    have Sb2 := Sb.far2 (g' := g13) (by assumption) (.bool gy) (.slice Ay ny cy)
    have Sm2 := Sm.far2 (g' := g13) (by assumption) (.bool gy) (.slice Ay ny cy)
    have ia2 := ia.set2 Sr rfl rfl (.bool gy) (.slice Ay ny cy)
    have ib2 := ib.set2 Sr rfl rfl (.bool gy) (.slice Ay ny cy)
    have im2 := im.set2 Sr rfl rfl (.bool gy) (.slice Ay ny cy)
    have ir2 := iy.set2 Sr rfl rfl (.bool gy) (.slice Ay ny cy)
    have O2 := O.far2 hgg (.bool gy) (.slice Ay ny cy)
    have Sr2 := Sr.set2 (.bool gy) (.slice Ay ny cy)
    have hB13 : w.heap.size ≤ g13 := hw13
    have B2 := Below.set2 B hB13 (.bool gy) (.slice Ay ny cy)
    go_upto_region 7 with (fail)
    generalize (w25.setCell ⟨g13, 0, none⟩ (.bool gy)).setCell ⟨g13, 1, none⟩ (.slice Ay ny cy) = W26 at *
    clear r0 r1 r2 r3 Sa Sb Sm ia ib im ir O Sr B iy
    have Sa := Sa2
    have Sb := Sb2
    have Sm := Sm2
    have ia := ia2
    have ib := ib2
    have im := im2
    have O := O2
    have B := B2
    obtain ⟨gr, hgr⟩ : ∃ x, x = gy := ⟨_, rfl⟩
    obtain ⟨Ar, hAr⟩ : ∃ x, x = Ay := ⟨_, rfl⟩
    obtain ⟨nr, hnr⟩ : ∃ x, x = ny := ⟨_, rfl⟩
    obtain ⟨cr, hcr⟩ : ∃ x, x = cy := ⟨_, rfl⟩
    have Sr := Sr2
    have ir := ir2
    rw [← hgr, ← hAr, ← hnr, ← hcr] at Sr ir
    clear Sa2 Sb2 Sm2 ia2 ib2 im2 O2 B2 Sr2 ir2 hgr hAr hnr hcr
    have ⟨Sac0, Sac1, _⟩ := Sa
    go_wp2_with fail
    (with_reducible refine (rof4_z (some ⟨g, 0, none⟩) n c L ga Aa na ca _ (O.resL (hok.lt2 hpr)) ia (by omega) hpr hok Za (by decide)).mono ?_)
    rintro e w27 ⟨go, co, rfl, Oo, bo⟩
    clear Sac0 Sac1
    replace Sa := Sa.after bo
    replace Sb := Sb.after bo
    replace ia := ia.below bo
    replace ib := ib.below bo
    replace O := O.keep bo
    replace im := im.below bo
    replace Sm := Sm.after bo
    replace ir := ir.below bo
    replace Sr := Sr.after bo
    replace B := B.trans (bo.mono B.size)
    clear bo
    go_wp2_with fail
    (with_reducible refine (comb_pr (some ⟨go, 0, none⟩) n co (resOf L a) _ (Oo.resL ((hok.of a).lt2 (hpr.of a))) (by omega) (hT.below B h5) (h5.le B.size) (hok.of a) (hpr.of a)).mono ?_)
    rintro e w28 ⟨gc, Ac, nc, cc, zc, rfl, ic, bc, hzc⟩
    replace Sa := Sa.after bc
    replace Sb := Sb.after bc
    replace ia := ia.below bc
    replace ib := ib.below bc
    replace O := O.keep bc
    replace im := im.below bc
    replace Sm := Sm.after bc
    replace ir := ir.below bc
    replace Sr := Sr.after bc
    replace B := B.trans (bc.mono B.size)
    clear bc
    have hzm := hzc.out.mid hok hpr
    rw [hM] at hzm
    have hal := (Below.refl w28.heap.size w28).alloc (Nat.le_refl _) (.cells #[.bool gc, .slice Ac nc cc] 28)
    have Sc := Slot2.new w28 (.bool gc) (.slice Ac nc cc) 28
    replace Sa := Sa.after hal
    replace Sb := Sb.after hal
    replace ia := ia.below hal
    replace ib := ib.below hal
    replace O := O.keep hal
    replace im := im.below hal
    replace Sm := Sm.after hal
    replace ir := ir.below hal
    replace Sr := Sr.after hal
    replace ic := ic.below hal
    replace B := B.trans (hal.mono B.size)
    clear hal
    go_upto_region 8 with (fail)
    generalize (w28.alloc (.cells #[.bool gc, .slice Ac nc cc] 28)) = W29 at *
    have Zab := Za.sub Zb (by decide)
    have HX : Hid (∀ V, Below W29.heap.size W29 V → ((V.cell? ⟨g9, 0, none⟩ = some (.bool ga) ∧ V.cell? ⟨g9, 1, none⟩ = some (.slice Aa na ca)) ∧ (V.cell? ⟨g10, 0, none⟩ = some (.bool gb) ∧ V.cell? ⟨g10, 1, none⟩ = some (.slice Ab nb cb))) ∧ (V.cell? ⟨w21.heap.size, 0, none⟩ = some (.bool gm) ∧ V.cell? ⟨w21.heap.size, 1, none⟩ = some (.slice Am nm cm))) := fun V hV => ⟨⟨⟨(Sa.after hV).1, (Sa.after hV).2.1⟩, (Sb.after hV).1, (Sb.after hV).2.1⟩, (Sm.after hV).1, (Sm.after hV).2.1⟩
    have HI : Hid (∀ V, Below W29.heap.size W29 V → IsInt V ga Aa na ca a ∧ IsInt V gb Ab nb cb b ∧ IsInt V gm Am nm cm M) := fun V hV => ⟨ia.below hV, ib.below hV, im.below hV⟩
    go_cut [17, 18] (fun p17 p18 wx => ∃ g17 g18, p17 = .pointer (some ⟨g17, 0, none⟩) ∧ p18 = .pointer (some ⟨g18, 0, none⟩) ∧ IntAt wx g18 ((a - b) % M) ∧ Below W29.heap.size W29 wx)
    case first =>
      as_aux_lemma =>
        refine wp_region_ev (fun d a0 a' w' => ∃ u53 u54 u55 u56 u57 u52 u58 u59 u60 u17 u18 u19 : Value, a' = ((((((((((((a0.put (some 53) u53).put (some 54) u54).put (some 55) u55).put (some 56) u56).put (some 57) u57).put (some 52) u52).put (some 58) u58).put (some 59) u59).put (some 60) u60).put (some 17) u17).put (some 18) u18).put (some 19) u19) ∧ Below W29.heap.size W29 w' ∧ (d 0 = true → u53 = .agg #[.bool ga, .slice Aa na ca]) ∧ (d 1 = true → u54 = .agg #[.bool gb, .slice Ab nb cb]) ∧ (d 2 = true → IntV w' u55 (a - b)) ∧ (d 3 = true → u56 = .agg #[.bool gm, .slice Am nm cm]) ∧ (d 4 = true → TupV w' u57 ((a - b) / M) ((a - b) % M) (0)) ∧ (d 5 = true → TupV w' u52 ((a - b) / M) ((a - b) % M) (0)) ∧ (d 6 = true → IntV w' u58 ((a - b) / M)) ∧ (d 7 = true → IntV w' u59 ((a - b) % M)) ∧ (d 8 = true → u60 = .int .i64 (0)) ∧ (d 13 = true → u19 = .int .i64 (0)) ∧ (d 9 = true → OwnP W29.heap.size w' u17 (d 11) ((a - b) / M)) ∧ (d 10 = true → OwnP W29.heap.size w' u18 (d 12) ((a - b) % M)) ∧ (d 9 = true → d 10 = true → u17 ≠ u18) ∧ (d 11 = true → d 9 = true) ∧ (d 12 = true → d 10 = true)) (by kernel_rfl) (by kernel_rfl) ?_ ?_ ?_ ?_
        · intro d d' h a' w' hh
          obtain rfl : d = d' := funext h
          exact hh
        · exact ⟨_, _, _, _, _, _, _, _, _, _, _, _, (by simp only [Act.put, List.setIfInBounds_toArray, List.set_cons_zero, List.set_cons_succ]; rfl), (Below.refl _ _).drew, (fun h => by cases h), (fun h => by cases h), (fun h => by cases h), (fun h => by cases h), (fun h => by cases h), (fun h => by cases h), (fun h => by cases h), (fun h => by cases h), (fun h => by cases h), (fun h => by cases h), (fun h => by cases h), (fun h => by cases h), (fun h => by cases h), (fun h => by cases h), (fun h => by cases h)⟩
        · refine ⟨?_, ?_, ?_, ?_, ?_, ?_, ?_, ?_, ?_, ?_, ?_, ?_, ?_, ?_, trivial⟩
          · intro d a2 w2 hd hm ⟨u53, u54, u55, u56, u57, u52, u58, u59, u60, u17, u18, u19, e, HB, f0, f1, f2, f3, f4, f5, f6, f7, f8, f13, f9, f10, n01, t0, t1⟩ K hK
            subst e
            simp only [Act.put, List.setIfInBounds_toArray, List.set_cons_zero, List.set_cons_succ]
            obtain ⟨⟨⟨q0, q1⟩, q2, q3⟩, q4, q5⟩ := HX.out w2 HB
            go_simp
            exact hK.out _ _ ⟨.agg #[.bool ga, .slice Aa na ca], u54, u55, u56, u57, u52, u58, u59, u60, u17, u18, u19, (by simp only [Act.put, List.setIfInBounds_toArray, List.set_cons_zero, List.set_cons_succ]), HB, (fun _ => rfl), (fun h => f1 (by simpa using h)), (fun h => (f2 (by simpa using h))), (fun h => f3 (by simpa using h)), (fun h => (f4 (by simpa using h))), (fun h => (f5 (by simpa using h))), (fun h => (f6 (by simpa using h))), (fun h => (f7 (by simpa using h))), (fun h => f8 (by simpa using h)), (fun h => f13 (by simpa using h)), (fun h => by simpa using (f9 (by simpa using h))), (fun h => by simpa using (f10 (by simpa using h))), (fun h h' => n01 (by simpa using h) (by simpa using h')), (fun h => by simpa using t0 (by simpa using h)), (fun h => by simpa using t1 (by simpa using h))⟩
          · intro d a2 w2 hd hm ⟨u53, u54, u55, u56, u57, u52, u58, u59, u60, u17, u18, u19, e, HB, f0, f1, f2, f3, f4, f5, f6, f7, f8, f13, f9, f10, n01, t0, t1⟩ K hK
            subst e
            simp only [Act.put, List.setIfInBounds_toArray, List.set_cons_zero, List.set_cons_succ]
            obtain ⟨⟨⟨q0, q1⟩, q2, q3⟩, q4, q5⟩ := HX.out w2 HB
            go_simp
            exact hK.out _ _ ⟨u53, .agg #[.bool gb, .slice Ab nb cb], u55, u56, u57, u52, u58, u59, u60, u17, u18, u19, (by simp only [Act.put, List.setIfInBounds_toArray, List.set_cons_zero, List.set_cons_succ]), HB, (fun h => f0 (by simpa using h)), (fun _ => rfl), (fun h => (f2 (by simpa using h))), (fun h => f3 (by simpa using h)), (fun h => (f4 (by simpa using h))), (fun h => (f5 (by simpa using h))), (fun h => (f6 (by simpa using h))), (fun h => (f7 (by simpa using h))), (fun h => f8 (by simpa using h)), (fun h => f13 (by simpa using h)), (fun h => by simpa using (f9 (by simpa using h))), (fun h => by simpa using (f10 (by simpa using h))), (fun h h' => n01 (by simpa using h) (by simpa using h')), (fun h => by simpa using t0 (by simpa using h)), (fun h => by simpa using t1 (by simpa using h))⟩
          · intro d a2 w2 hd hm ⟨u53, u54, u55, u56, u57, u52, u58, u59, u60, u17, u18, u19, e, HB, f0, f1, f2, f3, f4, f5, f6, f7, f8, f13, f9, f10, n01, t0, t1⟩ K hK
            subst e
            simp only [Act.put, List.setIfInBounds_toArray, List.set_cons_zero, List.set_cons_succ]
            obtain rfl := f0 (hm ⟨0, .data⟩ (by simp) rfl)
            clear f0
            obtain rfl := f1 (hm ⟨1, .data⟩ (by simp) rfl)
            clear f1
            go_simp
            (with_reducible refine (rsub_z ga gb Aa Ab na ca nb cb _ (HI.out _ HB).1 (HI.out _ HB).2.1 Za Zb).mono ?_)
            rintro e w3 ⟨gg, AA, nn, cc, rfl, hi, hb⟩
            have HB3 := HB.trans (hb.mono HB.size)
            go_wp2_with fail
            exact hK.out _ _ ⟨.agg #[.bool ga, .slice Aa na ca], .agg #[.bool gb, .slice Ab nb cb], .agg #[.bool gg, .slice AA nn cc], u56, u57, u52, u58, u59, u60, u17, u18, u19, (by simp only [Act.put, List.setIfInBounds_toArray, List.set_cons_zero, List.set_cons_succ]), HB3, (fun _ => rfl), (fun _ => rfl), (fun _ => ⟨_, _, _, _, rfl, hi⟩), (fun h => f3 (by simpa using h)), (fun h => (f4 (by simpa using h)).below hb), (fun h => (f5 (by simpa using h)).below hb), (fun h => (f6 (by simpa using h)).below hb), (fun h => (f7 (by simpa using h)).below hb), (fun h => f8 (by simpa using h)), (fun h => f13 (by simpa using h)), (fun h => by simpa using (f9 (by simpa using h)).below hb), (fun h => by simpa using (f10 (by simpa using h)).below hb), (fun h h' => n01 (by simpa using h) (by simpa using h')), (fun h => by simpa using t0 (by simpa using h)), (fun h => by simpa using t1 (by simpa using h))⟩
          · intro d a2 w2 hd hm ⟨u53, u54, u55, u56, u57, u52, u58, u59, u60, u17, u18, u19, e, HB, f0, f1, f2, f3, f4, f5, f6, f7, f8, f13, f9, f10, n01, t0, t1⟩ K hK
            subst e
            simp only [Act.put, List.setIfInBounds_toArray, List.set_cons_zero, List.set_cons_succ]
            obtain ⟨⟨⟨q0, q1⟩, q2, q3⟩, q4, q5⟩ := HX.out w2 HB
            go_simp
            exact hK.out _ _ ⟨u53, u54, u55, .agg #[.bool gm, .slice Am nm cm], u57, u52, u58, u59, u60, u17, u18, u19, (by simp only [Act.put, List.setIfInBounds_toArray, List.set_cons_zero, List.set_cons_succ]), HB, (fun h => f0 (by simpa using h)), (fun h => f1 (by simpa using h)), (fun h => (f2 (by simpa using h))), (fun _ => rfl), (fun h => (f4 (by simpa using h))), (fun h => (f5 (by simpa using h))), (fun h => (f6 (by simpa using h))), (fun h => (f7 (by simpa using h))), (fun h => f8 (by simpa using h)), (fun h => f13 (by simpa using h)), (fun h => by simpa using (f9 (by simpa using h))), (fun h => by simpa using (f10 (by simpa using h))), (fun h h' => n01 (by simpa using h) (by simpa using h')), (fun h => by simpa using t0 (by simpa using h)), (fun h => by simpa using t1 (by simpa using h))⟩
          · intro d a2 w2 hd hm ⟨u53, u54, u55, u56, u57, u52, u58, u59, u60, u17, u18, u19, e, HB, f0, f1, f2, f3, f4, f5, f6, f7, f8, f13, f9, f10, n01, t0, t1⟩ K hK
            subst e
            simp only [Act.put, List.setIfInBounds_toArray, List.set_cons_zero, List.set_cons_succ]
            obtain ⟨G2, A2, N2, C2, rfl, I2⟩ := f2 (hm ⟨2, .data⟩ (by simp) rfl)
            obtain rfl := f3 (hm ⟨3, .data⟩ (by simp) rfl)
            clear f3
            go_simp
            (with_reducible refine (rdm_z G2 gm A2 Am N2 C2 nm cm _ I2 (HI.out _ HB).2.2 Zab ZM (by omega) (by decide)).mono ?_)
            rintro e w3 ⟨g1, A1', n1', c1', g2, A2', n2', c2', rfl, hi1, hi2, hb⟩
            have HB3 := HB.trans (hb.mono HB.size)
            go_wp2_with fail
            exact hK.out _ _ ⟨u53, u54, .agg #[.bool G2, .slice A2 N2 C2], .agg #[.bool gm, .slice Am nm cm], .tuple #[.agg #[.bool g1, .slice A1' n1' c1'], .agg #[.bool g2, .slice A2' n2' c2'], .int .i64 (0)], u52, u58, u59, u60, u17, u18, u19, (by simp only [Act.put, List.setIfInBounds_toArray, List.set_cons_zero, List.set_cons_succ]), HB3, (fun h => f0 (by simpa using h)), (fun h => f1 (by simpa using h)), (fun h => (f2 (by simpa using h)).below hb), (fun _ => rfl), (fun _ => ⟨_, _, rfl, ⟨_, _, _, _, rfl, hi1⟩, ⟨_, _, _, _, rfl, hi2⟩⟩), (fun h => (f5 (by simpa using h)).below hb), (fun h => (f6 (by simpa using h)).below hb), (fun h => (f7 (by simpa using h)).below hb), (fun h => f8 (by simpa using h)), (fun h => f13 (by simpa using h)), (fun h => by simpa using (f9 (by simpa using h)).below hb), (fun h => by simpa using (f10 (by simpa using h)).below hb), (fun h h' => n01 (by simpa using h) (by simpa using h')), (fun h => by simpa using t0 (by simpa using h)), (fun h => by simpa using t1 (by simpa using h))⟩
          · intro d a2 w2 hd hm ⟨u53, u54, u55, u56, u57, u52, u58, u59, u60, u17, u18, u19, e, HB, f0, f1, f2, f3, f4, f5, f6, f7, f8, f13, f9, f10, n01, t0, t1⟩ K hK
            subst e
            simp only [Act.put, List.setIfInBounds_toArray, List.set_cons_zero, List.set_cons_succ]
            obtain ⟨V4, U4, rfl, I4, J4⟩ := f4 (hm ⟨4, .data⟩ (by simp) rfl)
            go_simp
            exact hK.out _ _ ⟨u53, u54, u55, u56, .tuple #[V4, U4, .int .i64 (0)], .tuple #[V4, U4, .int .i64 (0)], u58, u59, u60, u17, u18, u19, (by simp only [Act.put, List.setIfInBounds_toArray, List.set_cons_zero, List.set_cons_succ]), HB, (fun h => f0 (by simpa using h)), (fun h => f1 (by simpa using h)), (fun h => (f2 (by simpa using h))), (fun h => f3 (by simpa using h)), (fun h => (f4 (by simpa using h))), (fun _ => ⟨V4, U4, rfl, I4, J4⟩), (fun h => (f6 (by simpa using h))), (fun h => (f7 (by simpa using h))), (fun h => f8 (by simpa using h)), (fun h => f13 (by simpa using h)), (fun h => by simpa using (f9 (by simpa using h))), (fun h => by simpa using (f10 (by simpa using h))), (fun h h' => n01 (by simpa using h) (by simpa using h')), (fun h => by simpa using t0 (by simpa using h)), (fun h => by simpa using t1 (by simpa using h))⟩
          · intro d a2 w2 hd hm ⟨u53, u54, u55, u56, u57, u52, u58, u59, u60, u17, u18, u19, e, HB, f0, f1, f2, f3, f4, f5, f6, f7, f8, f13, f9, f10, n01, t0, t1⟩ K hK
            subst e
            simp only [Act.put, List.setIfInBounds_toArray, List.set_cons_zero, List.set_cons_succ]
            obtain ⟨V5, U5, rfl, I5, J5⟩ := f5 (hm ⟨5, .data⟩ (by simp) rfl)
            go_simp
            exact hK.out _ _ ⟨u53, u54, u55, u56, u57, .tuple #[V5, U5, .int .i64 (0)], V5, u59, u60, u17, u18, u19, (by simp only [Act.put, List.setIfInBounds_toArray, List.set_cons_zero, List.set_cons_succ]), HB, (fun h => f0 (by simpa using h)), (fun h => f1 (by simpa using h)), (fun h => (f2 (by simpa using h))), (fun h => f3 (by simpa using h)), (fun h => (f4 (by simpa using h))), (fun h => (f5 (by simpa using h))), (fun _ => I5), (fun h => (f7 (by simpa using h))), (fun h => f8 (by simpa using h)), (fun h => f13 (by simpa using h)), (fun h => by simpa using (f9 (by simpa using h))), (fun h => by simpa using (f10 (by simpa using h))), (fun h h' => n01 (by simpa using h) (by simpa using h')), (fun h => by simpa using t0 (by simpa using h)), (fun h => by simpa using t1 (by simpa using h))⟩
          · intro d a2 w2 hd hm ⟨u53, u54, u55, u56, u57, u52, u58, u59, u60, u17, u18, u19, e, HB, f0, f1, f2, f3, f4, f5, f6, f7, f8, f13, f9, f10, n01, t0, t1⟩ K hK
            subst e
            simp only [Act.put, List.setIfInBounds_toArray, List.set_cons_zero, List.set_cons_succ]
            obtain ⟨V5, U5, rfl, I5, J5⟩ := f5 (hm ⟨5, .data⟩ (by simp) rfl)
            go_simp
            exact hK.out _ _ ⟨u53, u54, u55, u56, u57, .tuple #[V5, U5, .int .i64 (0)], u58, U5, u60, u17, u18, u19, (by simp only [Act.put, List.setIfInBounds_toArray, List.set_cons_zero, List.set_cons_succ]), HB, (fun h => f0 (by simpa using h)), (fun h => f1 (by simpa using h)), (fun h => (f2 (by simpa using h))), (fun h => f3 (by simpa using h)), (fun h => (f4 (by simpa using h))), (fun h => (f5 (by simpa using h))), (fun h => (f6 (by simpa using h))), (fun _ => J5), (fun h => f8 (by simpa using h)), (fun h => f13 (by simpa using h)), (fun h => by simpa using (f9 (by simpa using h))), (fun h => by simpa using (f10 (by simpa using h))), (fun h h' => n01 (by simpa using h) (by simpa using h')), (fun h => by simpa using t0 (by simpa using h)), (fun h => by simpa using t1 (by simpa using h))⟩
          · intro d a2 w2 hd hm ⟨u53, u54, u55, u56, u57, u52, u58, u59, u60, u17, u18, u19, e, HB, f0, f1, f2, f3, f4, f5, f6, f7, f8, f13, f9, f10, n01, t0, t1⟩ K hK
            subst e
            simp only [Act.put, List.setIfInBounds_toArray, List.set_cons_zero, List.set_cons_succ]
            obtain ⟨V5, U5, rfl, I5, J5⟩ := f5 (hm ⟨5, .data⟩ (by simp) rfl)
            go_simp
            exact hK.out _ _ ⟨u53, u54, u55, u56, u57, .tuple #[V5, U5, .int .i64 (0)], u58, u59, .int .i64 (0), u17, u18, u19, (by simp only [Act.put, List.setIfInBounds_toArray, List.set_cons_zero, List.set_cons_succ]), HB, (fun h => f0 (by simpa using h)), (fun h => f1 (by simpa using h)), (fun h => (f2 (by simpa using h))), (fun h => f3 (by simpa using h)), (fun h => (f4 (by simpa using h))), (fun h => (f5 (by simpa using h))), (fun h => (f6 (by simpa using h))), (fun h => (f7 (by simpa using h))), (fun _ => rfl), (fun h => f13 (by simpa using h)), (fun h => by simpa using (f9 (by simpa using h))), (fun h => by simpa using (f10 (by simpa using h))), (fun h h' => n01 (by simpa using h) (by simpa using h')), (fun h => by simpa using t0 (by simpa using h)), (fun h => by simpa using t1 (by simpa using h))⟩
          · intro d a2 w2 hd hm ⟨u53, u54, u55, u56, u57, u52, u58, u59, u60, u17, u18, u19, e, HB, f0, f1, f2, f3, f4, f5, f6, f7, f8, f13, f9, f10, n01, t0, t1⟩ K hK
            subst e
            simp only [Act.put, List.setIfInBounds_toArray, List.set_cons_zero, List.set_cons_succ]
            have hb : Below w2.heap.size w2 (w2.alloc (.cells #[.bool false, .slice none 0 0] 28)) := (Below.refl _ _).alloc (Nat.le_refl _) _
            have HB3 := HB.trans (hb.mono HB.size)
            go_simp
            exact hK.out _ _ ⟨u53, u54, u55, u56, u57, u52, u58, u59, u60, .pointer (some ⟨w2.heap.size, 0, none⟩), u18, u19, (by simp only [Act.put, List.setIfInBounds_toArray, List.set_cons_zero, List.set_cons_succ]), HB3, (fun h => f0 (by simpa using h)), (fun h => f1 (by simpa using h)), (fun h => (f2 (by simpa using h)).below hb), (fun h => f3 (by simpa using h)), (fun h => (f4 (by simpa using h)).below hb), (fun h => (f5 (by simpa using h)).below hb), (fun h => (f6 (by simpa using h)).below hb), (fun h => (f7 (by simpa using h)).below hb), (fun h => f8 (by simpa using h)), (fun h => f13 (by simpa using h)), (fun _ => by have hs : d 11 = false := (by cases hq : d 11 with | false => rfl | true => (have hz := t0 hq; rw [hd] at hz; cases hz)); simpa [hs] using OwnP.new HB.size ((a - b) / M)), (fun h => by simpa using (f10 (by simpa using h)).below hb), (fun _ h' => ((f10 (by simpa using h')).lt).symm), (fun _ => by simp), (fun h => by simpa using t1 (by simpa using h))⟩
          · intro d a2 w2 hd hm ⟨u53, u54, u55, u56, u57, u52, u58, u59, u60, u17, u18, u19, e, HB, f0, f1, f2, f3, f4, f5, f6, f7, f8, f13, f9, f10, n01, t0, t1⟩ K hK
            subst e
            simp only [Act.put, List.setIfInBounds_toArray, List.set_cons_zero, List.set_cons_succ]
            have hb : Below w2.heap.size w2 (w2.alloc (.cells #[.bool false, .slice none 0 0] 28)) := (Below.refl _ _).alloc (Nat.le_refl _) _
            have HB3 := HB.trans (hb.mono HB.size)
            go_simp
            exact hK.out _ _ ⟨u53, u54, u55, u56, u57, u52, u58, u59, u60, u17, .pointer (some ⟨w2.heap.size, 0, none⟩), u19, (by simp only [Act.put, List.setIfInBounds_toArray, List.set_cons_zero, List.set_cons_succ]), HB3, (fun h => f0 (by simpa using h)), (fun h => f1 (by simpa using h)), (fun h => (f2 (by simpa using h)).below hb), (fun h => f3 (by simpa using h)), (fun h => (f4 (by simpa using h)).below hb), (fun h => (f5 (by simpa using h)).below hb), (fun h => (f6 (by simpa using h)).below hb), (fun h => (f7 (by simpa using h)).below hb), (fun h => f8 (by simpa using h)), (fun h => f13 (by simpa using h)), (fun h => by simpa using (f9 (by simpa using h)).below hb), (fun _ => by have hs : d 12 = false := (by cases hq : d 12 with | false => rfl | true => (have hz := t1 hq; rw [hd] at hz; cases hz)); simpa [hs] using OwnP.new HB.size ((a - b) % M)), (fun h _ => (f9 (by simpa using h)).lt), (fun h => by simpa using t0 (by simpa using h)), (fun _ => by simp)⟩
          · intro d a2 w2 hd hm ⟨u53, u54, u55, u56, u57, u52, u58, u59, u60, u17, u18, u19, e, HB, f0, f1, f2, f3, f4, f5, f6, f7, f8, f13, f9, f10, n01, t0, t1⟩ K hK
            subst e
            simp only [Act.put, List.setIfInBounds_toArray, List.set_cons_zero, List.set_cons_succ]
            obtain ⟨gg, AA, nn, cc, rfl, hi⟩ := f6 (hm ⟨6, .data⟩ (by simp) rfl)
            obtain ⟨g, rfl, hg, b0, b1, hs, n0, n1, _⟩ := f9 (hm ⟨9, .data⟩ (by simp) rfl)
            obtain ⟨k0, k1, k2, k3, k4⟩ := id hs
            go_simp
            exact hK.out _ _ ⟨u53, u54, u55, u56, u57, u52, .agg #[.bool gg, .slice AA nn cc], u59, u60, .pointer (some ⟨g, 0, none⟩), u18, u19, (by simp only [Act.put, List.setIfInBounds_toArray, List.set_cons_zero, List.set_cons_succ]), Below.set2 HB hg _ _, (fun h => f0 (by simpa using h)), (fun h => f1 (by simpa using h)), (fun h => (f2 (by simpa using h)).set2 hs n0 n1 _ _), (fun h => f3 (by simpa using h)), (fun h => (f4 (by simpa using h)).set2 hs n0 n1 _ _), (fun h => (f5 (by simpa using h)).set2 hs n0 n1 _ _), (fun h => (f6 (by simpa using h)).set2 hs n0 n1 _ _), (fun h => (f7 (by simpa using h)).set2 hs n0 n1 _ _), (fun h => f8 (by simpa using h)), (fun h => f13 (by simpa using h)), (fun _ => by simpa using OwnP.near hi hg hs n0 n1), (fun h => by simpa using (f10 (by simpa using h)).far ((n01 (hm ⟨9, .data⟩ (by simp) rfl) (by simpa using h)).symm) hs n0 n1 _ _), (fun h h' => n01 (by simpa using h) (by simpa using h')), (fun _ => by simpa using hm ⟨9, .data⟩ (by simp) rfl), (fun h => by simpa using t1 (by simpa using h))⟩
          · intro d a2 w2 hd hm ⟨u53, u54, u55, u56, u57, u52, u58, u59, u60, u17, u18, u19, e, HB, f0, f1, f2, f3, f4, f5, f6, f7, f8, f13, f9, f10, n01, t0, t1⟩ K hK
            subst e
            simp only [Act.put, List.setIfInBounds_toArray, List.set_cons_zero, List.set_cons_succ]
            obtain ⟨gg, AA, nn, cc, rfl, hi⟩ := f7 (hm ⟨7, .data⟩ (by simp) rfl)
            obtain ⟨g, rfl, hg, b0, b1, hs, n0, n1, _⟩ := f10 (hm ⟨10, .data⟩ (by simp) rfl)
            obtain ⟨k0, k1, k2, k3, k4⟩ := id hs
            go_simp
            exact hK.out _ _ ⟨u53, u54, u55, u56, u57, u52, u58, .agg #[.bool gg, .slice AA nn cc], u60, u17, .pointer (some ⟨g, 0, none⟩), u19, (by simp only [Act.put, List.setIfInBounds_toArray, List.set_cons_zero, List.set_cons_succ]), Below.set2 HB hg _ _, (fun h => f0 (by simpa using h)), (fun h => f1 (by simpa using h)), (fun h => (f2 (by simpa using h)).set2 hs n0 n1 _ _), (fun h => f3 (by simpa using h)), (fun h => (f4 (by simpa using h)).set2 hs n0 n1 _ _), (fun h => (f5 (by simpa using h)).set2 hs n0 n1 _ _), (fun h => (f6 (by simpa using h)).set2 hs n0 n1 _ _), (fun h => (f7 (by simpa using h)).set2 hs n0 n1 _ _), (fun h => f8 (by simpa using h)), (fun h => f13 (by simpa using h)), (fun h => by simpa using (f9 (by simpa using h)).far (n01 (by simpa using h) (hm ⟨10, .data⟩ (by simp) rfl)) hs n0 n1 _ _), (fun _ => by simpa using OwnP.near hi hg hs n0 n1), (fun h h' => n01 (by simpa using h) (by simpa using h')), (fun h => by simpa using t0 (by simpa using h)), (fun _ => by simpa using hm ⟨10, .data⟩ (by simp) rfl)⟩
          · intro d a2 w2 hd hm ⟨u53, u54, u55, u56, u57, u52, u58, u59, u60, u17, u18, u19, e, HB, f0, f1, f2, f3, f4, f5, f6, f7, f8, f13, f9, f10, n01, t0, t1⟩ K hK
            subst e
            simp only [Act.put, List.setIfInBounds_toArray, List.set_cons_zero, List.set_cons_succ]
            obtain rfl := f8 (hm ⟨8, .data⟩ (by simp) rfl)
            clear f8
            go_simp
            exact hK.out _ _ ⟨u53, u54, u55, u56, u57, u52, u58, u59, .int .i64 (0), u17, u18, .int .i64 (0), (by simp only [Act.put, List.setIfInBounds_toArray, List.set_cons_zero, List.set_cons_succ]), HB, (fun h => f0 (by simpa using h)), (fun h => f1 (by simpa using h)), (fun h => (f2 (by simpa using h))), (fun h => f3 (by simpa using h)), (fun h => (f4 (by simpa using h))), (fun h => (f5 (by simpa using h))), (fun h => (f6 (by simpa using h))), (fun h => (f7 (by simpa using h))), (fun _ => rfl), (fun _ => rfl), (fun h => by simpa using (f9 (by simpa using h))), (fun h => by simpa using (f10 (by simpa using h))), (fun h h' => n01 (by simpa using h) (by simpa using h')), (fun h => by simpa using t0 (by simpa using h)), (fun h => by simpa using t1 (by simpa using h))⟩
        · intro d a2 w2 hall ⟨u53, u54, u55, u56, u57, u52, u58, u59, u60, u17, u18, u19, e, HB, f0, f1, f2, f3, f4, f5, f6, f7, f8, f13, f9, f10, n01, t0, t1⟩
          subst e
          simp only [Act.put, List.setIfInBounds_toArray, List.set_cons_zero, List.set_cons_succ]
          obtain rfl := f0 (hall _ (by decide))
          obtain rfl := f1 (hall _ (by decide))
          obtain rfl := f3 (hall _ (by decide))
          obtain rfl := f8 (hall _ (by decide))
          obtain rfl := f13 (hall _ (by decide))
          obtain ⟨g0, rfl, h0, b0⟩ := OwnP.intAtB (by have := f9 (hall _ (by decide)); rwa [hall 11 (by decide)] at this)
          obtain ⟨g1, rfl, h1, b1⟩ := OwnP.intAtB (by have := f10 (hall _ (by decide)); rwa [hall 12 (by decide)] at this)
          go_wp2_with fail
          go_meet
          exact ⟨g0, g1, rfl, rfl, h1, HB⟩
    case rest =>
    obtain ⟨g17, g18, rfl, rfl, ⟨gd, Ad, nd, cd, Sd, idd⟩, D⟩ := hcut
    obtain ⟨W9, rfl⟩ : ∃ x : World, x = wc := ⟨_, rfl⟩
    clear HX HI
    replace Sa := Sa.after D
    replace Sb := Sb.after D
    replace ia := ia.below D
    replace ib := ib.below D
    replace O := O.keep D
    replace im := im.below D
    replace Sm := Sm.after D
    replace ir := ir.below D
    replace Sr := Sr.after D
    replace ic := ic.below D
    replace Sc := Sc.after D
    replace B := B.trans (D.mono B.size)
    clear D
    obtain ⟨s, hs⟩ : ∃ s, sgn ((a - b) % M) = s := ⟨_, rfl⟩
    have HSg := Lib.hid hs
    have hgp : 0 ≤ (a - b) % M := Int.emod_nonneg _ (by omega)
    have hco := cons_of hok hpr a b
    rw [hM] at hco
    have HS : Hid (∀ V, Below W9.heap.size W9 V → (V.cell? ⟨w28.heap.size, 0, none⟩ = some (.bool gc) ∧ V.cell? ⟨w28.heap.size, 1, none⟩ = some (.slice Ac nc cc)) ∧ (V.cell? ⟨g13, 0, none⟩ = some (.bool gr) ∧ V.cell? ⟨g13, 1, none⟩ = some (.slice Ar nr cr)) ∧ (V.cell? ⟨g9, 0, none⟩ = some (.bool ga) ∧ V.cell? ⟨g9, 1, none⟩ = some (.slice Aa na ca)) ∧ (V.cell? ⟨g10, 0, none⟩ = some (.bool gb) ∧ V.cell? ⟨g10, 1, none⟩ = some (.slice Ab nb cb)) ∧ (V.cell? ⟨g18, 0, none⟩ = some (.bool gd) ∧ V.cell? ⟨g18, 1, none⟩ = some (.slice Ad nd cd))) := fun V hV => ⟨⟨(Sc.after hV).1, (Sc.after hV).2.1⟩, ⟨(Sr.after hV).1, (Sr.after hV).2.1⟩, ⟨(Sa.after hV).1, (Sa.after hV).2.1⟩, ⟨(Sb.after hV).1, (Sb.after hV).2.1⟩, (Sd.after hV).1, (Sd.after hV).2.1⟩
    go_upto_region 9 with (fail)
    have HTT : Hid (∀ V, Below W9.heap.size W9 V → TabW V ∧ TabN V.heap.size) := fun V hV => ⟨hT.below (B.trans (hV.mono B.size)) h5, h5.le (B.trans (hV.mono B.size)).size⟩
    by_cases hgap : (a - b) % M = 0
    · have HCb : Hid (Cons (resOf L a) b) := hco.2 hgap
      have hs0 : s = 0 := by rw [← hs]; unfold sgn; rw [hgap]; rfl
      subst hs0
      have Dy0 : Below W9.heap.size W9 W9.drew := (Below.refl _ _).drew
      refine wp_region_seq (.pre [(0, true), (1, true), (2, true), (3, true), (4, true), (5, false), (6, true), (7, true), (8, true), (9, true), (11, true), (13, true), (10, false), (12, false), (14, false), (15, true), (16, true), (17, true), (18, true), (19, true), (20, true), (21, true)] .done) (fun W => (W.cell? ⟨w28.heap.size, 0, none⟩ = some (.bool gc) ∧ W.cell? ⟨w28.heap.size, 1, none⟩ = some (.slice Ac nc cc)) ∧ (W.cell? ⟨g13, 0, none⟩ = some (.bool gr) ∧ W.cell? ⟨g13, 1, none⟩ = some (.slice Ar nr cr)) ∧ (W.cell? ⟨g9, 0, none⟩ = some (.bool ga) ∧ W.cell? ⟨g9, 1, none⟩ = some (.slice Aa na ca)) ∧ (W.cell? ⟨g10, 0, none⟩ = some (.bool gb) ∧ W.cell? ⟨g10, 1, none⟩ = some (.slice Ab nb cb)) ∧ (W.cell? ⟨g18, 0, none⟩ = some (.bool gd) ∧ W.cell? ⟨g18, 1, none⟩ = some (.slice Ad nd cd))) (by kernel_rfl) (by kernel_rfl) ?_ (by kernel_rfl) (HS.out _ Dy0) ?_
      · refine chk_pre _ _ _ (by as_aux_lemma => kernel_rfl) ?_
        exact (by as_aux_lemma => kernel_rfl)
      refine seq_take _ ?_ rfl (Or.inl ⟨by rfl, ?_⟩) ?_
      rotate_left
      · (intro w hSw; (try dsimp only at hSw); go_simp; (try with_reducible rfl))
      try simp only [Act.put, List.setIfInBounds_toArray, List.set_cons_zero, List.set_cons_succ]
      refine seq_take _ ?_ rfl (Or.inl ⟨by rfl, ?_⟩) ?_
      rotate_left
      · (intro w hSw; (try dsimp only at hSw); go_simp; (try with_reducible rfl))
      try simp only [Act.put, List.setIfInBounds_toArray, List.set_cons_zero, List.set_cons_succ]
      refine seq_take _ ?_ rfl (Or.inl ⟨by rfl, ?_⟩) ?_
      rotate_left
      · (intro w hSw; (try dsimp only at hSw); go_simp; (try with_reducible rfl))
      try simp only [Act.put, List.setIfInBounds_toArray, List.set_cons_zero, List.set_cons_succ]
      refine seq_take _ ?_ rfl (Or.inl ⟨by rfl, ?_⟩) ?_
      rotate_left
      · (intro w hSw; (try dsimp only at hSw); go_simp; (try with_reducible rfl))
      try simp only [Act.put, List.setIfInBounds_toArray, List.set_cons_zero, List.set_cons_succ]
      refine seq_take _ ?_ rfl (Or.inl ⟨by rfl, ?_⟩) ?_
      rotate_left
      · (intro w hSw; (try dsimp only at hSw); go_simp; (try with_reducible rfl))
      try simp only [Act.put, List.setIfInBounds_toArray, List.set_cons_zero, List.set_cons_succ]
      refine seq_one _ rfl fun K hK => ?_
      go_simp
      (with_reducible refine (same_z gc gr Ac Ar nc cc nr cr _ (ic.below Dy0) (ir.below Dy0) (hzm.trans hzr)).mono ?_)
      rintro e vy1 ⟨rfl, by1⟩
      have Dy1 : Below W9.heap.size W9 vy1 := Below.trans Dy0 (by1.mono (Below.size Dy0))
      go_wp2_with fail
      refine hK.out _ _ (HS.out _ Dy1) (fun hHeld => ?_)
      clear hK K hHeld
      try simp only [Act.put, List.setIfInBounds_toArray, List.set_cons_zero, List.set_cons_succ]
      refine seq_take _ ?_ rfl (Or.inl ⟨by rfl, ?_⟩) ?_
      rotate_left
      · (intro w hSw; (try dsimp only at hSw); go_simp; (try with_reducible rfl))
      try simp only [Act.put, List.setIfInBounds_toArray, List.set_cons_zero, List.set_cons_succ]
      refine seq_take _ ?_ rfl (Or.inl ⟨by rfl, ?_⟩) ?_
      rotate_left
      · (intro w hSw; (try dsimp only at hSw); go_simp; (try with_reducible rfl))
      try simp only [Act.put, List.setIfInBounds_toArray, List.set_cons_zero, List.set_cons_succ]
      refine seq_take _ ?_ rfl (Or.inl ⟨by rfl, ?_⟩) ?_
      rotate_left
      · (intro w hSw; (try dsimp only at hSw); go_simp; (try with_reducible rfl))
      try simp only [Act.put, List.setIfInBounds_toArray, List.set_cons_zero, List.set_cons_succ]
      refine seq_take _ ?_ rfl (Or.inl ⟨by rfl, ?_⟩) ?_
      rotate_left
      · (intro w hSw; (try dsimp only at hSw); go_simp; (try with_reducible rfl))
      try simp only [Act.put, List.setIfInBounds_toArray, List.set_cons_zero, List.set_cons_succ]
      refine seq_take _ ?_ rfl (Or.inl ⟨by rfl, ?_⟩) ?_
      rotate_left
      · (intro w hSw; (try dsimp only at hSw); go_simp; (try with_reducible rfl))
      try simp only [Act.put, List.setIfInBounds_toArray, List.set_cons_zero, List.set_cons_succ]
      refine seq_take _ ?_ rfl (Or.inl ⟨by rfl, ?_⟩) ?_
      rotate_left
      · (intro w hSw; (try dsimp only at hSw); go_simp; (try with_reducible rfl))
      try simp only [Act.put, List.setIfInBounds_toArray, List.set_cons_zero, List.set_cons_succ]
      refine seq_one _ rfl fun K hK => ?_
      go_simp
      (with_reducible refine (rof4_z (some ⟨g, 0, none⟩) n c L ga Aa na ca _ ((O.keep Dy1).resL (hok.lt2 hpr)) (ia.below Dy1) (by omega) hpr hok Za (by decide)).mono ?_)
      rintro e vy2 ⟨go2, co2, rfl, Oo2, by2⟩
      have Dy2 : Below W9.heap.size W9 vy2 := Below.trans Dy1 (by2.mono (Below.size Dy1))
      go_wp2_with fail
      refine hK.out _ _ (HS.out _ Dy2) (fun hHeld => ?_)
      clear hK K hHeld
      try simp only [Act.put, List.setIfInBounds_toArray, List.set_cons_zero, List.set_cons_succ]
      refine seq_one _ rfl fun K hK => ?_
      go_simp
      (with_reducible refine (cons_b (some ⟨go2, 0, none⟩) n co2 (resOf L a) gb Ab nb cb true _ (Oo2.resL ((hok.of a).lt2 (hpr.of a))) (ib.below Dy2) (by omega) (HTT.out _ Dy2).1 (HTT.out _ Dy2).2 ⟨fun _ => HCb.out, fun _ => rfl⟩).mono ?_)
      rintro e vy3 ⟨rfl, by3⟩
      have Dy3 : Below W9.heap.size W9 vy3 := Below.trans Dy2 (by3.mono (Below.size Dy2))
      go_wp2_with fail
      refine hK.out _ _ (HS.out _ Dy3) (fun hHeld => ?_)
      clear hK K hHeld
      try simp only [Act.put, List.setIfInBounds_toArray, List.set_cons_zero, List.set_cons_succ]
      refine seq_one _ rfl fun K hK => ?_
      go_simp
      (with_reducible refine (rsign_z gd Ad nd cd _ 0 (idd.below Dy3) HSg.out).mono ?_)
      rintro e vy4 ⟨rfl, by4⟩
      have Dy4 : Below W9.heap.size W9 vy4 := Below.trans Dy3 (by4.mono (Below.size Dy3))
      go_wp2_with fail
      refine hK.out _ _ (HS.out _ Dy4) (fun hHeld => ?_)
      clear hK K hHeld
      try simp only [Act.put, List.setIfInBounds_toArray, List.set_cons_zero, List.set_cons_succ]
      refine seq_take _ ?_ rfl (Or.inl ⟨by rfl, ?_⟩) ?_
      rotate_left
      · (intro w hSw; (try dsimp only at hSw); go_simp; (try with_reducible rfl))
      try simp only [Act.put, List.setIfInBounds_toArray, List.set_cons_zero, List.set_cons_succ]
      refine seq_take _ ?_ rfl (Or.inl ⟨by rfl, ?_⟩) ?_
      rotate_left
      · (intro w hSw; (try dsimp only at hSw); go_simp; (try with_reducible rfl))
      try simp only [Act.put, List.setIfInBounds_toArray, List.set_cons_zero, List.set_cons_succ]
      refine seq_take _ ?_ rfl (Or.inl ⟨by rfl, ?_⟩) ?_
      rotate_left
      · (intro w hSw; (try dsimp only at hSw); go_simp; (try with_reducible rfl))
      try simp only [Act.put, List.setIfInBounds_toArray, List.set_cons_zero, List.set_cons_succ]
      refine seq_take _ ?_ rfl (Or.inl ⟨by rfl, ?_⟩) ?_
      rotate_left
      · (intro w hSw; (try dsimp only at hSw); go_simp; (try with_reducible rfl))
      try simp only [Act.put, List.setIfInBounds_toArray, List.set_cons_zero, List.set_cons_succ]
      refine seq_take _ ?_ rfl (Or.inl ⟨by rfl, ?_⟩) ?_
      rotate_left
      · (intro w hSw; (try dsimp only at hSw); go_simp; (try with_reducible rfl))
      try simp only [Act.put, List.setIfInBounds_toArray, List.set_cons_zero, List.set_cons_succ]
      refine seq_take _ ?_ rfl (Or.inl ⟨by rfl, ?_⟩) ?_
      rotate_left
      · (intro w hSw; (try dsimp only at hSw); go_simp; (try with_reducible rfl))
      try simp only [Act.put, List.setIfInBounds_toArray, List.set_cons_zero, List.set_cons_succ]
      refine seq_take _ ?_ rfl (Or.inl ⟨by rfl, ?_⟩) ?_
      rotate_left
      · (intro w hSw; (try dsimp only at hSw); go_simp; (try with_reducible rfl))
      try simp only [Act.put, List.setIfInBounds_toArray, List.set_cons_zero, List.set_cons_succ]
      refine NoPanic.normal ?_
      go_wp2_with fail
      go_ret
      exact ⟨rfl, B.trans (Dy4.mono B.size)⟩
    · have HCb : Hid (¬ Cons (resOf L a) b) := fun h => hgap (hco.1 h)
      have hs0 : s = 1 := by rw [← hs]; unfold sgn; rw [if_neg (by omega), if_pos (by omega)]
      subst hs0
      have Dy0 : Below W9.heap.size W9 W9.drew := (Below.refl _ _).drew
      refine wp_region_seq (.pre [(0, true), (1, true), (2, true), (3, true), (4, true), (5, false), (6, true), (7, true), (8, true), (9, true), (11, true), (13, true), (10, false), (12, false), (14, false), (15, true), (16, true), (17, true), (18, true), (19, true), (20, true), (21, true)] .done) (fun W => (W.cell? ⟨w28.heap.size, 0, none⟩ = some (.bool gc) ∧ W.cell? ⟨w28.heap.size, 1, none⟩ = some (.slice Ac nc cc)) ∧ (W.cell? ⟨g13, 0, none⟩ = some (.bool gr) ∧ W.cell? ⟨g13, 1, none⟩ = some (.slice Ar nr cr)) ∧ (W.cell? ⟨g9, 0, none⟩ = some (.bool ga) ∧ W.cell? ⟨g9, 1, none⟩ = some (.slice Aa na ca)) ∧ (W.cell? ⟨g10, 0, none⟩ = some (.bool gb) ∧ W.cell? ⟨g10, 1, none⟩ = some (.slice Ab nb cb)) ∧ (W.cell? ⟨g18, 0, none⟩ = some (.bool gd) ∧ W.cell? ⟨g18, 1, none⟩ = some (.slice Ad nd cd))) (by kernel_rfl) (by kernel_rfl) ?_ (by kernel_rfl) (HS.out _ Dy0) ?_
      · refine chk_pre _ _ _ (by as_aux_lemma => kernel_rfl) ?_
        exact (by as_aux_lemma => kernel_rfl)
      refine seq_take _ ?_ rfl (Or.inl ⟨by rfl, ?_⟩) ?_
      rotate_left
      · (intro w hSw; (try dsimp only at hSw); go_simp; (try with_reducible rfl))
      try simp only [Act.put, List.setIfInBounds_toArray, List.set_cons_zero, List.set_cons_succ]
      refine seq_take _ ?_ rfl (Or.inl ⟨by rfl, ?_⟩) ?_
      rotate_left
      · (intro w hSw; (try dsimp only at hSw); go_simp; (try with_reducible rfl))
      try simp only [Act.put, List.setIfInBounds_toArray, List.set_cons_zero, List.set_cons_succ]
      refine seq_take _ ?_ rfl (Or.inl ⟨by rfl, ?_⟩) ?_
      rotate_left
      · (intro w hSw; (try dsimp only at hSw); go_simp; (try with_reducible rfl))
      try simp only [Act.put, List.setIfInBounds_toArray, List.set_cons_zero, List.set_cons_succ]
      refine seq_take _ ?_ rfl (Or.inl ⟨by rfl, ?_⟩) ?_
      rotate_left
      · (intro w hSw; (try dsimp only at hSw); go_simp; (try with_reducible rfl))
      try simp only [Act.put, List.setIfInBounds_toArray, List.set_cons_zero, List.set_cons_succ]
      refine seq_take _ ?_ rfl (Or.inl ⟨by rfl, ?_⟩) ?_
      rotate_left
      · (intro w hSw; (try dsimp only at hSw); go_simp; (try with_reducible rfl))
      try simp only [Act.put, List.setIfInBounds_toArray, List.set_cons_zero, List.set_cons_succ]
      refine seq_one _ rfl fun K hK => ?_
      go_simp
      (with_reducible refine (same_z gc gr Ac Ar nc cc nr cr _ (ic.below Dy0) (ir.below Dy0) (hzm.trans hzr)).mono ?_)
      rintro e vy1 ⟨rfl, by1⟩
      have Dy1 : Below W9.heap.size W9 vy1 := Below.trans Dy0 (by1.mono (Below.size Dy0))
      go_wp2_with fail
      refine hK.out _ _ (HS.out _ Dy1) (fun hHeld => ?_)
      clear hK K hHeld
      try simp only [Act.put, List.setIfInBounds_toArray, List.set_cons_zero, List.set_cons_succ]
      refine seq_take _ ?_ rfl (Or.inl ⟨by rfl, ?_⟩) ?_
      rotate_left
      · (intro w hSw; (try dsimp only at hSw); go_simp; (try with_reducible rfl))
      try simp only [Act.put, List.setIfInBounds_toArray, List.set_cons_zero, List.set_cons_succ]
      refine seq_take _ ?_ rfl (Or.inl ⟨by rfl, ?_⟩) ?_
      rotate_left
      · (intro w hSw; (try dsimp only at hSw); go_simp; (try with_reducible rfl))
      try simp only [Act.put, List.setIfInBounds_toArray, List.set_cons_zero, List.set_cons_succ]
      refine seq_take _ ?_ rfl (Or.inl ⟨by rfl, ?_⟩) ?_
      rotate_left
      · (intro w hSw; (try dsimp only at hSw); go_simp; (try with_reducible rfl))
      try simp only [Act.put, List.setIfInBounds_toArray, List.set_cons_zero, List.set_cons_succ]
      refine seq_take _ ?_ rfl (Or.inl ⟨by rfl, ?_⟩) ?_
      rotate_left
      · (intro w hSw; (try dsimp only at hSw); go_simp; (try with_reducible rfl))
      try simp only [Act.put, List.setIfInBounds_toArray, List.set_cons_zero, List.set_cons_succ]
      refine seq_take _ ?_ rfl (Or.inl ⟨by rfl, ?_⟩) ?_
      rotate_left
      · (intro w hSw; (try dsimp only at hSw); go_simp; (try with_reducible rfl))
      try simp only [Act.put, List.setIfInBounds_toArray, List.set_cons_zero, List.set_cons_succ]
      refine seq_take _ ?_ rfl (Or.inl ⟨by rfl, ?_⟩) ?_
      rotate_left
      · (intro w hSw; (try dsimp only at hSw); go_simp; (try with_reducible rfl))
      try simp only [Act.put, List.setIfInBounds_toArray, List.set_cons_zero, List.set_cons_succ]
      refine seq_one _ rfl fun K hK => ?_
      go_simp
      (with_reducible refine (rof4_z (some ⟨g, 0, none⟩) n c L ga Aa na ca _ ((O.keep Dy1).resL (hok.lt2 hpr)) (ia.below Dy1) (by omega) hpr hok Za (by decide)).mono ?_)
      rintro e vy2 ⟨go2, co2, rfl, Oo2, by2⟩
      have Dy2 : Below W9.heap.size W9 vy2 := Below.trans Dy1 (by2.mono (Below.size Dy1))
      go_wp2_with fail
      refine hK.out _ _ (HS.out _ Dy2) (fun hHeld => ?_)
      clear hK K hHeld
      try simp only [Act.put, List.setIfInBounds_toArray, List.set_cons_zero, List.set_cons_succ]
      refine seq_one _ rfl fun K hK => ?_
      go_simp
      (with_reducible refine (cons_b (some ⟨go2, 0, none⟩) n co2 (resOf L a) gb Ab nb cb false _ (Oo2.resL ((hok.of a).lt2 (hpr.of a))) (ib.below Dy2) (by omega) (HTT.out _ Dy2).1 (HTT.out _ Dy2).2 ⟨(fun h => by cases h), fun h => absurd h HCb.out⟩).mono ?_)
      rintro e vy3 ⟨rfl, by3⟩
      have Dy3 : Below W9.heap.size W9 vy3 := Below.trans Dy2 (by3.mono (Below.size Dy2))
      go_wp2_with fail
      refine hK.out _ _ (HS.out _ Dy3) (fun hHeld => ?_)
      clear hK K hHeld
      try simp only [Act.put, List.setIfInBounds_toArray, List.set_cons_zero, List.set_cons_succ]
      refine seq_one _ rfl fun K hK => ?_
      go_simp
      (with_reducible refine (rsign_z gd Ad nd cd _ 1 (idd.below Dy3) HSg.out).mono ?_)
      rintro e vy4 ⟨rfl, by4⟩
      have Dy4 : Below W9.heap.size W9 vy4 := Below.trans Dy3 (by4.mono (Below.size Dy3))
      go_wp2_with fail
      refine hK.out _ _ (HS.out _ Dy4) (fun hHeld => ?_)
      clear hK K hHeld
      try simp only [Act.put, List.setIfInBounds_toArray, List.set_cons_zero, List.set_cons_succ]
      refine seq_take _ ?_ rfl (Or.inl ⟨by rfl, ?_⟩) ?_
      rotate_left
      · (intro w hSw; (try dsimp only at hSw); go_simp; (try with_reducible rfl))
      try simp only [Act.put, List.setIfInBounds_toArray, List.set_cons_zero, List.set_cons_succ]
      refine seq_take _ ?_ rfl (Or.inl ⟨by rfl, ?_⟩) ?_
      rotate_left
      · (intro w hSw; (try dsimp only at hSw); go_simp; (try with_reducible rfl))
      try simp only [Act.put, List.setIfInBounds_toArray, List.set_cons_zero, List.set_cons_succ]
      refine seq_take _ ?_ rfl (Or.inl ⟨by rfl, ?_⟩) ?_
      rotate_left
      · (intro w hSw; (try dsimp only at hSw); go_simp; (try with_reducible rfl))
      try simp only [Act.put, List.setIfInBounds_toArray, List.set_cons_zero, List.set_cons_succ]
      refine seq_take _ ?_ rfl (Or.inl ⟨by rfl, ?_⟩) ?_
      rotate_left
      · (intro w hSw; (try dsimp only at hSw); go_simp; (try with_reducible rfl))
      try simp only [Act.put, List.setIfInBounds_toArray, List.set_cons_zero, List.set_cons_succ]
      refine seq_take _ ?_ rfl (Or.inl ⟨by rfl, ?_⟩) ?_
      rotate_left
      · (intro w hSw; (try dsimp only at hSw); go_simp; (try with_reducible rfl))
      try simp only [Act.put, List.setIfInBounds_toArray, List.set_cons_zero, List.set_cons_succ]
      refine seq_take _ ?_ rfl (Or.inl ⟨by rfl, ?_⟩) ?_
      rotate_left
      · (intro w hSw; (try dsimp only at hSw); go_simp; (try with_reducible rfl))
      try simp only [Act.put, List.setIfInBounds_toArray, List.set_cons_zero, List.set_cons_succ]
      refine seq_take _ ?_ rfl (Or.inl ⟨by rfl, ?_⟩) ?_
      rotate_left
      · (intro w hSw; (try dsimp only at hSw); go_simp; (try with_reducible rfl))
      try simp only [Act.put, List.setIfInBounds_toArray, List.set_cons_zero, List.set_cons_succ]
      refine NoPanic.normal ?_
      go_wp2_with fail
      go_ret
      exact ⟨rfl, B.trans (Dy4.mono B.size)⟩
  · skip
    have ht0 := cmpN_le0 ht hle
    have hzr : midZ a M = u := by unfold midZ; rw [hu, if_neg (by omega)]
    clear ht hle
    have Ds0 : Below W24.heap.size W24 W24.drew := (Below.refl _ _).drew
    refine wp_region_seq (.pre [(0, true), (1, true), (3, true), (2, false), (4, false), (5, true)] .done) (fun W => (W.cell? ⟨g13, 0, none⟩ = some (.bool gr) ∧ W.cell? ⟨g13, 1, none⟩ = some (.slice Ar nr cr)) ∧ (W.cell? ⟨w21.heap.size, 0, none⟩ = some (.bool gm) ∧ W.cell? ⟨w21.heap.size, 1, none⟩ = some (.slice Am nm cm))) (by kernel_rfl) (by kernel_rfl) ?_ (by kernel_rfl) (HS.out _ Ds0) ?_
    · refine chk_pre _ _ _ (by as_aux_lemma => kernel_rfl) ?_
      exact (by as_aux_lemma => kernel_rfl)
    refine seq_take _ ?_ rfl (Or.inl ⟨by rfl, ?_⟩) ?_
    rotate_left
    · (intro w hSw; (try dsimp only at hSw); go_simp; (try with_reducible rfl))
    try simp only [Act.put, List.setIfInBounds_toArray, List.set_cons_zero, List.set_cons_succ]
    refine seq_take _ ?_ rfl (Or.inl ⟨by rfl, ?_⟩) ?_
    rotate_left
    · (intro w hSw; (try dsimp only at hSw); go_simp; (try with_reducible rfl))
    try simp only [Act.put, List.setIfInBounds_toArray, List.set_cons_zero, List.set_cons_succ]
    refine seq_take _ ?_ rfl (Or.inl ⟨by rfl, ?_⟩) ?_
    rotate_left
    · (intro w hSw; (try dsimp only at hSw); go_simp; (try with_reducible rfl))
    try simp only [Act.put, List.setIfInBounds_toArray, List.set_cons_zero, List.set_cons_succ]
    refine seq_one _ rfl fun K hK => ?_
    go_simp
    (with_reducible refine (radd_z gr gr Ar Ar nr cr nr cr _ (ir.below Ds0) (ir.below Ds0) Zu Zu).mono ?_)
    rintro e vs1 ⟨gs1, As1, ns1, cs1, rfl, is1, bs1⟩
    have Ds1 : Below W24.heap.size W24 vs1 := Below.trans Ds0 (bs1.mono (Below.size Ds0))
    go_wp2_with fail
    refine hK.out _ _ (HS.out _ Ds1) (fun hHeld => ?_)
    clear hK K hHeld
    try simp only [Act.put, List.setIfInBounds_toArray, List.set_cons_zero, List.set_cons_succ]
    refine seq_one _ rfl fun K hK => ?_
    go_simp
    (with_reducible refine (rcmp_z gs1 gm As1 Am ns1 cs1 nm cm _ t is1 (im.below Ds1) Zuu ZM HT.out).mono ?_)
    rintro e vs2 ⟨rfl, bs2⟩
    have Ds2 : Below W24.heap.size W24 vs2 := Below.trans Ds1 (bs2.mono (Below.size Ds1))
    go_wp2_with fail
    refine hK.out _ _ (HS.out _ Ds2) (fun hHeld => ?_)
    clear hK K hHeld
    try simp only [Act.put, List.setIfInBounds_toArray, List.set_cons_zero, List.set_cons_succ]
    refine seq_take _ ?_ rfl (Or.inl ⟨by rfl, ?_⟩) ?_
    rotate_left
    · (intro w hSw; (try dsimp only at hSw); go_simp; (try with_reducible rfl))
    try simp only [Act.put, List.setIfInBounds_toArray, List.set_cons_zero, List.set_cons_succ]
    refine NoPanic.normal ?_
    replace Sa := Sa.after Ds2
    replace Sb := Sb.after Ds2
    replace ia := ia.below Ds2
    replace ib := ib.below Ds2
    replace O := O.keep Ds2
    replace im := im.below Ds2
    replace Sm := Sm.after Ds2
    replace ir := ir.below Ds2
    replace Sr := Sr.after Ds2
    replace B := B.trans (Ds2.mono B.size)
    clear Ds2
    clear Ds0 Ds1 bs1 bs2 is1 HS
    have ⟨Sac0, Sac1, _⟩ := Sa
    go_wp2_with fail
    (with_reducible refine (rof4_z (some ⟨g, 0, none⟩) n c L ga Aa na ca _ (O.resL (hok.lt2 hpr)) ia (by omega) hpr hok Za (by decide)).mono ?_)
    rintro e w25 ⟨go, co, rfl, Oo, bo⟩
    clear Sac0 Sac1
    replace Sa := Sa.after bo
    replace Sb := Sb.after bo
    replace ia := ia.below bo
    replace ib := ib.below bo
    replace O := O.keep bo
    replace im := im.below bo
    replace Sm := Sm.after bo
    replace ir := ir.below bo
    replace Sr := Sr.after bo
    replace B := B.trans (bo.mono B.size)
    clear bo
    go_wp2_with fail
    (with_reducible refine (comb_pr (some ⟨go, 0, none⟩) n co (resOf L a) _ (Oo.resL ((hok.of a).lt2 (hpr.of a))) (by omega) (hT.below B h5) (h5.le B.size) (hok.of a) (hpr.of a)).mono ?_)
    rintro e w26 ⟨gc, Ac, nc, cc, zc, rfl, ic, bc, hzc⟩
    replace Sa := Sa.after bc
    replace Sb := Sb.after bc
    replace ia := ia.below bc
    replace ib := ib.below bc
    replace O := O.keep bc
    replace im := im.below bc
    replace Sm := Sm.after bc
    replace ir := ir.below bc
    replace Sr := Sr.after bc
    replace B := B.trans (bc.mono B.size)
    clear bc
    have hzm := hzc.out.mid hok hpr
    rw [hM] at hzm
    have hal := (Below.refl w26.heap.size w26).alloc (Nat.le_refl _) (.cells #[.bool gc, .slice Ac nc cc] 28)
    have Sc := Slot2.new w26 (.bool gc) (.slice Ac nc cc) 28
    replace Sa := Sa.after hal
    replace Sb := Sb.after hal
    replace ia := ia.below hal
    replace ib := ib.below hal
    replace O := O.keep hal
    replace im := im.below hal
    replace Sm := Sm.after hal
    replace ir := ir.below hal
    replace Sr := Sr.after hal
    replace ic := ic.below hal
    replace B := B.trans (hal.mono B.size)
    clear hal
    go_upto_region 8 with (fail)
    generalize (w26.alloc (.cells #[.bool gc, .slice Ac nc cc] 28)) = W27 at *
    have Zab := Za.sub Zb (by decide)
    have HX : Hid (∀ V, Below W27.heap.size W27 V → ((V.cell? ⟨g9, 0, none⟩ = some (.bool ga) ∧ V.cell? ⟨g9, 1, none⟩ = some (.slice Aa na ca)) ∧ (V.cell? ⟨g10, 0, none⟩ = some (.bool gb) ∧ V.cell? ⟨g10, 1, none⟩ = some (.slice Ab nb cb))) ∧ (V.cell? ⟨w21.heap.size, 0, none⟩ = some (.bool gm) ∧ V.cell? ⟨w21.heap.size, 1, none⟩ = some (.slice Am nm cm))) := fun V hV => ⟨⟨⟨(Sa.after hV).1, (Sa.after hV).2.1⟩, (Sb.after hV).1, (Sb.after hV).2.1⟩, (Sm.after hV).1, (Sm.after hV).2.1⟩
    have HI : Hid (∀ V, Below W27.heap.size W27 V → IsInt V ga Aa na ca a ∧ IsInt V gb Ab nb cb b ∧ IsInt V gm Am nm cm M) := fun V hV => ⟨ia.below hV, ib.below hV, im.below hV⟩
    go_cut [17, 18] (fun p17 p18 wx => ∃ g17 g18, p17 = .pointer (some ⟨g17, 0, none⟩) ∧ p18 = .pointer (some ⟨g18, 0, none⟩) ∧ IntAt wx g18 ((a - b) % M) ∧ Below W27.heap.size W27 wx)
    case first =>
      as_aux_lemma =>
        refine wp_region_ev (fun d a0 a' w' => ∃ u53 u54 u55 u56 u57 u52 u58 u59 u60 u17 u18 u19 : Value, a' = ((((((((((((a0.put (some 53) u53).put (some 54) u54).put (some 55) u55).put (some 56) u56).put (some 57) u57).put (some 52) u52).put (some 58) u58).put (some 59) u59).put (some 60) u60).put (some 17) u17).put (some 18) u18).put (some 19) u19) ∧ Below W27.heap.size W27 w' ∧ (d 0 = true → u53 = .agg #[.bool ga, .slice Aa na ca]) ∧ (d 1 = true → u54 = .agg #[.bool gb, .slice Ab nb cb]) ∧ (d 2 = true → IntV w' u55 (a - b)) ∧ (d 3 = true → u56 = .agg #[.bool gm, .slice Am nm cm]) ∧ (d 4 = true → TupV w' u57 ((a - b) / M) ((a - b) % M) (0)) ∧ (d 5 = true → TupV w' u52 ((a - b) / M) ((a - b) % M) (0)) ∧ (d 6 = true → IntV w' u58 ((a - b) / M)) ∧ (d 7 = true → IntV w' u59 ((a - b) % M)) ∧ (d 8 = true → u60 = .int .i64 (0)) ∧ (d 13 = true → u19 = .int .i64 (0)) ∧ (d 9 = true → OwnP W27.heap.size w' u17 (d 11) ((a - b) / M)) ∧ (d 10 = true → OwnP W27.heap.size w' u18 (d 12) ((a - b) % M)) ∧ (d 9 = true → d 10 = true → u17 ≠ u18) ∧ (d 11 = true → d 9 = true) ∧ (d 12 = true → d 10 = true)) (by kernel_rfl) (by kernel_rfl) ?_ ?_ ?_ ?_
        · intro d d' h a' w' hh
          obtain rfl : d = d' := funext h
          exact hh
        · exact ⟨_, _, _, _, _, _, _, _, _, _, _, _, (by simp only [Act.put, List.setIfInBounds_toArray, List.set_cons_zero, List.set_cons_succ]; rfl), (Below.refl _ _).drew, (fun h => by cases h), (fun h => by cases h), (fun h => by cases h), (fun h => by cases h), (fun h => by cases h), (fun h => by cases h), (fun h => by cases h), (fun h => by cases h), (fun h => by cases h), (fun h => by cases h), (fun h => by cases h), (fun h => by cases h), (fun h => by cases h), (fun h => by cases h), (fun h => by cases h)⟩
        · refine ⟨?_, ?_, ?_, ?_, ?_, ?_, ?_, ?_, ?_, ?_, ?_, ?_, ?_, ?_, trivial⟩
          · intro d a2 w2 hd hm ⟨u53, u54, u55, u56, u57, u52, u58, u59, u60, u17, u18, u19, e, HB, f0, f1, f2, f3, f4, f5, f6, f7, f8, f13, f9, f10, n01, t0, t1⟩ K hK
            subst e
            simp only [Act.put, List.setIfInBounds_toArray, List.set_cons_zero, List.set_cons_succ]
            obtain ⟨⟨⟨q0, q1⟩, q2, q3⟩, q4, q5⟩ := HX.out w2 HB
            go_simp
            exact hK.out _ _ ⟨.agg #[.bool ga, .slice Aa na ca], u54, u55, u56, u57, u52, u58, u59, u60, u17, u18, u19, (by simp only [Act.put, List.setIfInBounds_toArray, List.set_cons_zero, List.set_cons_succ]), HB, (fun _ => rfl), (fun h => f1 (by simpa using h)), (fun h => (f2 (by simpa using h))), (fun h => f3 (by simpa using h)), (fun h => (f4 (by simpa using h))), (fun h => (f5 (by simpa using h))), (fun h => (f6 (by simpa using h))), (fun h => (f7 (by simpa using h))), (fun h => f8 (by simpa using h)), (fun h => f13 (by simpa using h)), (fun h => by simpa using (f9 (by simpa using h))), (fun h => by simpa using (f10 (by simpa using h))), (fun h h' => n01 (by simpa using h) (by simpa using h')), (fun h => by simpa using t0 (by simpa using h)), (fun h => by simpa using t1 (by simpa using h))⟩
          · intro d a2 w2 hd hm ⟨u53, u54, u55, u56, u57, u52, u58, u59, u60, u17, u18, u19, e, HB, f0, f1, f2, f3, f4, f5, f6, f7, f8, f13, f9, f10, n01, t0, t1⟩ K hK
            subst e
            simp only [Act.put, List.setIfInBounds_toArray, List.set_cons_zero, List.set_cons_succ]
            obtain ⟨⟨⟨q0, q1⟩, q2, q3⟩, q4, q5⟩ := HX.out w2 HB
            go_simp
            exact hK.out _ _ ⟨u53, .agg #[.bool gb, .slice Ab nb cb], u55, u56, u57, u52, u58, u59, u60, u17, u18, u19, (by simp only [Act.put, List.setIfInBounds_toArray, List.set_cons_zero, List.set_cons_succ]), HB, (fun h => f0 (by simpa using h)), (fun _ => rfl), (fun h => (f2 (by simpa using h))), (fun h => f3 (by simpa using h)), (fun h => (f4 (by simpa using h))), (fun h => (f5 (by simpa using h))), (fun h => (f6 (by simpa using h))), (fun h => (f7 (by simpa using h))), (fun h => f8 (by simpa using h)), (fun h => f13 (by simpa using h)), (fun h => by simpa using (f9 (by simpa using h))), (fun h => by simpa using (f10 (by simpa using h))), (fun h h' => n01 (by simpa using h) (by simpa using h')), (fun h => by simpa using t0 (by simpa using h)), (fun h => by simpa using t1 (by simpa using h))⟩
          · intro d a2 w2 hd hm ⟨u53, u54, u55, u56, u57, u52, u58, u59, u60, u17, u18, u19, e, HB, f0, f1, f2, f3, f4, f5, f6, f7, f8, f13, f9, f10, n01, t0, t1⟩ K hK
            subst e
            simp only [Act.put, List.setIfInBounds_toArray, List.set_cons_zero, List.set_cons_succ]
            obtain rfl := f0 (hm ⟨0, .data⟩ (by simp) rfl)
            clear f0
            obtain rfl := f1 (hm ⟨1, .data⟩ (by simp) rfl)
            clear f1
            go_simp
            (with_reducible refine (rsub_z ga gb Aa Ab na ca nb cb _ (HI.out _ HB).1 (HI.out _ HB).2.1 Za Zb).mono ?_)
            rintro e w3 ⟨gg, AA, nn, cc, rfl, hi, hb⟩
            have HB3 := HB.trans (hb.mono HB.size)
            go_wp2_with fail
            exact hK.out _ _ ⟨.agg #[.bool ga, .slice Aa na ca], .agg #[.bool gb, .slice Ab nb cb], .agg #[.bool gg, .slice AA nn cc], u56, u57, u52, u58, u59, u60, u17, u18, u19, (by simp only [Act.put, List.setIfInBounds_toArray, List.set_cons_zero, List.set_cons_succ]), HB3, (fun _ => rfl), (fun _ => rfl), (fun _ => ⟨_, _, _, _, rfl, hi⟩), (fun h => f3 (by simpa using h)), (fun h => (f4 (by simpa using h)).below hb), (fun h => (f5 (by simpa using h)).below hb), (fun h => (f6 (by simpa using h)).below hb), (fun h => (f7 (by simpa using h)).below hb), (fun h => f8 (by simpa using h)), (fun h => f13 (by simpa using h)), (fun h => by simpa using (f9 (by simpa using h)).below hb), (fun h => by simpa using (f10 (by simpa using h)).below hb), (fun h h' => n01 (by simpa using h) (by simpa using h')), (fun h => by simpa using t0 (by simpa using h)), (fun h => by simpa using t1 (by simpa using h))⟩
          · intro d a2 w2 hd hm ⟨u53, u54, u55, u56, u57, u52, u58, u59, u60, u17, u18, u19, e, HB, f0, f1, f2, f3, f4, f5, f6, f7, f8, f13, f9, f10, n01, t0, t1⟩ K hK
            subst e
            simp only [Act.put, List.setIfInBounds_toArray, List.set_cons_zero, List.set_cons_succ]
            obtain ⟨⟨⟨q0, q1⟩, q2, q3⟩, q4, q5⟩ := HX.out w2 HB
            go_simp
            exact hK.out _ _ ⟨u53, u54, u55, .agg #[.bool gm, .slice Am nm cm], u57, u52, u58, u59, u60, u17, u18, u19, (by simp only [Act.put, List.setIfInBounds_toArray, List.set_cons_zero, List.set_cons_succ]), HB, (fun h => f0 (by simpa using h)), (fun h => f1 (by simpa using h)), (fun h => (f2 (by simpa using h))), (fun _ => rfl), (fun h => (f4 (by simpa using h))), (fun h => (f5 (by simpa using h))), (fun h => (f6 (by simpa using h))), (fun h => (f7 (by simpa using h))), (fun h => f8 (by simpa using h)), (fun h => f13 (by simpa using h)), (fun h => by simpa using (f9 (by simpa using h))), (fun h => by simpa using (f10 (by simpa using h))), (fun h h' => n01 (by simpa using h) (by simpa using h')), (fun h => by simpa using t0 (by simpa using h)), (fun h => by simpa using t1 (by simpa using h))⟩
          · intro d a2 w2 hd hm ⟨u53, u54, u55, u56, u57, u52, u58, u59, u60, u17, u18, u19, e, HB, f0, f1, f2, f3, f4, f5, f6, f7, f8, f13, f9, f10, n01, t0, t1⟩ K hK
            subst e
            simp only [Act.put, List.setIfInBounds_toArray, List.set_cons_zero, List.set_cons_succ]
            obtain ⟨G2, A2, N2, C2, rfl, I2⟩ := f2 (hm ⟨2, .data⟩ (by simp) rfl)
            obtain rfl := f3 (hm ⟨3, .data⟩ (by simp) rfl)
            clear f3
            go_simp
            (with_reducible refine (rdm_z G2 gm A2 Am N2 C2 nm cm _ I2 (HI.out _ HB).2.2 Zab ZM (by omega) (by decide)).mono ?_)
            rintro e w3 ⟨g1, A1', n1', c1', g2, A2', n2', c2', rfl, hi1, hi2, hb⟩
            have HB3 := HB.trans (hb.mono HB.size)
            go_wp2_with fail
            exact hK.out _ _ ⟨u53, u54, .agg #[.bool G2, .slice A2 N2 C2], .agg #[.bool gm, .slice Am nm cm], .tuple #[.agg #[.bool g1, .slice A1' n1' c1'], .agg #[.bool g2, .slice A2' n2' c2'], .int .i64 (0)], u52, u58, u59, u60, u17, u18, u19, (by simp only [Act.put, List.setIfInBounds_toArray, List.set_cons_zero, List.set_cons_succ]), HB3, (fun h => f0 (by simpa using h)), (fun h => f1 (by simpa using h)), (fun h => (f2 (by simpa using h)).below hb), (fun _ => rfl), (fun _ => ⟨_, _, rfl, ⟨_, _, _, _, rfl, hi1⟩, ⟨_, _, _, _, rfl, hi2⟩⟩), (fun h => (f5 (by simpa using h)).below hb), (fun h => (f6 (by simpa using h)).below hb), (fun h => (f7 (by simpa using h)).below hb), (fun h => f8 (by simpa using h)), (fun h => f13 (by simpa using h)), (fun h => by simpa using (f9 (by simpa using h)).below hb), (fun h => by simpa using (f10 (by simpa using h)).below hb), (fun h h' => n01 (by simpa using h) (by simpa using h')), (fun h => by simpa using t0 (by simpa using h)), (fun h => by simpa using t1 (by simpa using h))⟩
          · intro d a2 w2 hd hm ⟨u53, u54, u55, u56, u57, u52, u58, u59, u60, u17, u18, u19, e, HB, f0, f1, f2, f3, f4, f5, f6, f7, f8, f13, f9, f10, n01, t0, t1⟩ K hK
            subst e
            simp only [Act.put, List.setIfInBounds_toArray, List.set_cons_zero, List.set_cons_succ]
            obtain ⟨V4, U4, rfl, I4, J4⟩ := f4 (hm ⟨4, .data⟩ (by simp) rfl)
            go_simp
            exact hK.out _ _ ⟨u53, u54, u55, u56, .tuple #[V4, U4, .int .i64 (0)], .tuple #[V4, U4, .int .i64 (0)], u58, u59, u60, u17, u18, u19, (by simp only [Act.put, List.setIfInBounds_toArray, List.set_cons_zero, List.set_cons_succ]), HB, (fun h => f0 (by simpa using h)), (fun h => f1 (by simpa using h)), (fun h => (f2 (by simpa using h))), (fun h => f3 (by simpa using h)), (fun h => (f4 (by simpa using h))), (fun _ => ⟨V4, U4, rfl, I4, J4⟩), (fun h => (f6 (by simpa using h))), (fun h => (f7 (by simpa using h))), (fun h => f8 (by simpa using h)), (fun h => f13 (by simpa using h)), (fun h => by simpa using (f9 (by simpa using h))), (fun h => by simpa using (f10 (by simpa using h))), (fun h h' => n01 (by simpa using h) (by simpa using h')), (fun h => by simpa using t0 (by simpa using h)), (fun h => by simpa using t1 (by simpa using h))⟩
          · intro d a2 w2 hd hm ⟨u53, u54, u55, u56, u57, u52, u58, u59, u60, u17, u18, u19, e, HB, f0, f1, f2, f3, f4, f5, f6, f7, f8, f13, f9, f10, n01, t0, t1⟩ K hK
            subst e
            simp only [Act.put, List.setIfInBounds_toArray, List.set_cons_zero, List.set_cons_succ]
            obtain ⟨V5, U5, rfl, I5, J5⟩ := f5 (hm ⟨5, .data⟩ (by simp) rfl)
            go_simp
            exact hK.out _ _ ⟨u53, u54, u55, u56, u57, .tuple #[V5, U5, .int .i64 (0)], V5, u59, u60, u17, u18, u19, (by simp only [Act.put, List.setIfInBounds_toArray, List.set_cons_zero, List.set_cons_succ]), HB, (fun h => f0 (by simpa using h)), (fun h => f1 (by simpa using h)), (fun h => (f2 (by simpa using h))), (fun h => f3 (by simpa using h)), (fun h => (f4 (by simpa using h))), (fun h => (f5 (by simpa using h))), (fun _ => I5), (fun h => (f7 (by simpa using h))), (fun h => f8 (by simpa using h)), (fun h => f13 (by simpa using h)), (fun h => by simpa using (f9 (by simpa using h))), (fun h => by simpa using (f10 (by simpa using h))), (fun h h' => n01 (by simpa using h) (by simpa using h')), (fun h => by simpa using t0 (by simpa using h)), (fun h => by simpa using t1 (by simpa using h))⟩
          · intro d a2 w2 hd hm ⟨u53, u54, u55, u56, u57, u52, u58, u59, u60, u17, u18, u19, e, HB, f0, f1, f2, f3, f4, f5, f6, f7, f8, f13, f9, f10, n01, t0, t1⟩ K hK
            subst e
            simp only [Act.put, List.setIfInBounds_toArray, List.set_cons_zero, List.set_cons_succ]
            obtain ⟨V5, U5, rfl, I5, J5⟩ := f5 (hm ⟨5, .data⟩ (by simp) rfl)
            go_simp
            exact hK.out _ _ ⟨u53, u54, u55, u56, u57, .tuple #[V5, U5, .int .i64 (0)], u58, U5, u60, u17, u18, u19, (by simp only [Act.put, List.setIfInBounds_toArray, List.set_cons_zero, List.set_cons_succ]), HB, (fun h => f0 (by simpa using h)), (fun h => f1 (by simpa using h)), (fun h => (f2 (by simpa using h))), (fun h => f3 (by simpa using h)), (fun h => (f4 (by simpa using h))), (fun h => (f5 (by simpa using h))), (fun h => (f6 (by simpa using h))), (fun _ => J5), (fun h => f8 (by simpa using h)), (fun h => f13 (by simpa using h)), (fun h => by simpa using (f9 (by simpa using h))), (fun h => by simpa using (f10 (by simpa using h))), (fun h h' => n01 (by simpa using h) (by simpa using h')), (fun h => by simpa using t0 (by simpa using h)), (fun h => by simpa using t1 (by simpa using h))⟩
          · intro d a2 w2 hd hm ⟨u53, u54, u55, u56, u57, u52, u58, u59, u60, u17, u18, u19, e, HB, f0, f1, f2, f3, f4, f5, f6, f7, f8, f13, f9, f10, n01, t0, t1⟩ K hK
            subst e
            simp only [Act.put, List.setIfInBounds_toArray, List.set_cons_zero, List.set_cons_succ]
            obtain ⟨V5, U5, rfl, I5, J5⟩ := f5 (hm ⟨5, .data⟩ (by simp) rfl)
            go_simp
            exact hK.out _ _ ⟨u53, u54, u55, u56, u57, .tuple #[V5, U5, .int .i64 (0)], u58, u59, .int .i64 (0), u17, u18, u19, (by simp only [Act.put, List.setIfInBounds_toArray, List.set_cons_zero, List.set_cons_succ]), HB, (fun h => f0 (by simpa using h)), (fun h => f1 (by simpa using h)), (fun h => (f2 (by simpa using h))), (fun h => f3 (by simpa using h)), (fun h => (f4 (by simpa using h))), (fun h => (f5 (by simpa using h))), (fun h => (f6 (by simpa using h))), (fun h => (f7 (by simpa using h))), (fun _ => rfl), (fun h => f13 (by simpa using h)), (fun h => by simpa using (f9 (by simpa using h))), (fun h => by simpa using (f10 (by simpa using h))), (fun h h' => n01 (by simpa using h) (by simpa using h')), (fun h => by simpa using t0 (by simpa using h)), (fun h => by simpa using t1 (by simpa using h))⟩
          · intro d a2 w2 hd hm ⟨u53, u54, u55, u56, u57, u52, u58, u59, u60, u17, u18, u19, e, HB, f0, f1, f2, f3, f4, f5, f6, f7, f8, f13, f9, f10, n01, t0, t1⟩ K hK
            subst e
            simp only [Act.put, List.setIfInBounds_toArray, List.set_cons_zero, List.set_cons_succ]
            have hb : Below w2.heap.size w2 (w2.alloc (.cells #[.bool false, .slice none 0 0] 28)) := (Below.refl _ _).alloc (Nat.le_refl _) _
            have HB3 := HB.trans (hb.mono HB.size)
            go_simp
            exact hK.out _ _ ⟨u53, u54, u55, u56, u57, u52, u58, u59, u60, .pointer (some ⟨w2.heap.size, 0, none⟩), u18, u19, (by simp only [Act.put, List.setIfInBounds_toArray, List.set_cons_zero, List.set_cons_succ]), HB3, (fun h => f0 (by simpa using h)), (fun h => f1 (by simpa using h)), (fun h => (f2 (by simpa using h)).below hb), (fun h => f3 (by simpa using h)), (fun h => (f4 (by simpa using h)).below hb), (fun h => (f5 (by simpa using h)).below hb), (fun h => (f6 (by simpa using h)).below hb), (fun h => (f7 (by simpa using h)).below hb), (fun h => f8 (by simpa using h)), (fun h => f13 (by simpa using h)), (fun _ => by have hs : d 11 = false := (by cases hq : d 11 with | false => rfl | true => (have hz := t0 hq; rw [hd] at hz; cases hz)); simpa [hs] using OwnP.new HB.size ((a - b) / M)), (fun h => by simpa using (f10 (by simpa using h)).below hb), (fun _ h' => ((f10 (by simpa using h')).lt).symm), (fun _ => by simp), (fun h => by simpa using t1 (by simpa using h))⟩
          · intro d a2 w2 hd hm ⟨u53, u54, u55, u56, u57, u52, u58, u59, u60, u17, u18, u19, e, HB, f0, f1, f2, f3, f4, f5, f6, f7, f8, f13, f9, f10, n01, t0, t1⟩ K hK
            subst e
            simp only [Act.put, List.setIfInBounds_toArray, List.set_cons_zero, List.set_cons_succ]
            have hb : Below w2.heap.size w2 (w2.alloc (.cells #[.bool false, .slice none 0 0] 28)) := (Below.refl _ _).alloc (Nat.le_refl _) _
            have HB3 := HB.trans (hb.mono HB.size)
            go_simp
            exact hK.out _ _ ⟨u53, u54, u55, u56, u57, u52, u58, u59, u60, u17, .pointer (some ⟨w2.heap.size, 0, none⟩), u19, (by simp only [Act.put, List.setIfInBounds_toArray, List.set_cons_zero, List.set_cons_succ]), HB3, (fun h => f0 (by simpa using h)), (fun h => f1 (by simpa using h)), (fun h => (f2 (by simpa using h)).below hb), (fun h => f3 (by simpa using h)), (fun h => (f4 (by simpa using h)).below hb), (fun h => (f5 (by simpa using h)).below hb), (fun h => (f6 (by simpa using h)).below hb), (fun h => (f7 (by simpa using h)).below hb), (fun h => f8 (by simpa using h)), (fun h => f13 (by simpa using h)), (fun h => by simpa using (f9 (by simpa using h)).below hb), (fun _ => by have hs : d 12 = false := (by cases hq : d 12 with | false => rfl | true => (have hz := t1 hq; rw [hd] at hz; cases hz)); simpa [hs] using OwnP.new HB.size ((a - b) % M)), (fun h _ => (f9 (by simpa using h)).lt), (fun h => by simpa using t0 (by simpa using h)), (fun _ => by simp)⟩
          · intro d a2 w2 hd hm ⟨u53, u54, u55, u56, u57, u52, u58, u59, u60, u17, u18, u19, e, HB, f0, f1, f2, f3, f4, f5, f6, f7, f8, f13, f9, f10, n01, t0, t1⟩ K hK
            subst e
            simp only [Act.put, List.setIfInBounds_toArray, List.set_cons_zero, List.set_cons_succ]
            obtain ⟨gg, AA, nn, cc, rfl, hi⟩ := f6 (hm ⟨6, .data⟩ (by simp) rfl)
            obtain ⟨g, rfl, hg, b0, b1, hs, n0, n1, _⟩ := f9 (hm ⟨9, .data⟩ (by simp) rfl)
            obtain ⟨k0, k1, k2, k3, k4⟩ := id hs
            go_simp
            exact hK.out _ _ ⟨u53, u54, u55, u56, u57, u52, .agg #[.bool gg, .slice AA nn cc], u59, u60, .pointer (some ⟨g, 0, none⟩), u18, u19, (by simp only [Act.put, List.setIfInBounds_toArray, List.set_cons_zero, List.set_cons_succ]), Below.set2 HB hg _ _, (fun h => f0 (by simpa using h)), (fun h => f1 (by simpa using h)), (fun h => (f2 (by simpa using h)).set2 hs n0 n1 _ _), (fun h => f3 (by simpa using h)), (fun h => (f4 (by simpa using h)).set2 hs n0 n1 _ _), (fun h => (f5 (by simpa using h)).set2 hs n0 n1 _ _), (fun h => (f6 (by simpa using h)).set2 hs n0 n1 _ _), (fun h => (f7 (by simpa using h)).set2 hs n0 n1 _ _), (fun h => f8 (by simpa using h)), (fun h => f13 (by simpa using h)), (fun _ => by simpa using OwnP.near hi hg hs n0 n1), (fun h => by simpa using (f10 (by simpa using h)).far ((n01 (hm ⟨9, .data⟩ (by simp) rfl) (by simpa using h)).symm) hs n0 n1 _ _), (fun h h' => n01 (by simpa using h) (by simpa using h')), (fun _ => by simpa using hm ⟨9, .data⟩ (by simp) rfl), (fun h => by simpa using t1 (by simpa using h))⟩
          · intro d a2 w2 hd hm ⟨u53, u54, u55, u56, u57, u52, u58, u59, u60, u17, u18, u19, e, HB, f0, f1, f2, f3, f4, f5, f6, f7, f8, f13, f9, f10, n01, t0, t1⟩ K hK
            subst e
            simp only [Act.put, List.setIfInBounds_toArray, List.set_cons_zero, List.set_cons_succ]
            obtain ⟨gg, AA, nn, cc, rfl, hi⟩ := f7 (hm ⟨7, .data⟩ (by simp) rfl)
            obtain ⟨g, rfl, hg, b0, b1, hs, n0, n1, _⟩ := f10 (hm ⟨10, .data⟩ (by simp) rfl)
            obtain ⟨k0, k1, k2, k3, k4⟩ := id hs
            go_simp
            exact hK.out _ _ ⟨u53, u54, u55, u56, u57, u52, u58, .agg #[.bool gg, .slice AA nn cc], u60, u17, .pointer (some ⟨g, 0, none⟩), u19, (by simp only [Act.put, List.setIfInBounds_toArray, List.set_cons_zero, List.set_cons_succ]), Below.set2 HB hg _ _, (fun h => f0 (by simpa using h)), (fun h => f1 (by simpa using h)), (fun h => (f2 (by simpa using h)).set2 hs n0 n1 _ _), (fun h => f3 (by simpa using h)), (fun h => (f4 (by simpa using h)).set2 hs n0 n1 _ _), (fun h => (f5 (by simpa using h)).set2 hs n0 n1 _ _), (fun h => (f6 (by simpa using h)).set2 hs n0 n1 _ _), (fun h => (f7 (by simpa using h)).set2 hs n0 n1 _ _), (fun h => f8 (by simpa using h)), (fun h => f13 (by simpa using h)), (fun h => by simpa using (f9 (by simpa using h)).far (n01 (by simpa using h) (hm ⟨10, .data⟩ (by simp) rfl)) hs n0 n1 _ _), (fun _ => by simpa using OwnP.near hi hg hs n0 n1), (fun h h' => n01 (by simpa using h) (by simpa using h')), (fun h => by simpa using t0 (by simpa using h)), (fun _ => by simpa using hm ⟨10, .data⟩ (by simp) rfl)⟩
          · intro d a2 w2 hd hm ⟨u53, u54, u55, u56, u57, u52, u58, u59, u60, u17, u18, u19, e, HB, f0, f1, f2, f3, f4, f5, f6, f7, f8, f13, f9, f10, n01, t0, t1⟩ K hK
            subst e
            simp only [Act.put, List.setIfInBounds_toArray, List.set_cons_zero, List.set_cons_succ]
            obtain rfl := f8 (hm ⟨8, .data⟩ (by simp) rfl)
            clear f8
            go_simp
            exact hK.out _ _ ⟨u53, u54, u55, u56, u57, u52, u58, u59, .int .i64 (0), u17, u18, .int .i64 (0), (by simp only [Act.put, List.setIfInBounds_toArray, List.set_cons_zero, List.set_cons_succ]), HB, (fun h => f0 (by simpa using h)), (fun h => f1 (by simpa using h)), (fun h => (f2 (by simpa using h))), (fun h => f3 (by simpa using h)), (fun h => (f4 (by simpa using h))), (fun h => (f5 (by simpa using h))), (fun h => (f6 (by simpa using h))), (fun h => (f7 (by simpa using h))), (fun _ => rfl), (fun _ => rfl), (fun h => by simpa using (f9 (by simpa using h))), (fun h => by simpa using (f10 (by simpa using h))), (fun h h' => n01 (by simpa using h) (by simpa using h')), (fun h => by simpa using t0 (by simpa using h)), (fun h => by simpa using t1 (by simpa using h))⟩
        · intro d a2 w2 hall ⟨u53, u54, u55, u56, u57, u52, u58, u59, u60, u17, u18, u19, e, HB, f0, f1, f2, f3, f4, f5, f6, f7, f8, f13, f9, f10, n01, t0, t1⟩
          subst e
          simp only [Act.put, List.setIfInBounds_toArray, List.set_cons_zero, List.set_cons_succ]
          obtain rfl := f0 (hall _ (by decide))
          obtain rfl := f1 (hall _ (by decide))
          obtain rfl := f3 (hall _ (by decide))
          obtain rfl := f8 (hall _ (by decide))
          obtain rfl := f13 (hall _ (by decide))
          obtain ⟨g0, rfl, h0, b0⟩ := OwnP.intAtB (by have := f9 (hall _ (by decide)); rwa [hall 11 (by decide)] at this)
          obtain ⟨g1, rfl, h1, b1⟩ := OwnP.intAtB (by have := f10 (hall _ (by decide)); rwa [hall 12 (by decide)] at this)
          go_wp2_with fail
          go_meet
          exact ⟨g0, g1, rfl, rfl, h1, HB⟩
    case rest =>
    obtain ⟨g17, g18, rfl, rfl, ⟨gd, Ad, nd, cd, Sd, idd⟩, D⟩ := hcut
    obtain ⟨W9, rfl⟩ : ∃ x : World, x = wc := ⟨_, rfl⟩
    clear HX HI
    replace Sa := Sa.after D
    replace Sb := Sb.after D
    replace ia := ia.below D
    replace ib := ib.below D
    replace O := O.keep D
    replace im := im.below D
    replace Sm := Sm.after D
    replace ir := ir.below D
    replace Sr := Sr.after D
    replace ic := ic.below D
    replace Sc := Sc.after D
    replace B := B.trans (D.mono B.size)
    clear D
    obtain ⟨s, hs⟩ : ∃ s, sgn ((a - b) % M) = s := ⟨_, rfl⟩
    have HSg := Lib.hid hs
    have hgp : 0 ≤ (a - b) % M := Int.emod_nonneg _ (by omega)
    have hco := cons_of hok hpr a b
    rw [hM] at hco
    have HS : Hid (∀ V, Below W9.heap.size W9 V → (V.cell? ⟨w26.heap.size, 0, none⟩ = some (.bool gc) ∧ V.cell? ⟨w26.heap.size, 1, none⟩ = some (.slice Ac nc cc)) ∧ (V.cell? ⟨g13, 0, none⟩ = some (.bool gr) ∧ V.cell? ⟨g13, 1, none⟩ = some (.slice Ar nr cr)) ∧ (V.cell? ⟨g9, 0, none⟩ = some (.bool ga) ∧ V.cell? ⟨g9, 1, none⟩ = some (.slice Aa na ca)) ∧ (V.cell? ⟨g10, 0, none⟩ = some (.bool gb) ∧ V.cell? ⟨g10, 1, none⟩ = some (.slice Ab nb cb)) ∧ (V.cell? ⟨g18, 0, none⟩ = some (.bool gd) ∧ V.cell? ⟨g18, 1, none⟩ = some (.slice Ad nd cd))) := fun V hV => ⟨⟨(Sc.after hV).1, (Sc.after hV).2.1⟩, ⟨(Sr.after hV).1, (Sr.after hV).2.1⟩, ⟨(Sa.after hV).1, (Sa.after hV).2.1⟩, ⟨(Sb.after hV).1, (Sb.after hV).2.1⟩, (Sd.after hV).1, (Sd.after hV).2.1⟩
    go_upto_region 9 with (fail)
    have HTT : Hid (∀ V, Below W9.heap.size W9 V → TabW V ∧ TabN V.heap.size) := fun V hV => ⟨hT.below (B.trans (hV.mono B.size)) h5, h5.le (B.trans (hV.mono B.size)).size⟩
    by_cases hgap : (a - b) % M = 0
    · have HCb : Hid (Cons (resOf L a) b) := hco.2 hgap
      have hs0 : s = 0 := by rw [← hs]; unfold sgn; rw [hgap]; rfl
      subst hs0
      have Dy0 : Below W9.heap.size W9 W9.drew := (Below.refl _ _).drew
      refine wp_region_seq (.pre [(0, true), (1, true), (2, true), (3, true), (4, true), (5, false), (6, true), (7, true), (8, true), (9, true), (11, true), (13, true), (10, false), (12, false), (14, false), (15, true), (16, true), (17, true), (18, true), (19, true), (20, true), (21, true)] .done) (fun W => (W.cell? ⟨w26.heap.size, 0, none⟩ = some (.bool gc) ∧ W.cell? ⟨w26.heap.size, 1, none⟩ = some (.slice Ac nc cc)) ∧ (W.cell? ⟨g13, 0, none⟩ = some (.bool gr) ∧ W.cell? ⟨g13, 1, none⟩ = some (.slice Ar nr cr)) ∧ (W.cell? ⟨g9, 0, none⟩ = some (.bool ga) ∧ W.cell? ⟨g9, 1, none⟩ = some (.slice Aa na ca)) ∧ (W.cell? ⟨g10, 0, none⟩ = some (.bool gb) ∧ W.cell? ⟨g10, 1, none⟩ = some (.slice Ab nb cb)) ∧ (W.cell? ⟨g18, 0, none⟩ = some (.bool gd) ∧ W.cell? ⟨g18, 1, none⟩ = some (.slice Ad nd cd))) (by kernel_rfl) (by kernel_rfl) ?_ (by kernel_rfl) (HS.out _ Dy0) ?_
      · refine chk_pre _ _ _ (by as_aux_lemma => kernel_rfl) ?_
        exact (by as_aux_lemma => kernel_rfl)
      refine seq_take _ ?_ rfl (Or.inl ⟨by rfl, ?_⟩) ?_
      rotate_left
      · (intro w hSw; (try dsimp only at hSw); go_simp; (try with_reducible rfl))
      try simp only [Act.put, List.setIfInBounds_toArray, List.set_cons_zero, List.set_cons_succ]
      refine seq_take _ ?_ rfl (Or.inl ⟨by rfl, ?_⟩) ?_
      rotate_left
      · (intro w hSw; (try dsimp only at hSw); go_simp; (try with_reducible rfl))
      try simp only [Act.put, List.setIfInBounds_toArray, List.set_cons_zero, List.set_cons_succ]
      refine seq_take _ ?_ rfl (Or.inl ⟨by rfl, ?_⟩) ?_
      rotate_left
      · (intro w hSw; (try dsimp only at hSw); go_simp; (try with_reducible rfl))
      try simp only [Act.put, List.setIfInBounds_toArray, List.set_cons_zero, List.set_cons_succ]
      refine seq_take _ ?_ rfl (Or.inl ⟨by rfl, ?_⟩) ?_
      rotate_left
      · (intro w hSw; (try dsimp only at hSw); go_simp; (try with_reducible rfl))
      try simp only [Act.put, List.setIfInBounds_toArray, List.set_cons_zero, List.set_cons_succ]
      refine seq_take _ ?_ rfl (Or.inl ⟨by rfl, ?_⟩) ?_
      rotate_left
      · (intro w hSw; (try dsimp only at hSw); go_simp; (try with_reducible rfl))
      try simp only [Act.put, List.setIfInBounds_toArray, List.set_cons_zero, List.set_cons_succ]
      refine seq_one _ rfl fun K hK => ?_
      go_simp
      (with_reducible refine (same_z gc gr Ac Ar nc cc nr cr _ (ic.below Dy0) (ir.below Dy0) (hzm.trans hzr)).mono ?_)
      rintro e vy1 ⟨rfl, by1⟩
      have Dy1 : Below W9.heap.size W9 vy1 := Below.trans Dy0 (by1.mono (Below.size Dy0))
      go_wp2_with fail
      refine hK.out _ _ (HS.out _ Dy1) (fun hHeld => ?_)
      clear hK K hHeld
      try simp only [Act.put, List.setIfInBounds_toArray, List.set_cons_zero, List.set_cons_succ]
      refine seq_take _ ?_ rfl (Or.inl ⟨by rfl, ?_⟩) ?_
      rotate_left
      · (intro w hSw; (try dsimp only at hSw); go_simp; (try with_reducible rfl))
      try simp only [Act.put, List.setIfInBounds_toArray, List.set_cons_zero, List.set_cons_succ]
      refine seq_take _ ?_ rfl (Or.inl ⟨by rfl, ?_⟩) ?_
      rotate_left
      · (intro w hSw; (try dsimp only at hSw); go_simp; (try with_reducible rfl))
      try simp only [Act.put, List.setIfInBounds_toArray, List.set_cons_zero, List.set_cons_succ]
      refine seq_take _ ?_ rfl (Or.inl ⟨by rfl, ?_⟩) ?_
      rotate_left
      · (intro w hSw; (try dsimp only at hSw); go_simp; (try with_reducible rfl))
      try simp only [Act.put, List.setIfInBounds_toArray, List.set_cons_zero, List.set_cons_succ]
      refine seq_take _ ?_ rfl (Or.inl ⟨by rfl, ?_⟩) ?_
      rotate_left
      · (intro w hSw; (try dsimp only at hSw); go_simp; (try with_reducible rfl))
      try simp only [Act.put, List.setIfInBounds_toArray, List.set_cons_zero, List.set_cons_succ]
      refine seq_take _ ?_ rfl (Or.inl ⟨by rfl, ?_⟩) ?_
      rotate_left
      · (intro w hSw; (try dsimp only at hSw); go_simp; (try with_reducible rfl))
      try simp only [Act.put, List.setIfInBounds_toArray, List.set_cons_zero, List.set_cons_succ]
      refine seq_take _ ?_ rfl (Or.inl ⟨by rfl, ?_⟩) ?_
      rotate_left
      · (intro w hSw; (try dsimp only at hSw); go_simp; (try with_reducible rfl))
      try simp only [Act.put, List.setIfInBounds_toArray, List.set_cons_zero, List.set_cons_succ]
      refine seq_one _ rfl fun K hK => ?_
      go_simp
      (with_reducible refine (rof4_z (some ⟨g, 0, none⟩) n c L ga Aa na ca _ ((O.keep Dy1).resL (hok.lt2 hpr)) (ia.below Dy1) (by omega) hpr hok Za (by decide)).mono ?_)
      rintro e vy2 ⟨go2, co2, rfl, Oo2, by2⟩
      have Dy2 : Below W9.heap.size W9 vy2 := Below.trans Dy1 (by2.mono (Below.size Dy1))
      go_wp2_with fail
      refine hK.out _ _ (HS.out _ Dy2) (fun hHeld => ?_)
      clear hK K hHeld
      try simp only [Act.put, List.setIfInBounds_toArray, List.set_cons_zero, List.set_cons_succ]
      refine seq_one _ rfl fun K hK => ?_
      go_simp
      (with_reducible refine (cons_b (some ⟨go2, 0, none⟩) n co2 (resOf L a) gb Ab nb cb true _ (Oo2.resL ((hok.of a).lt2 (hpr.of a))) (ib.below Dy2) (by omega) (HTT.out _ Dy2).1 (HTT.out _ Dy2).2 ⟨fun _ => HCb.out, fun _ => rfl⟩).mono ?_)
      rintro e vy3 ⟨rfl, by3⟩
      have Dy3 : Below W9.heap.size W9 vy3 := Below.trans Dy2 (by3.mono (Below.size Dy2))
      go_wp2_with fail
      refine hK.out _ _ (HS.out _ Dy3) (fun hHeld => ?_)
      clear hK K hHeld
      try simp only [Act.put, List.setIfInBounds_toArray, List.set_cons_zero, List.set_cons_succ]
      refine seq_one _ rfl fun K hK => ?_
      go_simp
      (with_reducible refine (rsign_z gd Ad nd cd _ 0 (idd.below Dy3) HSg.out).mono ?_)
      rintro e vy4 ⟨rfl, by4⟩
      have Dy4 : Below W9.heap.size W9 vy4 := Below.trans Dy3 (by4.mono (Below.size Dy3))
      go_wp2_with fail
      refine hK.out _ _ (HS.out _ Dy4) (fun hHeld => ?_)
      clear hK K hHeld
      try simp only [Act.put, List.setIfInBounds_toArray, List.set_cons_zero, List.set_cons_succ]
      refine seq_take _ ?_ rfl (Or.inl ⟨by rfl, ?_⟩) ?_
      rotate_left
      · (intro w hSw; (try dsimp only at hSw); go_simp; (try with_reducible rfl))
      try simp only [Act.put, List.setIfInBounds_toArray, List.set_cons_zero, List.set_cons_succ]
      refine seq_take _ ?_ rfl (Or.inl ⟨by rfl, ?_⟩) ?_
      rotate_left
      · (intro w hSw; (try dsimp only at hSw); go_simp; (try with_reducible rfl))
      try simp only [Act.put, List.setIfInBounds_toArray, List.set_cons_zero, List.set_cons_succ]
      refine seq_take _ ?_ rfl (Or.inl ⟨by rfl, ?_⟩) ?_
      rotate_left
      · (intro w hSw; (try dsimp only at hSw); go_simp; (try with_reducible rfl))
      try simp only [Act.put, List.setIfInBounds_toArray, List.set_cons_zero, List.set_cons_succ]
      refine seq_take _ ?_ rfl (Or.inl ⟨by rfl, ?_⟩) ?_
      rotate_left
      · (intro w hSw; (try dsimp only at hSw); go_simp; (try with_reducible rfl))
      try simp only [Act.put, List.setIfInBounds_toArray, List.set_cons_zero, List.set_cons_succ]
      refine seq_take _ ?_ rfl (Or.inl ⟨by rfl, ?_⟩) ?_
      rotate_left
      · (intro w hSw; (try dsimp only at hSw); go_simp; (try with_reducible rfl))
      try simp only [Act.put, List.setIfInBounds_toArray, List.set_cons_zero, List.set_cons_succ]
      refine seq_take _ ?_ rfl (Or.inl ⟨by rfl, ?_⟩) ?_
      rotate_left
      · (intro w hSw; (try dsimp only at hSw); go_simp; (try with_reducible rfl))
      try simp only [Act.put, List.setIfInBounds_toArray, List.set_cons_zero, List.set_cons_succ]
      refine seq_take _ ?_ rfl (Or.inl ⟨by rfl, ?_⟩) ?_
      rotate_left
      · (intro w hSw; (try dsimp only at hSw); go_simp; (try with_reducible rfl))
      try simp only [Act.put, List.setIfInBounds_toArray, List.set_cons_zero, List.set_cons_succ]
      refine NoPanic.normal ?_
      go_wp2_with fail
      go_ret
      exact ⟨rfl, B.trans (Dy4.mono B.size)⟩
    · have HCb : Hid (¬ Cons (resOf L a) b) := fun h => hgap (hco.1 h)
      have hs0 : s = 1 := by rw [← hs]; unfold sgn; rw [if_neg (by omega), if_pos (by omega)]
      subst hs0
      have Dy0 : Below W9.heap.size W9 W9.drew := (Below.refl _ _).drew
      refine wp_region_seq (.pre [(0, true), (1, true), (2, true), (3, true), (4, true), (5, false), (6, true), (7, true), (8, true), (9, true), (11, true), (13, true), (10, false), (12, false), (14, false), (15, true), (16, true), (17, true), (18, true), (19, true), (20, true), (21, true)] .done) (fun W => (W.cell? ⟨w26.heap.size, 0, none⟩ = some (.bool gc) ∧ W.cell? ⟨w26.heap.size, 1, none⟩ = some (.slice Ac nc cc)) ∧ (W.cell? ⟨g13, 0, none⟩ = some (.bool gr) ∧ W.cell? ⟨g13, 1, none⟩ = some (.slice Ar nr cr)) ∧ (W.cell? ⟨g9, 0, none⟩ = some (.bool ga) ∧ W.cell? ⟨g9, 1, none⟩ = some (.slice Aa na ca)) ∧ (W.cell? ⟨g10, 0, none⟩ = some (.bool gb) ∧ W.cell? ⟨g10, 1, none⟩ = some (.slice Ab nb cb)) ∧ (W.cell? ⟨g18, 0, none⟩ = some (.bool gd) ∧ W.cell? ⟨g18, 1, none⟩ = some (.slice Ad nd cd))) (by kernel_rfl) (by kernel_rfl) ?_ (by kernel_rfl) (HS.out _ Dy0) ?_
      · refine chk_pre _ _ _ (by as_aux_lemma => kernel_rfl) ?_
        exact (by as_aux_lemma => kernel_rfl)
      refine seq_take _ ?_ rfl (Or.inl ⟨by rfl, ?_⟩) ?_
      rotate_left
      · (intro w hSw; (try dsimp only at hSw); go_simp; (try with_reducible rfl))
      try simp only [Act.put, List.setIfInBounds_toArray, List.set_cons_zero, List.set_cons_succ]
      refine seq_take _ ?_ rfl (Or.inl ⟨by rfl, ?_⟩) ?_
      rotate_left
      · (intro w hSw; (try dsimp only at hSw); go_simp; (try with_reducible rfl))
      try simp only [Act.put, List.setIfInBounds_toArray, List.set_cons_zero, List.set_cons_succ]
      refine seq_take _ ?_ rfl (Or.inl ⟨by rfl, ?_⟩) ?_
      rotate_left
      · (intro w hSw; (try dsimp only at hSw); go_simp; (try with_reducible rfl))
      try simp only [Act.put, List.setIfInBounds_toArray, List.set_cons_zero, List.set_cons_succ]
      refine seq_take _ ?_ rfl (Or.inl ⟨by rfl, ?_⟩) ?_
      rotate_left
      · (intro w hSw; (try dsimp only at hSw); go_simp; (try with_reducible rfl))
      try simp only [Act.put, List.setIfInBounds_toArray, List.set_cons_zero, List.set_cons_succ]
      refine seq_take _ ?_ rfl (Or.inl ⟨by rfl, ?_⟩) ?_
      rotate_left
      · (intro w hSw; (try dsimp only at hSw); go_simp; (try with_reducible rfl))
      try simp only [Act.put, List.setIfInBounds_toArray, List.set_cons_zero, List.set_cons_succ]
      refine seq_one _ rfl fun K hK => ?_
      go_simp
      (with_reducible refine (same_z gc gr Ac Ar nc cc nr cr _ (ic.below Dy0) (ir.below Dy0) (hzm.trans hzr)).mono ?_)
      rintro e vy1 ⟨rfl, by1⟩
      have Dy1 : Below W9.heap.size W9 vy1 := Below.trans Dy0 (by1.mono (Below.size Dy0))
      go_wp2_with fail
      refine hK.out _ _ (HS.out _ Dy1) (fun hHeld => ?_)
      clear hK K hHeld
      try simp only [Act.put, List.setIfInBounds_toArray, List.set_cons_zero, List.set_cons_succ]
      refine seq_take _ ?_ rfl (Or.inl ⟨by rfl, ?_⟩) ?_
      rotate_left
      · (intro w hSw; (try dsimp only at hSw); go_simp; (try with_reducible rfl))
      try simp only [Act.put, List.setIfInBounds_toArray, List.set_cons_zero, List.set_cons_succ]
      refine seq_take _ ?_ rfl (Or.inl ⟨by rfl, ?_⟩) ?_
      rotate_left
      · (intro w hSw; (try dsimp only at hSw); go_simp; (try with_reducible rfl))
      try simp only [Act.put, List.setIfInBounds_toArray, List.set_cons_zero, List.set_cons_succ]
      refine seq_take _ ?_ rfl (Or.inl ⟨by rfl, ?_⟩) ?_
      rotate_left
      · (intro w hSw; (try dsimp only at hSw); go_simp; (try with_reducible rfl))
      try simp only [Act.put, List.setIfInBounds_toArray, List.set_cons_zero, List.set_cons_succ]
      refine seq_take _ ?_ rfl (Or.inl ⟨by rfl, ?_⟩) ?_
      rotate_left
      · (intro w hSw; (try dsimp only at hSw); go_simp; (try with_reducible rfl))
      try simp only [Act.put, List.setIfInBounds_toArray, List.set_cons_zero, List.set_cons_succ]
      refine seq_take _ ?_ rfl (Or.inl ⟨by rfl, ?_⟩) ?_
      rotate_left
      · (intro w hSw; (try dsimp only at hSw); go_simp; (try with_reducible rfl))
      try simp only [Act.put, List.setIfInBounds_toArray, List.set_cons_zero, List.set_cons_succ]
      refine seq_take _ ?_ rfl (Or.inl ⟨by rfl, ?_⟩) ?_
      rotate_left
      · (intro w hSw; (try dsimp only at hSw); go_simp; (try with_reducible rfl))
      try simp only [Act.put, List.setIfInBounds_toArray, List.set_cons_zero, List.set_cons_succ]
      refine seq_one _ rfl fun K hK => ?_
      go_simp
      (with_reducible refine (rof4_z (some ⟨g, 0, none⟩) n c L ga Aa na ca _ ((O.keep Dy1).resL (hok.lt2 hpr)) (ia.below Dy1) (by omega) hpr hok Za (by decide)).mono ?_)
      rintro e vy2 ⟨go2, co2, rfl, Oo2, by2⟩
      have Dy2 : Below W9.heap.size W9 vy2 := Below.trans Dy1 (by2.mono (Below.size Dy1))
      go_wp2_with fail
      refine hK.out _ _ (HS.out _ Dy2) (fun hHeld => ?_)
      clear hK K hHeld
      try simp only [Act.put, List.setIfInBounds_toArray, List.set_cons_zero, List.set_cons_succ]
      refine seq_one _ rfl fun K hK => ?_
      go_simp
      (with_reducible refine (cons_b (some ⟨go2, 0, none⟩) n co2 (resOf L a) gb Ab nb cb false _ (Oo2.resL ((hok.of a).lt2 (hpr.of a))) (ib.below Dy2) (by omega) (HTT.out _ Dy2).1 (HTT.out _ Dy2).2 ⟨(fun h => by cases h), fun h => absurd h HCb.out⟩).mono ?_)
      rintro e vy3 ⟨rfl, by3⟩
      have Dy3 : Below W9.heap.size W9 vy3 := Below.trans Dy2 (by3.mono (Below.size Dy2))
      go_wp2_with fail
      refine hK.out _ _ (HS.out _ Dy3) (fun hHeld => ?_)
      clear hK K hHeld
      try simp only [Act.put, List.setIfInBounds_toArray, List.set_cons_zero, List.set_cons_succ]
      refine seq_one _ rfl fun K hK => ?_
      go_simp
      (with_reducible refine (rsign_z gd Ad nd cd _ 1 (idd.below Dy3) HSg.out).mono ?_)
      rintro e vy4 ⟨rfl, by4⟩
      have Dy4 : Below W9.heap.size W9 vy4 := Below.trans Dy3 (by4.mono (Below.size Dy3))
      go_wp2_with fail
      refine hK.out _ _ (HS.out _ Dy4) (fun hHeld => ?_)
      clear hK K hHeld
      try simp only [Act.put, List.setIfInBounds_toArray, List.set_cons_zero, List.set_cons_succ]
      refine seq_take _ ?_ rfl (Or.inl ⟨by rfl, ?_⟩) ?_
      rotate_left
      · (intro w hSw; (try dsimp only at hSw); go_simp; (try with_reducible rfl))
      try simp only [Act.put, List.setIfInBounds_toArray, List.set_cons_zero, List.set_cons_succ]
      refine seq_take _ ?_ rfl (Or.inl ⟨by rfl, ?_⟩) ?_
      rotate_left
      · (intro w hSw; (try dsimp only at hSw); go_simp; (try with_reducible rfl))
      try simp only [Act.put, List.setIfInBounds_toArray, List.set_cons_zero, List.set_cons_succ]
      refine seq_take _ ?_ rfl (Or.inl ⟨by rfl, ?_⟩) ?_
      rotate_left
      · (intro w hSw; (try dsimp only at hSw); go_simp; (try with_reducible rfl))
      try simp only [Act.put, List.setIfInBounds_toArray, List.set_cons_zero, List.set_cons_succ]
      refine seq_take _ ?_ rfl (Or.inl ⟨by rfl, ?_⟩) ?_
      rotate_left
      · (intro w hSw; (try dsimp only at hSw); go_simp; (try with_reducible rfl))
      try simp only [Act.put, List.setIfInBounds_toArray, List.set_cons_zero, List.set_cons_succ]
      refine seq_take _ ?_ rfl (Or.inl ⟨by rfl, ?_⟩) ?_
      rotate_left
      · (intro w hSw; (try dsimp only at hSw); go_simp; (try with_reducible rfl))
      try simp only [Act.put, List.setIfInBounds_toArray, List.set_cons_zero, List.set_cons_succ]
      refine seq_take _ ?_ rfl (Or.inl ⟨by rfl, ?_⟩) ?_
      rotate_left
      · (intro w hSw; (try dsimp only at hSw); go_simp; (try with_reducible rfl))
      try simp only [Act.put, List.setIfInBounds_toArray, List.set_cons_zero, List.set_cons_succ]
      refine seq_take _ ?_ rfl (Or.inl ⟨by rfl, ?_⟩) ?_
      rotate_left
      · (intro w hSw; (try dsimp only at hSw); go_simp; (try with_reducible rfl))
      try simp only [Act.put, List.setIfInBounds_toArray, List.set_cons_zero, List.set_cons_succ]
      refine NoPanic.normal ?_
      go_wp2_with fail
      go_ret
      exact ⟨rfl, B.trans (Dy4.mono B.size)⟩
end Go.Proofs.YtclmenpclkmfeaaDoor
