/- The walk of the law RationalRounds, given what its fixed examples return. -/
import Derived.Test.YtlpoboikompjfaaGreatDoorVG28RatT
import Derived.Test.YtlpoboikompjfaaGreatDoorVRefFrom
import Derived.Test.YtlpoboikompjfaaGreatDoorVRaw3
import Derived.Test.YtlpoboikompjfaaGreatDoorVRefQ2
import Derived.Deep.DeepCutAuto
namespace Go.Proofs.YtlpoboikompjfaaGreatDoor
open Go.RowKit
theorem sgn_nn {q : Rat} (h : 0 ≤ q) : 0 ≤ sgn q.num := by
  have h2 : ¬ q.num < 0 := by rw [num_neg]; exact Rat.not_lt.2 h
  unfold sgn; rw [if_neg h2]; split <;> decide
theorem cq_lt {a b : Rat} (h : a < b) : cq a b = -1 := if_pos h
theorem cq_gt {a b : Rat} (h : b < a) : cq a b = 1 := by unfold cq; rw [if_neg (lt_asy h), if_pos h]
theorem cq_le {a b : Rat} (h : a ≤ b) : cq a b ≤ 0 := by
  unfold cq; split
  · decide
  · rw [if_neg (Rat.not_lt.2 h)]; decide
theorem Sz.fl {k : Nat} {a : Rat} (h : RSz k a) (hk : k + 1 ≤ 10000) : Sz (k + 1) a.floor := by
  rw [Rat.floor_def]; exact Sz.div h.num hk
theorem Sz.rd {a : Rat} (h : RSz 3 a) : Sz 6 (a + Rat.divInt 1 2).floor := by
  rw [← q_round]
  exact Sz.div (k := 5) (((h.num.mul (Sz.of (by decide) (by decide) : Sz 1 2) (by decide)).add ((Sz.of (by decide) (by decide) : Sz 1 1).mul h.den (by decide)) (by decide))) (by decide)

set_option maxRecDepth 1000000 in
set_option maxHeartbeats 8000000 in
theorem qrounds_walk (HS : SanQ) (A1 E1 : Option Addr) (n1 c1 m1 d1 : Nat) (s1 : Bool) (xs1 ys1 : List Nat) (w : World) (hx1 : Lim w w.heap.size A1 n1 c1 xs1) (hy1 : Lim w w.heap.size E1 m1 d1 ys1) :
    Calls Tryz.prog 7 #[.agg #[.slice A1 n1 c1, .slice E1 m1 d1, .bool s1]] w fun e w' => e = .returned (.bool true) ∧ Below w.heap.size w w' := by
  have HS' := Lib.hid HS
  clear HS
  have HM1 : Hid (∀ W, Below w.heap.size w W → Calls Tryz.prog 11 #[.agg #[.slice A1 n1 c1, .slice E1 m1 d1, .bool s1]] W (RetRat W (rawQ s1 xs1 ys1))) := fun W hW => rqfrom_z A1 E1 n1 c1 m1 d1 s1 w.heap.size xs1 ys1 W (hx1.below hW) (hy1.below hW) hW.size
  have Za := RSz.raw s1 xs1 ys1 hx1.lt hy1.lt
  generalize rawQ s1 xs1 ys1 = a at *
  clear hx1 hy1
  have b0 := (Below.refl w.heap.size w)
  have b1 := b0.alloc b0.size (.cells #[.slice A1 n1 c1, .slice E1 m1 d1, .bool s1] 24)
  have X1 := Slot3.new w (.slice A1 n1 c1) (.slice E1 m1 d1) (.bool s1) 24
  go_enter Tryz.func7, Tryz.ntmps7
  generalize hW : w.alloc (.cells #[.slice A1 n1 c1, .slice E1 m1 d1, .bool s1] 24) = W0 at *
  go_wp2_with fail
  try rw [hW]
  clear hW
  refine (HS'.out _).mono ?_
  rintro e W1 ⟨rfl, hb1⟩
  have B1 := b1.trans (hb1.mono b1.size)
  replace X1 := X1.after hb1
  have HX : Hid (∀ V, Below W1.heap.size W1 V → (V.cell? ⟨w.heap.size, 0, none⟩ = some (.slice A1 n1 c1) ∧ V.cell? ⟨w.heap.size, 1, none⟩ = some (.slice E1 m1 d1) ∧ V.cell? ⟨w.heap.size, 2, none⟩ = some (.bool s1))) := fun V hV => (X1.after hV).cells
  clear X1 b0 b1 hb1

  have ⟨k0, k1, k2⟩ := HX.out W1 (Below.refl _ _)
  go_wp2_with fail
  (with_reducible refine (HM1.out _ B1).mono ?_)
  rintro e w1 ⟨gn_a, An_a, nn_a, cn_a, gd_a, Ad_a, nd_a, cd_a, rfl, i_a, b_a⟩
  clear k0 k1 k2
  replace B1 := B1.trans (b_a.mono B1.size)
  clear b_a
  have hal := (Below.refl w1.heap.size w1).alloc (Nat.le_refl _) (.cells #[.bool gn_a, .slice An_a nn_a cn_a, .bool gd_a, .slice Ad_a nd_a cd_a] 28)
  have Sa := Slot4.new w1 (.bool gn_a) (.slice An_a nn_a cn_a) (.bool gd_a) (.slice Ad_a nd_a cd_a) 28
  replace i_a := i_a.below hal
  replace B1 := B1.trans (hal.mono B1.size)
  clear hal
  generalize hga : w1.heap.size = ga at *
  generalize hW : w1.alloc (.cells #[.bool gn_a, .slice An_a nn_a cn_a, .bool gd_a, .slice Ad_a nd_a cd_a] 28) = W2 at *
  clear HX HM1
  go_upto_region 3 with (fail)
  try rw [hW]
  clear hW hga
  have Ia := i_a
  clear i_a
  obtain ⟨FF, hFF⟩ : ∃ z, a.floor = z := ⟨_, rfl⟩
  obtain ⟨NN, hNN⟩ : ∃ z, (a + Rat.divInt 1 2).floor = z := ⟨_, rfl⟩
  have ZF : Sz 4 FF := by rw [← hFF]; exact Sz.fl Za (by decide)
  have ZN : Sz 6 NN := by rw [← hNN]; exact Sz.rd Za
  have HFF := Lib.hid hFF
  have HNN := Lib.hid hNN
  have HF1 : Hid (∀ W, Below W2.heap.size W2 W → Calls Tryz.prog 30 #[.agg #[.bool gn_a, .slice An_a nn_a cn_a, .bool gd_a, .slice Ad_a nd_a cd_a]] W (RetInt W FF)) := fun W hW => by
    have := qfloor_z gn_a An_a nn_a cn_a gd_a Ad_a nd_a cd_a W (Ia.below hW) Za.num Za.den
    rwa [hFF] at this
  have HN1 : Hid (∀ W, Below W2.heap.size W2 W → Calls Tryz.prog 32 #[.agg #[.bool gn_a, .slice An_a nn_a cn_a, .bool gd_a, .slice Ad_a nd_a cd_a]] W (RetInt W NN)) := fun W hW => by
    have := qround_z gn_a An_a nn_a cn_a gd_a Ad_a nd_a cd_a W (Ia.below hW) Za (by decide)
    rwa [hNN] at this
  clear hFF hNN
  have HX : Hid (∀ V, Below W2.heap.size W2 V → (V.cell? ⟨ga, 0, none⟩ = some (.bool gn_a) ∧ V.cell? ⟨ga, 1, none⟩ = some (.slice An_a nn_a cn_a) ∧ V.cell? ⟨ga, 2, none⟩ = some (.bool gd_a) ∧ V.cell? ⟨ga, 3, none⟩ = some (.slice Ad_a nd_a cd_a))) := fun V hV => (Sa.after hV).cells
  go_cut [5, 6] (fun p0 p1 wx => ∃ gf gn, p0 = .pointer (some ⟨gf, 0, none⟩) ∧ p1 = .pointer (some ⟨gn, 0, none⟩) ∧ IntAt wx gf FF ∧ IntAt wx gn NN ∧ Below W2.heap.size W2 wx)
  case first =>
    as_aux_lemma =>
      refine wp_region_ev (fun d a0 a' w' => ∃ u14 u15 u16 u17 u5 u6 : Value, a' = ((((((a0.put (some 14) u14).put (some 15) u15).put (some 16) u16).put (some 17) u17).put (some 5) u5).put (some 6) u6) ∧ Below W2.heap.size W2 w' ∧ (d 0 = true → u14 = .agg #[.bool gn_a, .slice An_a nn_a cn_a, .bool gd_a, .slice Ad_a nd_a cd_a]) ∧ (d 1 = true → IntV w' u15 (FF)) ∧ (d 2 = true → u16 = .agg #[.bool gn_a, .slice An_a nn_a cn_a, .bool gd_a, .slice Ad_a nd_a cd_a]) ∧ (d 3 = true → IntV w' u17 (NN)) ∧ (d 4 = true → OwnP W2.heap.size w' u5 (d 6) (FF)) ∧ (d 5 = true → OwnP W2.heap.size w' u6 (d 7) (NN)) ∧ (d 4 = true → d 5 = true → u5 ≠ u6) ∧ (d 6 = true → d 4 = true) ∧ (d 7 = true → d 5 = true)) (by kernel_rfl) (by kernel_rfl) ?_ ?_ ?_ ?_
      · intro d d' h a' w' hh
        obtain rfl : d = d' := funext h
        exact hh
      · exact ⟨_, _, _, _, _, _, (by simp only [Act.put, List.setIfInBounds_toArray, List.set_cons_zero, List.set_cons_succ]; rfl), (Below.refl _ _).drew, (fun h => by cases h), (fun h => by cases h), (fun h => by cases h), (fun h => by cases h), (fun h => by cases h), (fun h => by cases h), (fun h => by cases h), (fun h => by cases h), (fun h => by cases h)⟩
      · refine ⟨?_, ?_, ?_, ?_, ?_, ?_, ?_, ?_, trivial⟩
        · intro d a2 w2 hd hm ⟨u14, u15, u16, u17, u5, u6, e, HB, f0, f1, f2, f3, f4, f5, n01, t0, t1⟩ K hK
          subst e
          simp only [Act.put, List.setIfInBounds_toArray, List.set_cons_zero, List.set_cons_succ]
          obtain ⟨q0, q1, q2, q3⟩ := HX.out w2 HB
          go_simp
          exact hK.out _ _ ⟨.agg #[.bool gn_a, .slice An_a nn_a cn_a, .bool gd_a, .slice Ad_a nd_a cd_a], u15, u16, u17, u5, u6, (by simp only [Act.put, List.setIfInBounds_toArray, List.set_cons_zero, List.set_cons_succ]), HB, (fun _ => rfl), (fun h => (f1 (by simpa using h))), (fun h => f2 (by simpa using h)), (fun h => (f3 (by simpa using h))), (fun h => by simpa using (f4 (by simpa using h))), (fun h => by simpa using (f5 (by simpa using h))), (fun h h' => n01 (by simpa using h) (by simpa using h')), (fun h => by simpa using t0 (by simpa using h)), (fun h => by simpa using t1 (by simpa using h))⟩
        · intro d a2 w2 hd hm ⟨u14, u15, u16, u17, u5, u6, e, HB, f0, f1, f2, f3, f4, f5, n01, t0, t1⟩ K hK
          subst e
          simp only [Act.put, List.setIfInBounds_toArray, List.set_cons_zero, List.set_cons_succ]
          obtain rfl := f0 (hm ⟨0, .data⟩ (by simp) rfl)
          clear f0
          go_simp
          (with_reducible refine (HF1.out _ HB).mono ?_)
          rintro e w3 ⟨gg, AA, nn, cc, rfl, hi, hb⟩
          have HB3 := HB.trans (hb.mono HB.size)
          go_wp2_with fail
          exact hK.out _ _ ⟨.agg #[.bool gn_a, .slice An_a nn_a cn_a, .bool gd_a, .slice Ad_a nd_a cd_a], .agg #[.bool gg, .slice AA nn cc], u16, u17, u5, u6, (by simp only [Act.put, List.setIfInBounds_toArray, List.set_cons_zero, List.set_cons_succ]), HB3, (fun _ => rfl), (fun _ => ⟨_, _, _, _, rfl, hi⟩), (fun h => f2 (by simpa using h)), (fun h => (f3 (by simpa using h)).below hb), (fun h => by simpa using (f4 (by simpa using h)).below hb), (fun h => by simpa using (f5 (by simpa using h)).below hb), (fun h h' => n01 (by simpa using h) (by simpa using h')), (fun h => by simpa using t0 (by simpa using h)), (fun h => by simpa using t1 (by simpa using h))⟩
        · intro d a2 w2 hd hm ⟨u14, u15, u16, u17, u5, u6, e, HB, f0, f1, f2, f3, f4, f5, n01, t0, t1⟩ K hK
          subst e
          simp only [Act.put, List.setIfInBounds_toArray, List.set_cons_zero, List.set_cons_succ]
          obtain ⟨q0, q1, q2, q3⟩ := HX.out w2 HB
          go_simp
          exact hK.out _ _ ⟨u14, u15, .agg #[.bool gn_a, .slice An_a nn_a cn_a, .bool gd_a, .slice Ad_a nd_a cd_a], u17, u5, u6, (by simp only [Act.put, List.setIfInBounds_toArray, List.set_cons_zero, List.set_cons_succ]), HB, (fun h => f0 (by simpa using h)), (fun h => (f1 (by simpa using h))), (fun _ => rfl), (fun h => (f3 (by simpa using h))), (fun h => by simpa using (f4 (by simpa using h))), (fun h => by simpa using (f5 (by simpa using h))), (fun h h' => n01 (by simpa using h) (by simpa using h')), (fun h => by simpa using t0 (by simpa using h)), (fun h => by simpa using t1 (by simpa using h))⟩
        · intro d a2 w2 hd hm ⟨u14, u15, u16, u17, u5, u6, e, HB, f0, f1, f2, f3, f4, f5, n01, t0, t1⟩ K hK
          subst e
          simp only [Act.put, List.setIfInBounds_toArray, List.set_cons_zero, List.set_cons_succ]
          obtain rfl := f2 (hm ⟨2, .data⟩ (by simp) rfl)
          clear f2
          go_simp
          (with_reducible refine (HN1.out _ HB).mono ?_)
          rintro e w3 ⟨gg, AA, nn, cc, rfl, hi, hb⟩
          have HB3 := HB.trans (hb.mono HB.size)
          go_wp2_with fail
          exact hK.out _ _ ⟨u14, u15, .agg #[.bool gn_a, .slice An_a nn_a cn_a, .bool gd_a, .slice Ad_a nd_a cd_a], .agg #[.bool gg, .slice AA nn cc], u5, u6, (by simp only [Act.put, List.setIfInBounds_toArray, List.set_cons_zero, List.set_cons_succ]), HB3, (fun h => f0 (by simpa using h)), (fun h => (f1 (by simpa using h)).below hb), (fun _ => rfl), (fun _ => ⟨_, _, _, _, rfl, hi⟩), (fun h => by simpa using (f4 (by simpa using h)).below hb), (fun h => by simpa using (f5 (by simpa using h)).below hb), (fun h h' => n01 (by simpa using h) (by simpa using h')), (fun h => by simpa using t0 (by simpa using h)), (fun h => by simpa using t1 (by simpa using h))⟩
        · intro d a2 w2 hd hm ⟨u14, u15, u16, u17, u5, u6, e, HB, f0, f1, f2, f3, f4, f5, n01, t0, t1⟩ K hK
          subst e
          simp only [Act.put, List.setIfInBounds_toArray, List.set_cons_zero, List.set_cons_succ]
          have hb : Below w2.heap.size w2 (w2.alloc (.cells #[.bool false, .slice none 0 0] 26)) := (Below.refl _ _).alloc (Nat.le_refl _) _
          have HB3 := HB.trans (hb.mono HB.size)
          go_simp
          exact hK.out _ _ ⟨u14, u15, u16, u17, .pointer (some ⟨w2.heap.size, 0, none⟩), u6, (by simp only [Act.put, List.setIfInBounds_toArray, List.set_cons_zero, List.set_cons_succ]), HB3, (fun h => f0 (by simpa using h)), (fun h => (f1 (by simpa using h)).below hb), (fun h => f2 (by simpa using h)), (fun h => (f3 (by simpa using h)).below hb), (fun _ => by have hs : d 6 = false := (by cases hq : d 6 with | false => rfl | true => (have hz := t0 hq; rw [hd] at hz; cases hz)); simpa [hs] using OwnP.new HB.size (FF)), (fun h => by simpa using (f5 (by simpa using h)).below hb), (fun _ h' => ((f5 (by simpa using h')).lt).symm), (fun _ => by simp), (fun h => by simpa using t1 (by simpa using h))⟩
        · intro d a2 w2 hd hm ⟨u14, u15, u16, u17, u5, u6, e, HB, f0, f1, f2, f3, f4, f5, n01, t0, t1⟩ K hK
          subst e
          simp only [Act.put, List.setIfInBounds_toArray, List.set_cons_zero, List.set_cons_succ]
          have hb : Below w2.heap.size w2 (w2.alloc (.cells #[.bool false, .slice none 0 0] 26)) := (Below.refl _ _).alloc (Nat.le_refl _) _
          have HB3 := HB.trans (hb.mono HB.size)
          go_simp
          exact hK.out _ _ ⟨u14, u15, u16, u17, u5, .pointer (some ⟨w2.heap.size, 0, none⟩), (by simp only [Act.put, List.setIfInBounds_toArray, List.set_cons_zero, List.set_cons_succ]), HB3, (fun h => f0 (by simpa using h)), (fun h => (f1 (by simpa using h)).below hb), (fun h => f2 (by simpa using h)), (fun h => (f3 (by simpa using h)).below hb), (fun h => by simpa using (f4 (by simpa using h)).below hb), (fun _ => by have hs : d 7 = false := (by cases hq : d 7 with | false => rfl | true => (have hz := t1 hq; rw [hd] at hz; cases hz)); simpa [hs] using OwnP.new HB.size (NN)), (fun h _ => (f4 (by simpa using h)).lt), (fun h => by simpa using t0 (by simpa using h)), (fun _ => by simp)⟩
        · intro d a2 w2 hd hm ⟨u14, u15, u16, u17, u5, u6, e, HB, f0, f1, f2, f3, f4, f5, n01, t0, t1⟩ K hK
          subst e
          simp only [Act.put, List.setIfInBounds_toArray, List.set_cons_zero, List.set_cons_succ]
          obtain ⟨gg, AA, nn, cc, rfl, hi⟩ := f1 (hm ⟨1, .data⟩ (by simp) rfl)
          obtain ⟨g, rfl, hg, b0, b1, hs, n0, n1, _⟩ := f4 (hm ⟨4, .data⟩ (by simp) rfl)
          obtain ⟨k0, k1, k2, k3, k4⟩ := id hs
          go_simp
          exact hK.out _ _ ⟨u14, .agg #[.bool gg, .slice AA nn cc], u16, u17, .pointer (some ⟨g, 0, none⟩), u6, (by simp only [Act.put, List.setIfInBounds_toArray, List.set_cons_zero, List.set_cons_succ]), Below.set2 HB hg _ _, (fun h => f0 (by simpa using h)), (fun h => (f1 (by simpa using h)).set2 hs n0 n1 _ _), (fun h => f2 (by simpa using h)), (fun h => (f3 (by simpa using h)).set2 hs n0 n1 _ _), (fun _ => by simpa using OwnP.near hi hg hs n0 n1), (fun h => by simpa using (f5 (by simpa using h)).far ((n01 (hm ⟨4, .data⟩ (by simp) rfl) (by simpa using h)).symm) hs n0 n1 _ _), (fun h h' => n01 (by simpa using h) (by simpa using h')), (fun _ => by simpa using hm ⟨4, .data⟩ (by simp) rfl), (fun h => by simpa using t1 (by simpa using h))⟩
        · intro d a2 w2 hd hm ⟨u14, u15, u16, u17, u5, u6, e, HB, f0, f1, f2, f3, f4, f5, n01, t0, t1⟩ K hK
          subst e
          simp only [Act.put, List.setIfInBounds_toArray, List.set_cons_zero, List.set_cons_succ]
          obtain ⟨gg, AA, nn, cc, rfl, hi⟩ := f3 (hm ⟨3, .data⟩ (by simp) rfl)
          obtain ⟨g, rfl, hg, b0, b1, hs, n0, n1, _⟩ := f5 (hm ⟨5, .data⟩ (by simp) rfl)
          obtain ⟨k0, k1, k2, k3, k4⟩ := id hs
          go_simp
          exact hK.out _ _ ⟨u14, u15, u16, .agg #[.bool gg, .slice AA nn cc], u5, .pointer (some ⟨g, 0, none⟩), (by simp only [Act.put, List.setIfInBounds_toArray, List.set_cons_zero, List.set_cons_succ]), Below.set2 HB hg _ _, (fun h => f0 (by simpa using h)), (fun h => (f1 (by simpa using h)).set2 hs n0 n1 _ _), (fun h => f2 (by simpa using h)), (fun h => (f3 (by simpa using h)).set2 hs n0 n1 _ _), (fun h => by simpa using (f4 (by simpa using h)).far (n01 (by simpa using h) (hm ⟨5, .data⟩ (by simp) rfl)) hs n0 n1 _ _), (fun _ => by simpa using OwnP.near hi hg hs n0 n1), (fun h h' => n01 (by simpa using h) (by simpa using h')), (fun h => by simpa using t0 (by simpa using h)), (fun _ => by simpa using hm ⟨5, .data⟩ (by simp) rfl)⟩
      · intro d a2 w2 hall ⟨u14, u15, u16, u17, u5, u6, e, HB, f0, f1, f2, f3, f4, f5, n01, t0, t1⟩
        subst e
        simp only [Act.put, List.setIfInBounds_toArray, List.set_cons_zero, List.set_cons_succ]
        obtain rfl := f0 (hall _ (by decide))
        obtain rfl := f2 (hall _ (by decide))
        obtain ⟨g0, rfl, h0, b0⟩ := OwnP.intAtB (by have := f4 (hall _ (by decide)); rwa [hall 6 (by decide)] at this)
        obtain ⟨g1, rfl, h1, b1⟩ := OwnP.intAtB (by have := f5 (hall _ (by decide)); rwa [hall 7 (by decide)] at this)
        go_wp2_with fail
        go_meet
        exact ⟨g0, g1, rfl, rfl, h0, h1, HB⟩
  case rest =>
  obtain ⟨gf, gn, rfl, rfl, ⟨gxf, Axf, nxf, cxf, Sf, If⟩, ⟨gxg, Axg, nxg, cxg, Sg, Ig⟩, DC⟩ := hcut
  obtain ⟨W3, rfl⟩ : ∃ x : World, x = wc := ⟨_, rfl⟩
  replace Sa := Sa.after DC
  replace Ia := Ia.below DC
  replace B1 := B1.trans (DC.mono B1.size)
  clear DC HX HF1 HN1
  have ⟨Sfc0, Sfc1, _⟩ := Sf
  go_wp2_with fail
  (with_reducible refine (rvalid_z gxf Axf nxf cxf _ If).mono ?_)
  rintro e w4 ⟨rfl, bv1⟩
  clear Sfc0 Sfc1
  replace Sa := Sa.after bv1
  replace Ia := Ia.below bv1
  replace Sf := Sf.after bv1
  replace If := If.below bv1
  replace Sg := Sg.after bv1
  replace Ig := Ig.below bv1
  replace B1 := B1.trans (bv1.mono B1.size)
  clear bv1
  have ⟨Sgc0, Sgc1, _⟩ := Sg
  go_wp2_with fail
  (with_reducible refine (rvalid_z gxg Axg nxg cxg _ Ig).mono ?_)
  rintro e w5 ⟨rfl, bv2⟩
  clear Sgc0 Sgc1
  replace Sa := Sa.after bv2
  replace Ia := Ia.below bv2
  replace Sf := Sf.after bv2
  replace If := If.below bv2
  replace Sg := Sg.after bv2
  replace Ig := Ig.below bv2
  replace B1 := B1.trans (bv2.mono B1.size)
  clear bv2
  generalize w5 = W5 at *
  go_upto_region 6 with (fail)
  have HX : Hid (∀ V, Below W5.heap.size W5 V → (V.cell? ⟨ga, 0, none⟩ = some (.bool gn_a) ∧ V.cell? ⟨ga, 1, none⟩ = some (.slice An_a nn_a cn_a) ∧ V.cell? ⟨ga, 2, none⟩ = some (.bool gd_a) ∧ V.cell? ⟨ga, 3, none⟩ = some (.slice Ad_a nd_a cd_a)) ∧ (V.cell? ⟨gf, 0, none⟩ = some (.bool gxf) ∧ V.cell? ⟨gf, 1, none⟩ = some (.slice Axf nxf cxf)) ∧ (V.cell? ⟨gn, 0, none⟩ = some (.bool gxg) ∧ V.cell? ⟨gn, 1, none⟩ = some (.slice Axg nxg cxg))) := fun V hV => ⟨(Sa.after hV).cells, ⟨(Sf.after hV).1, (Sf.after hV).2.1⟩, ⟨(Sg.after hV).1, (Sg.after hV).2.1⟩⟩
  have HI : Hid (∀ V, Below W5.heap.size W5 V → IsRat V gn_a An_a nn_a cn_a gd_a Ad_a nd_a cd_a a ∧ IsInt V gxf Axf nxf cxf FF ∧ IsInt V gxg Axg nxg cxg NN) := fun V hV => ⟨Ia.below hV, If.below hV, Ig.below hV⟩
  have Zf : RSz 4 (FF : Rat) := RSz.whole ZF (by decide)
  have Zg : RSz 6 (NN : Rat) := RSz.whole ZN (by decide)
  go_cut [7, 8] (fun p0 p1 wx => ∃ gl go, p0 = .pointer (some ⟨gl, 0, none⟩) ∧ p1 = .pointer (some ⟨go, 0, none⟩) ∧ RatAt wx gl (a - (FF : Rat)) ∧ RatAt wx go ((NN : Rat) - a) ∧ Below W5.heap.size W5 wx)
  case first =>
    as_aux_lemma =>
      refine wp_region_ev (fun d a0 a' w' => ∃ u26 u27 u28 u29 u30 u31 u32 u33 u7 u8 : Value, a' = ((((((((((a0.put (some 26) u26).put (some 27) u27).put (some 28) u28).put (some 29) u29).put (some 30) u30).put (some 31) u31).put (some 32) u32).put (some 33) u33).put (some 7) u7).put (some 8) u8) ∧ Below W5.heap.size W5 w' ∧ (d 0 = true → u26 = .agg #[.bool gn_a, .slice An_a nn_a cn_a, .bool gd_a, .slice Ad_a nd_a cd_a]) ∧ (d 1 = true → u27 = .agg #[.bool gxf, .slice Axf nxf cxf]) ∧ (d 2 = true → RatV w' u28 ((FF : Rat))) ∧ (d 3 = true → RatV w' u29 (a - (FF : Rat))) ∧ (d 4 = true → u30 = .agg #[.bool gxg, .slice Axg nxg cxg]) ∧ (d 5 = true → RatV w' u31 ((NN : Rat))) ∧ (d 6 = true → u32 = .agg #[.bool gn_a, .slice An_a nn_a cn_a, .bool gd_a, .slice Ad_a nd_a cd_a]) ∧ (d 7 = true → RatV w' u33 ((NN : Rat) - a)) ∧ (d 8 = true → OwnQ W5.heap.size w' u7 (d 10) (a - (FF : Rat))) ∧ (d 9 = true → OwnQ W5.heap.size w' u8 (d 11) ((NN : Rat) - a)) ∧ (d 8 = true → d 9 = true → u7 ≠ u8) ∧ (d 10 = true → d 8 = true) ∧ (d 11 = true → d 9 = true)) (by kernel_rfl) (by kernel_rfl) ?_ ?_ ?_ ?_
      · intro d d' h a' w' hh
        obtain rfl : d = d' := funext h
        exact hh
      · exact ⟨_, _, _, _, _, _, _, _, _, _, (by simp only [Act.put, List.setIfInBounds_toArray, List.set_cons_zero, List.set_cons_succ]; rfl), (Below.refl _ _).drew, (fun h => by cases h), (fun h => by cases h), (fun h => by cases h), (fun h => by cases h), (fun h => by cases h), (fun h => by cases h), (fun h => by cases h), (fun h => by cases h), (fun h => by cases h), (fun h => by cases h), (fun h => by cases h), (fun h => by cases h), (fun h => by cases h)⟩
      · refine ⟨?_, ?_, ?_, ?_, ?_, ?_, ?_, ?_, ?_, ?_, ?_, ?_, trivial⟩
        · intro d a2 w2 hd hm ⟨u26, u27, u28, u29, u30, u31, u32, u33, u7, u8, e, HB, f0, f1, f2, f3, f4, f5, f6, f7, f8, f9, n01, t0, t1⟩ K hK
          subst e
          simp only [Act.put, List.setIfInBounds_toArray, List.set_cons_zero, List.set_cons_succ]
          obtain ⟨⟨q0, q1, q2, q3⟩, ⟨q4, q5⟩, ⟨q6, q7⟩⟩ := HX.out w2 HB
          go_simp
          exact hK.out _ _ ⟨.agg #[.bool gn_a, .slice An_a nn_a cn_a, .bool gd_a, .slice Ad_a nd_a cd_a], u27, u28, u29, u30, u31, u32, u33, u7, u8, (by simp only [Act.put, List.setIfInBounds_toArray, List.set_cons_zero, List.set_cons_succ]), HB, (fun _ => rfl), (fun h => f1 (by simpa using h)), (fun h => (f2 (by simpa using h))), (fun h => (f3 (by simpa using h))), (fun h => f4 (by simpa using h)), (fun h => (f5 (by simpa using h))), (fun h => f6 (by simpa using h)), (fun h => (f7 (by simpa using h))), (fun h => by simpa using (f8 (by simpa using h))), (fun h => by simpa using (f9 (by simpa using h))), (fun h h' => n01 (by simpa using h) (by simpa using h')), (fun h => by simpa using t0 (by simpa using h)), (fun h => by simpa using t1 (by simpa using h))⟩
        · intro d a2 w2 hd hm ⟨u26, u27, u28, u29, u30, u31, u32, u33, u7, u8, e, HB, f0, f1, f2, f3, f4, f5, f6, f7, f8, f9, n01, t0, t1⟩ K hK
          subst e
          simp only [Act.put, List.setIfInBounds_toArray, List.set_cons_zero, List.set_cons_succ]
          obtain ⟨⟨q0, q1, q2, q3⟩, ⟨q4, q5⟩, ⟨q6, q7⟩⟩ := HX.out w2 HB
          go_simp
          exact hK.out _ _ ⟨u26, .agg #[.bool gxf, .slice Axf nxf cxf], u28, u29, u30, u31, u32, u33, u7, u8, (by simp only [Act.put, List.setIfInBounds_toArray, List.set_cons_zero, List.set_cons_succ]), HB, (fun h => f0 (by simpa using h)), (fun _ => rfl), (fun h => (f2 (by simpa using h))), (fun h => (f3 (by simpa using h))), (fun h => f4 (by simpa using h)), (fun h => (f5 (by simpa using h))), (fun h => f6 (by simpa using h)), (fun h => (f7 (by simpa using h))), (fun h => by simpa using (f8 (by simpa using h))), (fun h => by simpa using (f9 (by simpa using h))), (fun h h' => n01 (by simpa using h) (by simpa using h')), (fun h => by simpa using t0 (by simpa using h)), (fun h => by simpa using t1 (by simpa using h))⟩
        · intro d a2 w2 hd hm ⟨u26, u27, u28, u29, u30, u31, u32, u33, u7, u8, e, HB, f0, f1, f2, f3, f4, f5, f6, f7, f8, f9, n01, t0, t1⟩ K hK
          subst e
          simp only [Act.put, List.setIfInBounds_toArray, List.set_cons_zero, List.set_cons_succ]
          obtain rfl := f1 (hm ⟨1, .data⟩ (by simp) rfl)
          clear f1
          go_simp
          (with_reducible refine (rqwhole_z gxf Axf nxf cxf _ (HI.out _ HB).2.1).mono ?_)
          rintro e w3 ⟨g1, A1', n1', c1', g2, A2', n2', c2', rfl, hi, hb⟩
          have HB3 := HB.trans (hb.mono HB.size)
          go_wp2_with fail
          exact hK.out _ _ ⟨u26, .agg #[.bool gxf, .slice Axf nxf cxf], .agg #[.bool g1, .slice A1' n1' c1', .bool g2, .slice A2' n2' c2'], u29, u30, u31, u32, u33, u7, u8, (by simp only [Act.put, List.setIfInBounds_toArray, List.set_cons_zero, List.set_cons_succ]), HB3, (fun h => f0 (by simpa using h)), (fun _ => rfl), (fun _ => ⟨_, _, _, _, _, _, _, _, rfl, hi⟩), (fun h => (f3 (by simpa using h)).below hb), (fun h => f4 (by simpa using h)), (fun h => (f5 (by simpa using h)).below hb), (fun h => f6 (by simpa using h)), (fun h => (f7 (by simpa using h)).below hb), (fun h => by simpa using (f8 (by simpa using h)).below hb), (fun h => by simpa using (f9 (by simpa using h)).below hb), (fun h h' => n01 (by simpa using h) (by simpa using h')), (fun h => by simpa using t0 (by simpa using h)), (fun h => by simpa using t1 (by simpa using h))⟩
        · intro d a2 w2 hd hm ⟨u26, u27, u28, u29, u30, u31, u32, u33, u7, u8, e, HB, f0, f1, f2, f3, f4, f5, f6, f7, f8, f9, n01, t0, t1⟩ K hK
          subst e
          simp only [Act.put, List.setIfInBounds_toArray, List.set_cons_zero, List.set_cons_succ]
          obtain rfl := f0 (hm ⟨0, .data⟩ (by simp) rfl)
          clear f0
          obtain ⟨Gn2, An2, Nn2, Cn2, Gd2, Ad2, Nd2, Cd2, rfl, I2⟩ := f2 (hm ⟨2, .data⟩ (by simp) rfl)
          go_simp
          (with_reducible refine (rqsub_z gn_a An_a nn_a cn_a gd_a Ad_a nd_a cd_a Gn2 An2 Nn2 Cn2 Gd2 Ad2 Nd2 Cd2 _ (HI.out _ HB).1 I2 Za Zf (by decide)).mono ?_)
          rintro e w3 ⟨g1, A1', n1', c1', g2, A2', n2', c2', rfl, hi, hb⟩
          have HB3 := HB.trans (hb.mono HB.size)
          go_wp2_with fail
          exact hK.out _ _ ⟨.agg #[.bool gn_a, .slice An_a nn_a cn_a, .bool gd_a, .slice Ad_a nd_a cd_a], u27, .agg #[.bool Gn2, .slice An2 Nn2 Cn2, .bool Gd2, .slice Ad2 Nd2 Cd2], .agg #[.bool g1, .slice A1' n1' c1', .bool g2, .slice A2' n2' c2'], u30, u31, u32, u33, u7, u8, (by simp only [Act.put, List.setIfInBounds_toArray, List.set_cons_zero, List.set_cons_succ]), HB3, (fun _ => rfl), (fun h => f1 (by simpa using h)), (fun h => (f2 (by simpa using h)).below hb), (fun _ => ⟨_, _, _, _, _, _, _, _, rfl, hi⟩), (fun h => f4 (by simpa using h)), (fun h => (f5 (by simpa using h)).below hb), (fun h => f6 (by simpa using h)), (fun h => (f7 (by simpa using h)).below hb), (fun h => by simpa using (f8 (by simpa using h)).below hb), (fun h => by simpa using (f9 (by simpa using h)).below hb), (fun h h' => n01 (by simpa using h) (by simpa using h')), (fun h => by simpa using t0 (by simpa using h)), (fun h => by simpa using t1 (by simpa using h))⟩
        · intro d a2 w2 hd hm ⟨u26, u27, u28, u29, u30, u31, u32, u33, u7, u8, e, HB, f0, f1, f2, f3, f4, f5, f6, f7, f8, f9, n01, t0, t1⟩ K hK
          subst e
          simp only [Act.put, List.setIfInBounds_toArray, List.set_cons_zero, List.set_cons_succ]
          obtain ⟨⟨q0, q1, q2, q3⟩, ⟨q4, q5⟩, ⟨q6, q7⟩⟩ := HX.out w2 HB
          go_simp
          exact hK.out _ _ ⟨u26, u27, u28, u29, .agg #[.bool gxg, .slice Axg nxg cxg], u31, u32, u33, u7, u8, (by simp only [Act.put, List.setIfInBounds_toArray, List.set_cons_zero, List.set_cons_succ]), HB, (fun h => f0 (by simpa using h)), (fun h => f1 (by simpa using h)), (fun h => (f2 (by simpa using h))), (fun h => (f3 (by simpa using h))), (fun _ => rfl), (fun h => (f5 (by simpa using h))), (fun h => f6 (by simpa using h)), (fun h => (f7 (by simpa using h))), (fun h => by simpa using (f8 (by simpa using h))), (fun h => by simpa using (f9 (by simpa using h))), (fun h h' => n01 (by simpa using h) (by simpa using h')), (fun h => by simpa using t0 (by simpa using h)), (fun h => by simpa using t1 (by simpa using h))⟩
        · intro d a2 w2 hd hm ⟨u26, u27, u28, u29, u30, u31, u32, u33, u7, u8, e, HB, f0, f1, f2, f3, f4, f5, f6, f7, f8, f9, n01, t0, t1⟩ K hK
          subst e
          simp only [Act.put, List.setIfInBounds_toArray, List.set_cons_zero, List.set_cons_succ]
          obtain rfl := f4 (hm ⟨4, .data⟩ (by simp) rfl)
          clear f4
          go_simp
          (with_reducible refine (rqwhole_z gxg Axg nxg cxg _ (HI.out _ HB).2.2).mono ?_)
          rintro e w3 ⟨g1, A1', n1', c1', g2, A2', n2', c2', rfl, hi, hb⟩
          have HB3 := HB.trans (hb.mono HB.size)
          go_wp2_with fail
          exact hK.out _ _ ⟨u26, u27, u28, u29, .agg #[.bool gxg, .slice Axg nxg cxg], .agg #[.bool g1, .slice A1' n1' c1', .bool g2, .slice A2' n2' c2'], u32, u33, u7, u8, (by simp only [Act.put, List.setIfInBounds_toArray, List.set_cons_zero, List.set_cons_succ]), HB3, (fun h => f0 (by simpa using h)), (fun h => f1 (by simpa using h)), (fun h => (f2 (by simpa using h)).below hb), (fun h => (f3 (by simpa using h)).below hb), (fun _ => rfl), (fun _ => ⟨_, _, _, _, _, _, _, _, rfl, hi⟩), (fun h => f6 (by simpa using h)), (fun h => (f7 (by simpa using h)).below hb), (fun h => by simpa using (f8 (by simpa using h)).below hb), (fun h => by simpa using (f9 (by simpa using h)).below hb), (fun h h' => n01 (by simpa using h) (by simpa using h')), (fun h => by simpa using t0 (by simpa using h)), (fun h => by simpa using t1 (by simpa using h))⟩
        · intro d a2 w2 hd hm ⟨u26, u27, u28, u29, u30, u31, u32, u33, u7, u8, e, HB, f0, f1, f2, f3, f4, f5, f6, f7, f8, f9, n01, t0, t1⟩ K hK
          subst e
          simp only [Act.put, List.setIfInBounds_toArray, List.set_cons_zero, List.set_cons_succ]
          obtain ⟨⟨q0, q1, q2, q3⟩, ⟨q4, q5⟩, ⟨q6, q7⟩⟩ := HX.out w2 HB
          go_simp
          exact hK.out _ _ ⟨u26, u27, u28, u29, u30, u31, .agg #[.bool gn_a, .slice An_a nn_a cn_a, .bool gd_a, .slice Ad_a nd_a cd_a], u33, u7, u8, (by simp only [Act.put, List.setIfInBounds_toArray, List.set_cons_zero, List.set_cons_succ]), HB, (fun h => f0 (by simpa using h)), (fun h => f1 (by simpa using h)), (fun h => (f2 (by simpa using h))), (fun h => (f3 (by simpa using h))), (fun h => f4 (by simpa using h)), (fun h => (f5 (by simpa using h))), (fun _ => rfl), (fun h => (f7 (by simpa using h))), (fun h => by simpa using (f8 (by simpa using h))), (fun h => by simpa using (f9 (by simpa using h))), (fun h h' => n01 (by simpa using h) (by simpa using h')), (fun h => by simpa using t0 (by simpa using h)), (fun h => by simpa using t1 (by simpa using h))⟩
        · intro d a2 w2 hd hm ⟨u26, u27, u28, u29, u30, u31, u32, u33, u7, u8, e, HB, f0, f1, f2, f3, f4, f5, f6, f7, f8, f9, n01, t0, t1⟩ K hK
          subst e
          simp only [Act.put, List.setIfInBounds_toArray, List.set_cons_zero, List.set_cons_succ]
          obtain ⟨Gn5, An5, Nn5, Cn5, Gd5, Ad5, Nd5, Cd5, rfl, I5⟩ := f5 (hm ⟨5, .data⟩ (by simp) rfl)
          obtain rfl := f6 (hm ⟨6, .data⟩ (by simp) rfl)
          clear f6
          go_simp
          (with_reducible refine (rqsub_z Gn5 An5 Nn5 Cn5 Gd5 Ad5 Nd5 Cd5 gn_a An_a nn_a cn_a gd_a Ad_a nd_a cd_a _ I5 (HI.out _ HB).1 Zg Za (by decide)).mono ?_)
          rintro e w3 ⟨g1, A1', n1', c1', g2, A2', n2', c2', rfl, hi, hb⟩
          have HB3 := HB.trans (hb.mono HB.size)
          go_wp2_with fail
          exact hK.out _ _ ⟨u26, u27, u28, u29, u30, .agg #[.bool Gn5, .slice An5 Nn5 Cn5, .bool Gd5, .slice Ad5 Nd5 Cd5], .agg #[.bool gn_a, .slice An_a nn_a cn_a, .bool gd_a, .slice Ad_a nd_a cd_a], .agg #[.bool g1, .slice A1' n1' c1', .bool g2, .slice A2' n2' c2'], u7, u8, (by simp only [Act.put, List.setIfInBounds_toArray, List.set_cons_zero, List.set_cons_succ]), HB3, (fun h => f0 (by simpa using h)), (fun h => f1 (by simpa using h)), (fun h => (f2 (by simpa using h)).below hb), (fun h => (f3 (by simpa using h)).below hb), (fun h => f4 (by simpa using h)), (fun h => (f5 (by simpa using h)).below hb), (fun _ => rfl), (fun _ => ⟨_, _, _, _, _, _, _, _, rfl, hi⟩), (fun h => by simpa using (f8 (by simpa using h)).below hb), (fun h => by simpa using (f9 (by simpa using h)).below hb), (fun h h' => n01 (by simpa using h) (by simpa using h')), (fun h => by simpa using t0 (by simpa using h)), (fun h => by simpa using t1 (by simpa using h))⟩
        · intro d a2 w2 hd hm ⟨u26, u27, u28, u29, u30, u31, u32, u33, u7, u8, e, HB, f0, f1, f2, f3, f4, f5, f6, f7, f8, f9, n01, t0, t1⟩ K hK
          subst e
          simp only [Act.put, List.setIfInBounds_toArray, List.set_cons_zero, List.set_cons_succ]
          have hb : Below w2.heap.size w2 (w2.alloc (.cells #[.bool false, .slice none 0 0, .bool false, .slice none 0 0] 28)) := (Below.refl _ _).alloc (Nat.le_refl _) _
          have HB3 := HB.trans (hb.mono HB.size)
          go_simp
          exact hK.out _ _ ⟨u26, u27, u28, u29, u30, u31, u32, u33, .pointer (some ⟨w2.heap.size, 0, none⟩), u8, (by simp only [Act.put, List.setIfInBounds_toArray, List.set_cons_zero, List.set_cons_succ]), HB3, (fun h => f0 (by simpa using h)), (fun h => f1 (by simpa using h)), (fun h => (f2 (by simpa using h)).below hb), (fun h => (f3 (by simpa using h)).below hb), (fun h => f4 (by simpa using h)), (fun h => (f5 (by simpa using h)).below hb), (fun h => f6 (by simpa using h)), (fun h => (f7 (by simpa using h)).below hb), (fun _ => by have hs : d 10 = false := (by cases hq : d 10 with | false => rfl | true => (have hz := t0 hq; rw [hd] at hz; cases hz)); simpa [hs] using OwnQ.new HB.size (a - (FF : Rat))), (fun h => by simpa using (f9 (by simpa using h)).below hb), (fun _ h' => ((f9 (by simpa using h')).lt).symm), (fun _ => by simp), (fun h => by simpa using t1 (by simpa using h))⟩
        · intro d a2 w2 hd hm ⟨u26, u27, u28, u29, u30, u31, u32, u33, u7, u8, e, HB, f0, f1, f2, f3, f4, f5, f6, f7, f8, f9, n01, t0, t1⟩ K hK
          subst e
          simp only [Act.put, List.setIfInBounds_toArray, List.set_cons_zero, List.set_cons_succ]
          have hb : Below w2.heap.size w2 (w2.alloc (.cells #[.bool false, .slice none 0 0, .bool false, .slice none 0 0] 28)) := (Below.refl _ _).alloc (Nat.le_refl _) _
          have HB3 := HB.trans (hb.mono HB.size)
          go_simp
          exact hK.out _ _ ⟨u26, u27, u28, u29, u30, u31, u32, u33, u7, .pointer (some ⟨w2.heap.size, 0, none⟩), (by simp only [Act.put, List.setIfInBounds_toArray, List.set_cons_zero, List.set_cons_succ]), HB3, (fun h => f0 (by simpa using h)), (fun h => f1 (by simpa using h)), (fun h => (f2 (by simpa using h)).below hb), (fun h => (f3 (by simpa using h)).below hb), (fun h => f4 (by simpa using h)), (fun h => (f5 (by simpa using h)).below hb), (fun h => f6 (by simpa using h)), (fun h => (f7 (by simpa using h)).below hb), (fun h => by simpa using (f8 (by simpa using h)).below hb), (fun _ => by have hs : d 11 = false := (by cases hq : d 11 with | false => rfl | true => (have hz := t1 hq; rw [hd] at hz; cases hz)); simpa [hs] using OwnQ.new HB.size ((NN : Rat) - a)), (fun h _ => (f8 (by simpa using h)).lt), (fun h => by simpa using t0 (by simpa using h)), (fun _ => by simp)⟩
        · intro d a2 w2 hd hm ⟨u26, u27, u28, u29, u30, u31, u32, u33, u7, u8, e, HB, f0, f1, f2, f3, f4, f5, f6, f7, f8, f9, n01, t0, t1⟩ K hK
          subst e
          simp only [Act.put, List.setIfInBounds_toArray, List.set_cons_zero, List.set_cons_succ]
          obtain ⟨gg, AA, nn, cc, gg', AA', nn', cc', rfl, hi⟩ := f3 (hm ⟨3, .data⟩ (by simp) rfl)
          obtain ⟨g, rfl, hg, b0, b1, b2, b3, hs, n0, n1, n2, n3, _⟩ := f8 (hm ⟨8, .data⟩ (by simp) rfl)
          obtain ⟨k0, k1, k2, k3, k4, k5, k6, k7, k8⟩ := id hs
          go_simp
          exact hK.out _ _ ⟨u26, u27, u28, .agg #[.bool gg, .slice AA nn cc, .bool gg', .slice AA' nn' cc'], u30, u31, u32, u33, .pointer (some ⟨g, 0, none⟩), u8, (by simp only [Act.put, List.setIfInBounds_toArray, List.set_cons_zero, List.set_cons_succ]), Below.set4 HB hg _ _ _ _, (fun h => f0 (by simpa using h)), (fun h => f1 (by simpa using h)), (fun h => (f2 (by simpa using h)).set4 hs n0 n1 n2 n3 _ _ _ _), (fun h => (f3 (by simpa using h)).set4 hs n0 n1 n2 n3 _ _ _ _), (fun h => f4 (by simpa using h)), (fun h => (f5 (by simpa using h)).set4 hs n0 n1 n2 n3 _ _ _ _), (fun h => f6 (by simpa using h)), (fun h => (f7 (by simpa using h)).set4 hs n0 n1 n2 n3 _ _ _ _), (fun _ => by simpa using OwnQ.near hi hg hs n0 n1 n2 n3), (fun h => by simpa using (f9 (by simpa using h)).far ((n01 (hm ⟨8, .data⟩ (by simp) rfl) (by simpa using h)).symm) hs n0 n1 n2 n3 _ _ _ _), (fun h h' => n01 (by simpa using h) (by simpa using h')), (fun _ => by simpa using hm ⟨8, .data⟩ (by simp) rfl), (fun h => by simpa using t1 (by simpa using h))⟩
        · intro d a2 w2 hd hm ⟨u26, u27, u28, u29, u30, u31, u32, u33, u7, u8, e, HB, f0, f1, f2, f3, f4, f5, f6, f7, f8, f9, n01, t0, t1⟩ K hK
          subst e
          simp only [Act.put, List.setIfInBounds_toArray, List.set_cons_zero, List.set_cons_succ]
          obtain ⟨gg, AA, nn, cc, gg', AA', nn', cc', rfl, hi⟩ := f7 (hm ⟨7, .data⟩ (by simp) rfl)
          obtain ⟨g, rfl, hg, b0, b1, b2, b3, hs, n0, n1, n2, n3, _⟩ := f9 (hm ⟨9, .data⟩ (by simp) rfl)
          obtain ⟨k0, k1, k2, k3, k4, k5, k6, k7, k8⟩ := id hs
          go_simp
          exact hK.out _ _ ⟨u26, u27, u28, u29, u30, u31, u32, .agg #[.bool gg, .slice AA nn cc, .bool gg', .slice AA' nn' cc'], u7, .pointer (some ⟨g, 0, none⟩), (by simp only [Act.put, List.setIfInBounds_toArray, List.set_cons_zero, List.set_cons_succ]), Below.set4 HB hg _ _ _ _, (fun h => f0 (by simpa using h)), (fun h => f1 (by simpa using h)), (fun h => (f2 (by simpa using h)).set4 hs n0 n1 n2 n3 _ _ _ _), (fun h => (f3 (by simpa using h)).set4 hs n0 n1 n2 n3 _ _ _ _), (fun h => f4 (by simpa using h)), (fun h => (f5 (by simpa using h)).set4 hs n0 n1 n2 n3 _ _ _ _), (fun h => f6 (by simpa using h)), (fun h => (f7 (by simpa using h)).set4 hs n0 n1 n2 n3 _ _ _ _), (fun h => by simpa using (f8 (by simpa using h)).far (n01 (by simpa using h) (hm ⟨9, .data⟩ (by simp) rfl)) hs n0 n1 n2 n3 _ _ _ _), (fun _ => by simpa using OwnQ.near hi hg hs n0 n1 n2 n3), (fun h h' => n01 (by simpa using h) (by simpa using h')), (fun h => by simpa using t0 (by simpa using h)), (fun _ => by simpa using hm ⟨9, .data⟩ (by simp) rfl)⟩
      · intro d a2 w2 hall ⟨u26, u27, u28, u29, u30, u31, u32, u33, u7, u8, e, HB, f0, f1, f2, f3, f4, f5, f6, f7, f8, f9, n01, t0, t1⟩
        subst e
        simp only [Act.put, List.setIfInBounds_toArray, List.set_cons_zero, List.set_cons_succ]
        obtain rfl := f0 (hall _ (by decide))
        obtain rfl := f1 (hall _ (by decide))
        obtain rfl := f4 (hall _ (by decide))
        obtain rfl := f6 (hall _ (by decide))
        obtain ⟨g0, rfl, h0, b0⟩ := OwnQ.ratAtB (by have := f8 (hall _ (by decide)); rwa [hall 10 (by decide)] at this)
        obtain ⟨g1, rfl, h1, b1⟩ := OwnQ.ratAtB (by have := f9 (hall _ (by decide)); rwa [hall 11 (by decide)] at this)
        go_wp2_with fail
        go_meet
        exact ⟨g0, g1, rfl, rfl, h0, h1, HB⟩
  case rest =>
  obtain ⟨gl, go, rfl, rfl, Tl, To, DC⟩ := hcut
  obtain ⟨W6, rfl⟩ : ∃ x : World, x = wc := ⟨_, rfl⟩
  replace Sa := Sa.after DC
  replace Ia := Ia.below DC
  replace B1 := B1.trans (DC.mono B1.size)
  have L1 := fl_low a
  have L2 := fl_int a
  have L3 := rd_off a
  have L4 := rd_int a
  rw [HFF.out] at L1 L2
  rw [HNN.out] at L3 L4
  have Zl : RSz 8 (a - (FF : Rat)) := RSz.sub Za Zf (by decide)
  have Zo : RSz 10 ((NN : Rat) - a) := RSz.sub Zg Za (by decide)
  clear DC HX HI Sf Sg If Ig HFF HNN
  obtain ⟨gn_l, An_l, nn_l, cn_l, gd_l, Ad_l, nd_l, cd_l, Sl, Il⟩ := Tl
  obtain ⟨gn_o, An_o, nn_o, cn_o, gd_o, Ad_o, nd_o, cd_o, So, Io⟩ := To
  generalize a - (FF : Rat) = ql at *
  generalize (NN : Rat) - a = qo at *
  have HL1 := Lib.hid L1
  have HL2 := Lib.hid L2
  have HL3 := Lib.hid L3
  have HL4 := Lib.hid L4
  clear L1 L2 L3 L4
  go_upto_region 7 with (fail)
  go_cut [9] (fun s wx => s = .bool true ∧ Below W6.heap.size W6 wx)
  case first =>
    as_aux_lemma =>
      have HS : Hid (∀ V, Below W6.heap.size W6 V → (V.cell? ⟨gl, 0, none⟩ = some (.bool gn_l) ∧ V.cell? ⟨gl, 1, none⟩ = some (.slice An_l nn_l cn_l) ∧ V.cell? ⟨gl, 2, none⟩ = some (.bool gd_l) ∧ V.cell? ⟨gl, 3, none⟩ = some (.slice Ad_l nd_l cd_l))) := fun V hV => (Sl.after hV).cells
      obtain ⟨s, hs⟩ : ∃ s, sgn ql.num = s := ⟨_, rfl⟩
      have hs0 : 0 ≤ s := by rw [← hs]; exact sgn_nn HL1.out.1
      have HG := Lib.hid hs
      have HC : Hid (cq ql ((1 : Int) : Rat) = -1) := cq_lt HL1.out.2
      clear hs B1
      have Zp2 : RSz 1 (((1 : Int) : Rat)) := RSz.whole (Sz.of (by decide) (by decide)) (by decide)
      have Dp0 : Below W6.heap.size W6 W6.drew := (Below.refl _ _).drew
      refine wp_region_seq (.pre [(0, true), (1, false), (2, true), (3, true), (4, true), (5, false), (6, false), (7, true), (8, true), (9, true)] .done) (fun W => (W.cell? ⟨gl, 0, none⟩ = some (.bool gn_l) ∧ W.cell? ⟨gl, 1, none⟩ = some (.slice An_l nn_l cn_l) ∧ W.cell? ⟨gl, 2, none⟩ = some (.bool gd_l) ∧ W.cell? ⟨gl, 3, none⟩ = some (.slice Ad_l nd_l cd_l))) (by kernel_rfl) (by kernel_rfl) ?_ (by kernel_rfl) (HS.out _ Dp0) ?_
      · refine chk_pre _ _ _ (by as_aux_lemma => kernel_rfl) ?_
        exact (by as_aux_lemma => kernel_rfl)
      refine seq_take _ ?_ rfl (Or.inl ⟨by rfl, ?_⟩) ?_
      rotate_left
      · (intro w hSw; (try dsimp only at hSw); go_simp; (try with_reducible rfl))
      try simp only [Act.put, List.setIfInBounds_toArray, List.set_cons_zero, List.set_cons_succ]
      refine seq_one _ rfl fun K hK => ?_
      go_simp
      (with_reducible refine (rqsign_z gn_l An_l nn_l cn_l gd_l Ad_l nd_l cd_l s _ (Il.below Dp0).num HG.out).mono ?_)
      rintro e vp1 ⟨rfl, bp1⟩
      have Dp1 : Below W6.heap.size W6 vp1 := Below.trans Dp0 (bp1.mono (Below.size Dp0))
      go_wp2_with fail
      refine hK.out _ _ (HS.out _ Dp1) (fun hHeld => ?_)
      clear hK K hHeld
      try simp only [Act.put, List.setIfInBounds_toArray, List.set_cons_zero, List.set_cons_succ]
      refine seq_take _ ?_ rfl (Or.inl ⟨by rfl, ?_⟩) ?_
      rotate_left
      · (intro w hSw; (try dsimp only at hSw); go_simp; (try with_reducible rfl))
      try simp only [Act.put, List.setIfInBounds_toArray, List.set_cons_zero, List.set_cons_succ]
      refine seq_take _ ?_ rfl (Or.inl ⟨by rfl, ?_⟩) ?_
      rotate_left
      · (intro w hSw; (try dsimp only at hSw); go_simp; (try with_reducible rfl))
      try simp only [Act.put, List.setIfInBounds_toArray, List.set_cons_zero, List.set_cons_succ]
      refine seq_take _ ?_ rfl (Or.inl ⟨by rfl, ?_⟩) ?_
      rotate_left
      · (intro w hSw; (try dsimp only at hSw); go_simp; (try with_reducible rfl))
      try simp only [Act.put, List.setIfInBounds_toArray, List.set_cons_zero, List.set_cons_succ]
      refine seq_one _ rfl fun K hK => ?_
      go_simp
      (with_reducible refine (rqnumber_z (1) _ (by decide) (by decide)).mono ?_)
      rintro e vp2 ⟨gnp2, Anp2, nnp2, cnp2, gdp2, Adp2, ndp2, cdp2, rfl, ip2, bp2⟩
      have Dp2 : Below W6.heap.size W6 vp2 := Below.trans Dp1 (bp2.mono (Below.size Dp1))
      go_wp2_with fail
      refine hK.out _ _ (HS.out _ Dp2) (fun hHeld => ?_)
      clear hK K hHeld
      try simp only [Act.put, List.setIfInBounds_toArray, List.set_cons_zero, List.set_cons_succ]
      refine seq_one _ rfl fun K hK => ?_
      go_simp
      (with_reducible refine (rqcmp_z gn_l An_l nn_l cn_l gd_l Ad_l nd_l cd_l gnp2 Anp2 nnp2 cnp2 gdp2 Adp2 ndp2 cdp2 _ (-1) (Il.below Dp2) ip2 Zl Zp2 (by decide) HC.out).mono ?_)
      rintro e vp3 ⟨rfl, bp3⟩
      have Dp3 : Below W6.heap.size W6 vp3 := Below.trans Dp2 (bp3.mono (Below.size Dp2))
      go_wp2_with fail
      refine hK.out _ _ (HS.out _ Dp3) (fun hHeld => ?_)
      clear hK K hHeld
      try simp only [Act.put, List.setIfInBounds_toArray, List.set_cons_zero, List.set_cons_succ]
      refine seq_take _ ?_ rfl (Or.inl ⟨by rfl, ?_⟩) ?_
      rotate_left
      · (intro w hSw; (try dsimp only at hSw); go_simp; (try with_reducible rfl))
      try simp only [Act.put, List.setIfInBounds_toArray, List.set_cons_zero, List.set_cons_succ]
      refine seq_take _ ?_ rfl (Or.inl ⟨by rfl, ?_⟩) ?_
      rotate_left
      · (intro w hSw; (try dsimp only at hSw); go_simp; (try with_reducible rfl))
      try simp only [Act.put, List.setIfInBounds_toArray, List.set_cons_zero, List.set_cons_succ]
      refine seq_take _ ?_ rfl (Or.inl ⟨by rfl, ?_⟩) ?_
      rotate_left
      · (intro w hSw; (try dsimp only at hSw); go_simp; (try with_reducible rfl))
      try simp only [Act.put, List.setIfInBounds_toArray, List.set_cons_zero, List.set_cons_succ]
      refine NoPanic.normal ?_
      go_wp2_with fail
      go_meet
      exact ⟨rfl, Dp3⟩
  case rest =>
  obtain ⟨rfl, DC⟩ := hcut
  obtain ⟨W7, rfl⟩ : ∃ x : World, x = wc := ⟨_, rfl⟩
  replace Sa := Sa.after DC
  replace Ia := Ia.below DC
  replace Sl := Sl.after DC
  replace Il := Il.below DC
  replace So := So.after DC
  replace Io := Io.below DC
  replace B1 := B1.trans (DC.mono B1.size)
  clear DC
  go_upto_region 8 with (fail)
  go_cut [10] (fun s wx => s = .bool true ∧ Below W7.heap.size W7 wx)
  case first =>
    as_aux_lemma =>
      have HS : Hid (∀ V, Below W7.heap.size W7 V → (V.cell? ⟨go, 0, none⟩ = some (.bool gn_o) ∧ V.cell? ⟨go, 1, none⟩ = some (.slice An_o nn_o cn_o) ∧ V.cell? ⟨go, 2, none⟩ = some (.bool gd_o) ∧ V.cell? ⟨go, 3, none⟩ = some (.slice Ad_o nd_o cd_o))) := fun V hV => (So.after hV).cells
      have HC1 : Hid (cq qo (Rat.divInt (-1) 2) = 1) := cq_gt HL3.out.1
      obtain ⟨t, ht⟩ : ∃ t, cq qo (Rat.divInt 1 2) = t := ⟨_, rfl⟩
      have ht0 : t ≤ 0 := by rw [← ht]; exact cq_le HL3.out.2
      have HC2 := Lib.hid ht
      clear ht B1
      have Zp1 : RSz 1 (Rat.divInt (-1) (2)) := RSz.divInt (Sz.of (by decide) (by decide)) (Sz.of (by decide) (by decide)) (by decide)
      have Zp3 : RSz 1 (Rat.divInt (1) (2)) := RSz.divInt (Sz.of (by decide) (by decide)) (Sz.of (by decide) (by decide)) (by decide)
      have Dp0 : Below W7.heap.size W7 W7.drew := (Below.refl _ _).drew
      refine wp_region_seq (.pre [(0, true), (1, false), (2, false), (3, true), (4, true), (5, true), (6, false), (7, false), (8, true), (9, true), (10, true)] .done) (fun W => (W.cell? ⟨go, 0, none⟩ = some (.bool gn_o) ∧ W.cell? ⟨go, 1, none⟩ = some (.slice An_o nn_o cn_o) ∧ W.cell? ⟨go, 2, none⟩ = some (.bool gd_o) ∧ W.cell? ⟨go, 3, none⟩ = some (.slice Ad_o nd_o cd_o))) (by kernel_rfl) (by kernel_rfl) ?_ (by kernel_rfl) (HS.out _ Dp0) ?_
      · refine chk_pre _ _ _ (by as_aux_lemma => kernel_rfl) ?_
        exact (by as_aux_lemma => kernel_rfl)
      refine seq_take _ ?_ rfl (Or.inl ⟨by rfl, ?_⟩) ?_
      rotate_left
      · (intro w hSw; (try dsimp only at hSw); go_simp; (try with_reducible rfl))
      try simp only [Act.put, List.setIfInBounds_toArray, List.set_cons_zero, List.set_cons_succ]
      refine seq_one _ rfl fun K hK => ?_
      go_simp
      (with_reducible refine (rqmade_z (-1) (2) _ (by decide) (by decide) (by decide) (by decide) (by decide)).mono ?_)
      rintro e vp1 ⟨gnp1, Anp1, nnp1, cnp1, gdp1, Adp1, ndp1, cdp1, rfl, ip1, bp1⟩
      have Dp1 : Below W7.heap.size W7 vp1 := Below.trans Dp0 (bp1.mono (Below.size Dp0))
      go_wp2_with fail
      refine hK.out _ _ (HS.out _ Dp1) (fun hHeld => ?_)
      clear hK K hHeld
      try simp only [Act.put, List.setIfInBounds_toArray, List.set_cons_zero, List.set_cons_succ]
      refine seq_one _ rfl fun K hK => ?_
      go_simp
      (with_reducible refine (rqcmp_z gn_o An_o nn_o cn_o gd_o Ad_o nd_o cd_o gnp1 Anp1 nnp1 cnp1 gdp1 Adp1 ndp1 cdp1 _ (1) (Io.below Dp1) ip1 Zo Zp1 (by decide) HC1.out).mono ?_)
      rintro e vp2 ⟨rfl, bp2⟩
      have Dp2 : Below W7.heap.size W7 vp2 := Below.trans Dp1 (bp2.mono (Below.size Dp1))
      go_wp2_with fail
      refine hK.out _ _ (HS.out _ Dp2) (fun hHeld => ?_)
      clear hK K hHeld
      try simp only [Act.put, List.setIfInBounds_toArray, List.set_cons_zero, List.set_cons_succ]
      refine seq_take _ ?_ rfl (Or.inl ⟨by rfl, ?_⟩) ?_
      rotate_left
      · (intro w hSw; (try dsimp only at hSw); go_simp; (try with_reducible rfl))
      try simp only [Act.put, List.setIfInBounds_toArray, List.set_cons_zero, List.set_cons_succ]
      refine seq_take _ ?_ rfl (Or.inl ⟨by rfl, ?_⟩) ?_
      rotate_left
      · (intro w hSw; (try dsimp only at hSw); go_simp; (try with_reducible rfl))
      try simp only [Act.put, List.setIfInBounds_toArray, List.set_cons_zero, List.set_cons_succ]
      refine seq_take _ ?_ rfl (Or.inl ⟨by rfl, ?_⟩) ?_
      rotate_left
      · (intro w hSw; (try dsimp only at hSw); go_simp; (try with_reducible rfl))
      try simp only [Act.put, List.setIfInBounds_toArray, List.set_cons_zero, List.set_cons_succ]
      refine seq_one _ rfl fun K hK => ?_
      go_simp
      (with_reducible refine (rqmade_z (1) (2) _ (by decide) (by decide) (by decide) (by decide) (by decide)).mono ?_)
      rintro e vp3 ⟨gnp3, Anp3, nnp3, cnp3, gdp3, Adp3, ndp3, cdp3, rfl, ip3, bp3⟩
      have Dp3 : Below W7.heap.size W7 vp3 := Below.trans Dp2 (bp3.mono (Below.size Dp2))
      go_wp2_with fail
      refine hK.out _ _ (HS.out _ Dp3) (fun hHeld => ?_)
      clear hK K hHeld
      try simp only [Act.put, List.setIfInBounds_toArray, List.set_cons_zero, List.set_cons_succ]
      refine seq_one _ rfl fun K hK => ?_
      go_simp
      (with_reducible refine (rqcmp_z gn_o An_o nn_o cn_o gd_o Ad_o nd_o cd_o gnp3 Anp3 nnp3 cnp3 gdp3 Adp3 ndp3 cdp3 _ (t) (Io.below Dp3) ip3 Zo Zp3 (by decide) HC2.out).mono ?_)
      rintro e vp4 ⟨rfl, bp4⟩
      have Dp4 : Below W7.heap.size W7 vp4 := Below.trans Dp3 (bp4.mono (Below.size Dp3))
      go_wp2_with fail
      refine hK.out _ _ (HS.out _ Dp4) (fun hHeld => ?_)
      clear hK K hHeld
      try simp only [Act.put, List.setIfInBounds_toArray, List.set_cons_zero, List.set_cons_succ]
      refine seq_take _ ?_ rfl (Or.inl ⟨by rfl, ?_⟩) ?_
      rotate_left
      · (intro w hSw; (try dsimp only at hSw); go_simp; (try with_reducible rfl))
      try simp only [Act.put, List.setIfInBounds_toArray, List.set_cons_zero, List.set_cons_succ]
      refine seq_take _ ?_ rfl (Or.inl ⟨by rfl, ?_⟩) ?_
      rotate_left
      · (intro w hSw; (try dsimp only at hSw); go_simp; (try with_reducible rfl))
      try simp only [Act.put, List.setIfInBounds_toArray, List.set_cons_zero, List.set_cons_succ]
      refine seq_take _ ?_ rfl (Or.inl ⟨by rfl, ?_⟩) ?_
      rotate_left
      · (intro w hSw; (try dsimp only at hSw); go_simp; (try with_reducible rfl))
      try simp only [Act.put, List.setIfInBounds_toArray, List.set_cons_zero, List.set_cons_succ]
      refine NoPanic.normal ?_
      go_wp2_with fail
      go_meet
      exact ⟨rfl, Dp4⟩
  case rest =>
  obtain ⟨rfl, DC⟩ := hcut
  obtain ⟨W8, rfl⟩ : ∃ x : World, x = wc := ⟨_, rfl⟩
  replace Sa := Sa.after DC
  replace Ia := Ia.below DC
  replace Sl := Sl.after DC
  replace Il := Il.below DC
  replace So := So.after DC
  replace Io := Io.below DC
  replace B1 := B1.trans (DC.mono B1.size)
  clear DC
  go_upto_region 9 with (fail)
  go_cut [2] (fun s wx => s = .bool true ∧ Below W8.heap.size W8 wx)
  case first =>
    have HS : Hid (∀ V, Below W8.heap.size W8 V → (V.cell? ⟨ga, 0, none⟩ = some (.bool gn_a) ∧ V.cell? ⟨ga, 1, none⟩ = some (.slice An_a nn_a cn_a) ∧ V.cell? ⟨ga, 2, none⟩ = some (.bool gd_a) ∧ V.cell? ⟨ga, 3, none⟩ = some (.slice Ad_a nd_a cd_a)) ∧ (V.cell? ⟨gl, 0, none⟩ = some (.bool gn_l) ∧ V.cell? ⟨gl, 1, none⟩ = some (.slice An_l nn_l cn_l) ∧ V.cell? ⟨gl, 2, none⟩ = some (.bool gd_l) ∧ V.cell? ⟨gl, 3, none⟩ = some (.slice Ad_l nd_l cd_l)) ∧ (V.cell? ⟨go, 0, none⟩ = some (.bool gn_o) ∧ V.cell? ⟨go, 1, none⟩ = some (.slice An_o nn_o cn_o) ∧ V.cell? ⟨go, 2, none⟩ = some (.bool gd_o) ∧ V.cell? ⟨go, 3, none⟩ = some (.slice Ad_o nd_o cd_o))) := fun V hV => ⟨(Sa.after hV).cells, (Sl.after hV).cells, (So.after hV).cells⟩
    clear B1
    by_cases hd : a.den = 1
    case' pos =>
      as_aux_lemma =>
        have HG1 : Hid (sgn ql.num = 0) := rsgn_zero (HL2.out.2 hd)
        have HG2 : Hid (sgn qo.num = 0) := rsgn_zero (HL4.out.2 hd)
        have HD := Lib.hid hd
        clear hd
        have Dp0 : Below W8.heap.size W8 W8.drew := (Below.refl _ _).drew
        refine wp_region_seq (.pre [(0, true), (1, true), (2, true), (3, true), (4, true), (5, true), (8, true), (6, false), (7, true), (9, false), (10, true), (11, true), (12, true), (13, true), (16, true), (14, false), (15, true), (17, false), (18, true), (19, true), (20, true), (21, true), (22, true), (23, true)] .done) (fun W => (W.cell? ⟨ga, 0, none⟩ = some (.bool gn_a) ∧ W.cell? ⟨ga, 1, none⟩ = some (.slice An_a nn_a cn_a) ∧ W.cell? ⟨ga, 2, none⟩ = some (.bool gd_a) ∧ W.cell? ⟨ga, 3, none⟩ = some (.slice Ad_a nd_a cd_a)) ∧ (W.cell? ⟨gl, 0, none⟩ = some (.bool gn_l) ∧ W.cell? ⟨gl, 1, none⟩ = some (.slice An_l nn_l cn_l) ∧ W.cell? ⟨gl, 2, none⟩ = some (.bool gd_l) ∧ W.cell? ⟨gl, 3, none⟩ = some (.slice Ad_l nd_l cd_l)) ∧ (W.cell? ⟨go, 0, none⟩ = some (.bool gn_o) ∧ W.cell? ⟨go, 1, none⟩ = some (.slice An_o nn_o cn_o) ∧ W.cell? ⟨go, 2, none⟩ = some (.bool gd_o) ∧ W.cell? ⟨go, 3, none⟩ = some (.slice Ad_o nd_o cd_o))) (by kernel_rfl) (by kernel_rfl) ?_ (by kernel_rfl) (HS.out _ Dp0) ?_
        · refine chk_pre _ _ _ (by as_aux_lemma => kernel_rfl) ?_
          exact (by as_aux_lemma => kernel_rfl)
        refine seq_take _ ?_ rfl (Or.inl ⟨by rfl, ?_⟩) ?_
        rotate_left
        · (intro w hSw; (try dsimp only at hSw); go_simp; (try with_reducible rfl))
        try simp only [Act.put, List.setIfInBounds_toArray, List.set_cons_zero, List.set_cons_succ]
        refine seq_take _ ?_ rfl (Or.inl ⟨by rfl, ?_⟩) ?_
        rotate_left
        · (intro w hSw; (try dsimp only at hSw); go_simp; (try with_reducible rfl))
        try simp only [Act.put, List.setIfInBounds_toArray, List.set_cons_zero, List.set_cons_succ]
        refine seq_take _ ?_ rfl (Or.inl ⟨by rfl, ?_⟩) ?_
        rotate_left
        · (intro w hSw; (try dsimp only at hSw); go_simp; (try with_reducible rfl))
        try simp only [Act.put, List.setIfInBounds_toArray, List.set_cons_zero, List.set_cons_succ]
        refine seq_take _ ?_ rfl (Or.inl ⟨by rfl, ?_⟩) ?_
        rotate_left
        · (intro w hSw; (try dsimp only at hSw); go_simp; (try with_reducible rfl))
        try simp only [Act.put, List.setIfInBounds_toArray, List.set_cons_zero, List.set_cons_succ]
        refine seq_take _ ?_ rfl (Or.inl ⟨by rfl, ?_⟩) ?_
        rotate_left
        · (intro w hSw; (try dsimp only at hSw); go_simp; (try with_reducible rfl))
        try simp only [Act.put, List.setIfInBounds_toArray, List.set_cons_zero, List.set_cons_succ]
        refine seq_take _ ?_ rfl (Or.inl ⟨by rfl, ?_⟩) ?_
        rotate_left
        · (intro w hSw; (try dsimp only at hSw); go_simp; (try with_reducible rfl))
        try simp only [Act.put, List.setIfInBounds_toArray, List.set_cons_zero, List.set_cons_succ]
        refine seq_take _ ?_ rfl (Or.inl ⟨by rfl, ?_⟩) ?_
        rotate_left
        · (intro w hSw; (try dsimp only at hSw); go_simp; (try with_reducible rfl))
        try simp only [Act.put, List.setIfInBounds_toArray, List.set_cons_zero, List.set_cons_succ]
        refine seq_one _ rfl fun K hK => ?_
        go_simp
        (with_reducible refine (rqsign_z gn_l An_l nn_l cn_l gd_l Ad_l nd_l cd_l 0 _ (Il.below Dp0).num HG1.out).mono ?_)
        rintro e vp1 ⟨rfl, bp1⟩
        have Dp1 : Below W8.heap.size W8 vp1 := Below.trans Dp0 (bp1.mono (Below.size Dp0))
        go_wp2_with fail
        refine hK.out _ _ (HS.out _ Dp1) (fun hHeld => ?_)
        clear hK K hHeld
        try simp only [Act.put, List.setIfInBounds_toArray, List.set_cons_zero, List.set_cons_succ]
        refine seq_take _ ?_ rfl (Or.inl ⟨by rfl, ?_⟩) ?_
        rotate_left
        · (intro w hSw; (try dsimp only at hSw); go_simp; (try with_reducible rfl))
        try simp only [Act.put, List.setIfInBounds_toArray, List.set_cons_zero, List.set_cons_succ]
        refine seq_one _ rfl fun K hK => ?_
        go_simp
        (with_reducible refine (qint_t gn_a An_a nn_a cn_a gd_a Ad_a nd_a cd_a _ (Ia.below Dp1) HD.out).mono ?_)
        rintro e vp2 ⟨rfl, bp2⟩
        have Dp2 : Below W8.heap.size W8 vp2 := Below.trans Dp1 (bp2.mono (Below.size Dp1))
        go_wp2_with fail
        refine hK.out _ _ (HS.out _ Dp2) (fun hHeld => ?_)
        clear hK K hHeld
        try simp only [Act.put, List.setIfInBounds_toArray, List.set_cons_zero, List.set_cons_succ]
        refine seq_take _ ?_ rfl (Or.inl ⟨by rfl, ?_⟩) ?_
        rotate_left
        · (intro w hSw; (try dsimp only at hSw); go_simp; (try with_reducible rfl))
        try simp only [Act.put, List.setIfInBounds_toArray, List.set_cons_zero, List.set_cons_succ]
        refine seq_take _ ?_ rfl (Or.inl ⟨by rfl, ?_⟩) ?_
        rotate_left
        · (intro w hSw; (try dsimp only at hSw); go_simp; (try with_reducible rfl))
        try simp only [Act.put, List.setIfInBounds_toArray, List.set_cons_zero, List.set_cons_succ]
        refine seq_take _ ?_ rfl (Or.inl ⟨by rfl, ?_⟩) ?_
        rotate_left
        · (intro w hSw; (try dsimp only at hSw); go_simp; (try with_reducible rfl))
        try simp only [Act.put, List.setIfInBounds_toArray, List.set_cons_zero, List.set_cons_succ]
        refine seq_take _ ?_ rfl (Or.inl ⟨by rfl, ?_⟩) ?_
        rotate_left
        · (intro w hSw; (try dsimp only at hSw); go_simp; (try with_reducible rfl))
        try simp only [Act.put, List.setIfInBounds_toArray, List.set_cons_zero, List.set_cons_succ]
        refine seq_take _ ?_ rfl (Or.inl ⟨by rfl, ?_⟩) ?_
        rotate_left
        · (intro w hSw; (try dsimp only at hSw); go_simp; (try with_reducible rfl))
        try simp only [Act.put, List.setIfInBounds_toArray, List.set_cons_zero, List.set_cons_succ]
        refine seq_one _ rfl fun K hK => ?_
        go_simp
        (with_reducible refine (rqsign_z gn_o An_o nn_o cn_o gd_o Ad_o nd_o cd_o 0 _ (Io.below Dp2).num HG2.out).mono ?_)
        rintro e vp3 ⟨rfl, bp3⟩
        have Dp3 : Below W8.heap.size W8 vp3 := Below.trans Dp2 (bp3.mono (Below.size Dp2))
        go_wp2_with fail
        refine hK.out _ _ (HS.out _ Dp3) (fun hHeld => ?_)
        clear hK K hHeld
        try simp only [Act.put, List.setIfInBounds_toArray, List.set_cons_zero, List.set_cons_succ]
        refine seq_take _ ?_ rfl (Or.inl ⟨by rfl, ?_⟩) ?_
        rotate_left
        · (intro w hSw; (try dsimp only at hSw); go_simp; (try with_reducible rfl))
        try simp only [Act.put, List.setIfInBounds_toArray, List.set_cons_zero, List.set_cons_succ]
        refine seq_one _ rfl fun K hK => ?_
        go_simp
        (with_reducible refine (qint_t gn_a An_a nn_a cn_a gd_a Ad_a nd_a cd_a _ (Ia.below Dp3) HD.out).mono ?_)
        rintro e vp4 ⟨rfl, bp4⟩
        have Dp4 : Below W8.heap.size W8 vp4 := Below.trans Dp3 (bp4.mono (Below.size Dp3))
        go_wp2_with fail
        refine hK.out _ _ (HS.out _ Dp4) (fun hHeld => ?_)
        clear hK K hHeld
        try simp only [Act.put, List.setIfInBounds_toArray, List.set_cons_zero, List.set_cons_succ]
        refine seq_take _ ?_ rfl (Or.inl ⟨by rfl, ?_⟩) ?_
        rotate_left
        · (intro w hSw; (try dsimp only at hSw); go_simp; (try with_reducible rfl))
        try simp only [Act.put, List.setIfInBounds_toArray, List.set_cons_zero, List.set_cons_succ]
        refine seq_take _ ?_ rfl (Or.inl ⟨by rfl, ?_⟩) ?_
        rotate_left
        · (intro w hSw; (try dsimp only at hSw); go_simp; (try with_reducible rfl))
        try simp only [Act.put, List.setIfInBounds_toArray, List.set_cons_zero, List.set_cons_succ]
        refine seq_take _ ?_ rfl (Or.inl ⟨by rfl, ?_⟩) ?_
        rotate_left
        · (intro w hSw; (try dsimp only at hSw); go_simp; (try with_reducible rfl))
        try simp only [Act.put, List.setIfInBounds_toArray, List.set_cons_zero, List.set_cons_succ]
        refine seq_take _ ?_ rfl (Or.inl ⟨by rfl, ?_⟩) ?_
        rotate_left
        · (intro w hSw; (try dsimp only at hSw); go_simp; (try with_reducible rfl))
        try simp only [Act.put, List.setIfInBounds_toArray, List.set_cons_zero, List.set_cons_succ]
        refine seq_take _ ?_ rfl (Or.inl ⟨by rfl, ?_⟩) ?_
        rotate_left
        · (intro w hSw; (try dsimp only at hSw); go_simp; (try with_reducible rfl))
        try simp only [Act.put, List.setIfInBounds_toArray, List.set_cons_zero, List.set_cons_succ]
        refine seq_take _ ?_ rfl (Or.inl ⟨by rfl, ?_⟩) ?_
        rotate_left
        · (intro w hSw; (try dsimp only at hSw); go_simp; (try with_reducible rfl))
        try simp only [Act.put, List.setIfInBounds_toArray, List.set_cons_zero, List.set_cons_succ]
        refine NoPanic.normal ?_
        go_wp2_with fail
        go_meet
        exact ⟨rfl, Dp4⟩
    case' neg =>
      as_aux_lemma =>
        obtain ⟨s, hs⟩ : ∃ s, sgn ql.num = s := ⟨_, rfl⟩
        obtain ⟨t, ht⟩ : ∃ t, sgn qo.num = t := ⟨_, rfl⟩
        have hs0 : (s == 0) = false := by rw [← hs]; exact sgn_ne' (num_ne (fun h => hd (HL2.out.1 h)))
        have ht0 : (t == 0) = false := by rw [← ht]; exact sgn_ne' (num_ne (fun h => hd (HL4.out.1 h)))
        have HG1 := Lib.hid hs
        have HG2 := Lib.hid ht
        have HD := Lib.hid hd
        clear hd hs ht
        have Dp0 : Below W8.heap.size W8 W8.drew := (Below.refl _ _).drew
        refine wp_region_seq (.pre [(0, true), (1, true), (2, true), (3, true), (4, true), (5, true), (8, true), (6, false), (7, true), (9, false), (10, true), (11, true), (12, true), (13, true), (16, true), (14, false), (15, true), (17, false), (18, true), (19, true), (20, true), (21, true), (22, true), (23, true)] .done) (fun W => (W.cell? ⟨ga, 0, none⟩ = some (.bool gn_a) ∧ W.cell? ⟨ga, 1, none⟩ = some (.slice An_a nn_a cn_a) ∧ W.cell? ⟨ga, 2, none⟩ = some (.bool gd_a) ∧ W.cell? ⟨ga, 3, none⟩ = some (.slice Ad_a nd_a cd_a)) ∧ (W.cell? ⟨gl, 0, none⟩ = some (.bool gn_l) ∧ W.cell? ⟨gl, 1, none⟩ = some (.slice An_l nn_l cn_l) ∧ W.cell? ⟨gl, 2, none⟩ = some (.bool gd_l) ∧ W.cell? ⟨gl, 3, none⟩ = some (.slice Ad_l nd_l cd_l)) ∧ (W.cell? ⟨go, 0, none⟩ = some (.bool gn_o) ∧ W.cell? ⟨go, 1, none⟩ = some (.slice An_o nn_o cn_o) ∧ W.cell? ⟨go, 2, none⟩ = some (.bool gd_o) ∧ W.cell? ⟨go, 3, none⟩ = some (.slice Ad_o nd_o cd_o))) (by kernel_rfl) (by kernel_rfl) ?_ (by kernel_rfl) (HS.out _ Dp0) ?_
        · refine chk_pre _ _ _ (by as_aux_lemma => kernel_rfl) ?_
          exact (by as_aux_lemma => kernel_rfl)
        refine seq_take _ ?_ rfl (Or.inl ⟨by rfl, ?_⟩) ?_
        rotate_left
        · (intro w hSw; (try dsimp only at hSw); go_simp; (try with_reducible rfl))
        try simp only [Act.put, List.setIfInBounds_toArray, List.set_cons_zero, List.set_cons_succ]
        refine seq_take _ ?_ rfl (Or.inl ⟨by rfl, ?_⟩) ?_
        rotate_left
        · (intro w hSw; (try dsimp only at hSw); go_simp; (try with_reducible rfl))
        try simp only [Act.put, List.setIfInBounds_toArray, List.set_cons_zero, List.set_cons_succ]
        refine seq_take _ ?_ rfl (Or.inl ⟨by rfl, ?_⟩) ?_
        rotate_left
        · (intro w hSw; (try dsimp only at hSw); go_simp; (try with_reducible rfl))
        try simp only [Act.put, List.setIfInBounds_toArray, List.set_cons_zero, List.set_cons_succ]
        refine seq_take _ ?_ rfl (Or.inl ⟨by rfl, ?_⟩) ?_
        rotate_left
        · (intro w hSw; (try dsimp only at hSw); go_simp; (try with_reducible rfl))
        try simp only [Act.put, List.setIfInBounds_toArray, List.set_cons_zero, List.set_cons_succ]
        refine seq_take _ ?_ rfl (Or.inl ⟨by rfl, ?_⟩) ?_
        rotate_left
        · (intro w hSw; (try dsimp only at hSw); go_simp; (try with_reducible rfl))
        try simp only [Act.put, List.setIfInBounds_toArray, List.set_cons_zero, List.set_cons_succ]
        refine seq_take _ ?_ rfl (Or.inl ⟨by rfl, ?_⟩) ?_
        rotate_left
        · (intro w hSw; (try dsimp only at hSw); go_simp; (try with_reducible rfl))
        try simp only [Act.put, List.setIfInBounds_toArray, List.set_cons_zero, List.set_cons_succ]
        refine seq_take _ ?_ rfl (Or.inl ⟨by rfl, ?_⟩) ?_
        rotate_left
        · (intro w hSw; (try dsimp only at hSw); go_simp; (try with_reducible rfl))
        try simp only [Act.put, List.setIfInBounds_toArray, List.set_cons_zero, List.set_cons_succ]
        refine seq_one _ rfl fun K hK => ?_
        go_simp
        (with_reducible refine (rqsign_z gn_l An_l nn_l cn_l gd_l Ad_l nd_l cd_l s _ (Il.below Dp0).num HG1.out).mono ?_)
        rintro e vp1 ⟨rfl, bp1⟩
        have Dp1 : Below W8.heap.size W8 vp1 := Below.trans Dp0 (bp1.mono (Below.size Dp0))
        go_wp2_with fail
        refine hK.out _ _ (HS.out _ Dp1) (fun hHeld => ?_)
        clear hK K hHeld
        try simp only [Act.put, List.setIfInBounds_toArray, List.set_cons_zero, List.set_cons_succ]
        refine seq_take _ ?_ rfl (Or.inl ⟨by rfl, ?_⟩) ?_
        rotate_left
        · (intro w hSw; (try dsimp only at hSw); go_simp; (try with_reducible rfl))
        try simp only [Act.put, List.setIfInBounds_toArray, List.set_cons_zero, List.set_cons_succ]
        refine seq_one _ rfl fun K hK => ?_
        go_simp
        (with_reducible refine (qint_f gn_a An_a nn_a cn_a gd_a Ad_a nd_a cd_a _ (Ia.below Dp1) HD.out).mono ?_)
        rintro e vp2 ⟨rfl, bp2⟩
        have Dp2 : Below W8.heap.size W8 vp2 := Below.trans Dp1 (bp2.mono (Below.size Dp1))
        go_wp2_with fail
        refine hK.out _ _ (HS.out _ Dp2) (fun hHeld => ?_)
        clear hK K hHeld
        try simp only [Act.put, List.setIfInBounds_toArray, List.set_cons_zero, List.set_cons_succ]
        refine seq_take _ ?_ rfl (Or.inl ⟨by rfl, ?_⟩) ?_
        rotate_left
        · (intro w hSw; (try dsimp only at hSw); go_simp; (try with_reducible rfl))
        try simp only [Act.put, List.setIfInBounds_toArray, List.set_cons_zero, List.set_cons_succ]
        refine seq_take _ ?_ rfl (Or.inl ⟨by rfl, ?_⟩) ?_
        rotate_left
        · (intro w hSw; (try dsimp only at hSw); go_simp; (try with_reducible rfl))
        try simp only [Act.put, List.setIfInBounds_toArray, List.set_cons_zero, List.set_cons_succ]
        refine seq_take _ ?_ rfl (Or.inl ⟨by rfl, ?_⟩) ?_
        rotate_left
        · (intro w hSw; (try dsimp only at hSw); go_simp; (try with_reducible rfl))
        try simp only [Act.put, List.setIfInBounds_toArray, List.set_cons_zero, List.set_cons_succ]
        refine seq_take _ ?_ rfl (Or.inl ⟨by rfl, ?_⟩) ?_
        rotate_left
        · (intro w hSw; (try dsimp only at hSw); go_simp; (try with_reducible rfl))
        try simp only [Act.put, List.setIfInBounds_toArray, List.set_cons_zero, List.set_cons_succ]
        refine seq_take _ ?_ rfl (Or.inl ⟨by rfl, ?_⟩) ?_
        rotate_left
        · (intro w hSw; (try dsimp only at hSw); go_simp; (try with_reducible rfl))
        try simp only [Act.put, List.setIfInBounds_toArray, List.set_cons_zero, List.set_cons_succ]
        refine seq_one _ rfl fun K hK => ?_
        go_simp
        (with_reducible refine (rqsign_z gn_o An_o nn_o cn_o gd_o Ad_o nd_o cd_o t _ (Io.below Dp2).num HG2.out).mono ?_)
        rintro e vp3 ⟨rfl, bp3⟩
        have Dp3 : Below W8.heap.size W8 vp3 := Below.trans Dp2 (bp3.mono (Below.size Dp2))
        go_wp2_with fail
        refine hK.out _ _ (HS.out _ Dp3) (fun hHeld => ?_)
        clear hK K hHeld
        try simp only [Act.put, List.setIfInBounds_toArray, List.set_cons_zero, List.set_cons_succ]
        refine seq_take _ ?_ rfl (Or.inl ⟨by rfl, ?_⟩) ?_
        rotate_left
        · (intro w hSw; (try dsimp only at hSw); go_simp; (try with_reducible rfl))
        try simp only [Act.put, List.setIfInBounds_toArray, List.set_cons_zero, List.set_cons_succ]
        refine seq_one _ rfl fun K hK => ?_
        go_simp
        (with_reducible refine (qint_f gn_a An_a nn_a cn_a gd_a Ad_a nd_a cd_a _ (Ia.below Dp3) HD.out).mono ?_)
        rintro e vp4 ⟨rfl, bp4⟩
        have Dp4 : Below W8.heap.size W8 vp4 := Below.trans Dp3 (bp4.mono (Below.size Dp3))
        go_wp2_with fail
        refine hK.out _ _ (HS.out _ Dp4) (fun hHeld => ?_)
        clear hK K hHeld
        try simp only [Act.put, List.setIfInBounds_toArray, List.set_cons_zero, List.set_cons_succ]
        refine seq_take _ ?_ rfl (Or.inl ⟨by rfl, ?_⟩) ?_
        rotate_left
        · (intro w hSw; (try dsimp only at hSw); go_simp; (try with_reducible rfl))
        try simp only [Act.put, List.setIfInBounds_toArray, List.set_cons_zero, List.set_cons_succ]
        refine seq_take _ ?_ rfl (Or.inl ⟨by rfl, ?_⟩) ?_
        rotate_left
        · (intro w hSw; (try dsimp only at hSw); go_simp; (try with_reducible rfl))
        try simp only [Act.put, List.setIfInBounds_toArray, List.set_cons_zero, List.set_cons_succ]
        refine seq_take _ ?_ rfl (Or.inl ⟨by rfl, ?_⟩) ?_
        rotate_left
        · (intro w hSw; (try dsimp only at hSw); go_simp; (try with_reducible rfl))
        try simp only [Act.put, List.setIfInBounds_toArray, List.set_cons_zero, List.set_cons_succ]
        refine seq_take _ ?_ rfl (Or.inl ⟨by rfl, ?_⟩) ?_
        rotate_left
        · (intro w hSw; (try dsimp only at hSw); go_simp; (try with_reducible rfl))
        try simp only [Act.put, List.setIfInBounds_toArray, List.set_cons_zero, List.set_cons_succ]
        refine seq_take _ ?_ rfl (Or.inl ⟨by rfl, ?_⟩) ?_
        rotate_left
        · (intro w hSw; (try dsimp only at hSw); go_simp; (try with_reducible rfl))
        try simp only [Act.put, List.setIfInBounds_toArray, List.set_cons_zero, List.set_cons_succ]
        refine seq_take _ ?_ rfl (Or.inl ⟨by rfl, ?_⟩) ?_
        rotate_left
        · (intro w hSw; (try dsimp only at hSw); go_simp; (try with_reducible rfl))
        try simp only [Act.put, List.setIfInBounds_toArray, List.set_cons_zero, List.set_cons_succ]
        refine NoPanic.normal ?_
        go_wp2_with fail
        go_meet
        exact ⟨rfl, Dp4⟩
  case rest =>
  obtain ⟨rfl, DC⟩ := hcut
  go_wp2_with fail
  go_ret
  exact ⟨rfl, B1.trans (DC.mono B1.size)⟩
end Go.Proofs.YtlpoboikompjfaaGreatDoor
