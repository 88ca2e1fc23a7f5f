/- The walk of the law IntegerPowers, given what its fixed examples return. -/
import Derived.Test.YtdknibhaacbkpaaDoorVG12Sz
import Derived.Test.YtdknibhaacbkpaaDoorVG4MadeL
import Derived.Test.YtdknibhaacbkpaaDoorVLawValid
import Derived.Test.YtdknibhaacbkpaaDoorVLawPowR
import Derived.Test.YtdknibhaacbkpaaDoorVLawKit
import Derived.Deep.DeepCutAuto
import Derived.RegionTactic
import Derived.ChangeAlike
import Derived.BigRegion
namespace Go.Proofs.YtdknibhaacbkpaaDoor
open Go.RowKit
theorem frameP (w : World) (a0 a1 b0 b1 c0 c1 : Value) : Below w.heap.size w (((w.alloc (.cells #[a0, a1] 24)).alloc (.cells #[b0, b1] 24)).alloc (.cells #[c0, c1] 46)) ∧
    Slot2 (((w.alloc (.cells #[a0, a1] 24)).alloc (.cells #[b0, b1] 24)).alloc (.cells #[c0, c1] 46)) w.heap.size a0 a1 ∧
    Slot2 (((w.alloc (.cells #[a0, a1] 24)).alloc (.cells #[b0, b1] 24)).alloc (.cells #[c0, c1] 46)) (w.heap.size + 1) b0 b1 ∧
    Slot2 (((w.alloc (.cells #[a0, a1] 24)).alloc (.cells #[b0, b1] 24)).alloc (.cells #[c0, c1] 46)) (w.heap.size + 1 + 1) c0 c1 := by
  have h1 := Slot2.new (w.alloc (.cells #[a0, a1] 24)) b0 b1 24
  have h2 := Slot2.new ((w.alloc (.cells #[a0, a1] 24)).alloc (.cells #[b0, b1] 24)) c0 c1 46
  rw [World.size_alloc] at h1
  rw [World.size_alloc, World.size_alloc] at h2
  exact ⟨(((Below.refl _ _).alloc (Nat.le_refl _) _).alloc (by simp) _).alloc (by simp; omega) _, ((Slot2.new w a0 a1 _).alloc _).alloc _, h1.alloc _, h2⟩
theorem Sz.small {k : Nat} {z : Int} (h : Sz k z) (hk : k ≤ 300 := by decide) : Sz 300 z := h.mono hk (by decide)
theorem pow_x (neg : Bool) (A : Option Addr) (n c k : Nat) {z : Int} (x : Int) (w : World) (hx : x = (k : Int)) (ha : IsInt w neg A n c z) (s : Sz 300 z) (hk : k ≤ 256) :
    Calls Tryd.prog 34 #[.agg #[.bool neg, .slice A n c], .int .i64 x] w (RetIE w (z ^ k) 0) := by
  subst hx
  exact pow_any neg A n c k z w ha (by rw [← ha.lim.len]; exact Nat.le_trans s.len (by decide)) hk
theorem rpow_x (neg : Bool) (A : Option Addr) (n c k : Nat) {z : Int} (x : Int) (w : World) (hx : x = (k : Int)) (ha : IsInt w neg A n c z) (s : Sz 300 z) (hk : k ≤ 256) :
    Calls Tryd.prog 35 #[.agg #[.bool neg, .slice A n c], .int .i64 x] w (RetIE w (z ^ k) 0) := by
  subst hx
  exact rpow_any neg A n c k z w ha (by rw [← ha.lim.len]; exact s.len) hk
theorem Slot2.set0 {w : World} {g : Nat} {a0 a1 : Value} (h : Slot2 w g a0 a1) (u : Value) : Slot2 (w.setCell ⟨g, 0, none⟩ u) g u a1 := by
  obtain ⟨h0, h1, f0, f1, hl⟩ := h
  refine ⟨World.cell?_setCell_same _ _ _ h0, by rw [World.cell?_setCell_other _ _ _ _ (by simp), h1], ?_, ?_, ?_⟩
  · simp [f0]
  · simp [f1]
  · simp only [World.setCell, Array.size_modify]; exact hl
set_option maxRecDepth 1000000 in
set_option maxHeartbeats 4000000 in
theorem law_pow (HS : SanOk) (A1 A2 : Option Addr) (n1 c1 n2 c2 : Nat) (s1 s2 : Bool) (xs ys : List Nat) (u v : Int) (w : World) (ha : Lim w w.heap.size A1 n1 c1 xs) (hb : Lim w w.heap.size A2 n2 c2 ys)
    (hu : -9223372036854775808 ≤ u ∧ u ≤ 9223372036854775807) (_hv : -9223372036854775808 ≤ v ∧ v ≤ 9223372036854775807) :
    Calls Tryd.prog 8 #[.agg #[.slice A1 n1 c1, .bool s1], .agg #[.slice A2 n2 c2, .bool s2], .agg #[.int .i64 u, .int .i64 v]] w fun e w' => e = .returned (.bool true) ∧ Below w.heap.size w w' := by
  have HS' := Lib.hid HS
  clear HS
  have hc1 := ha.cap
  have hc2 := hb.cap
  obtain ⟨k1, hk1, hk12, hk1n⟩ : ∃ k : Nat, (min (n1 : Int) 2 = k ∧ (if (2 : Int) < n1 then (2 : Int) else n1) = k) ∧ k ≤ 2 ∧ k ≤ n1 := by
    rcases Nat.lt_or_ge 2 n1 with h | h
    · exact ⟨2, ⟨by omega, by rw [if_pos (by omega)]; rfl⟩, by omega, by omega⟩
    · exact ⟨n1, ⟨by omega, by rw [if_neg (by omega)]⟩, h, by omega⟩
  obtain ⟨k2, hk2, hk22, hk2n⟩ : ∃ k : Nat, (min (n2 : Int) 1 = k ∧ (if (1 : Int) < n2 then (1 : Int) else n2) = k) ∧ k ≤ 1 ∧ k ≤ n2 := by
    rcases Nat.lt_or_ge 1 n2 with h | h
    · exact ⟨1, ⟨by omega, by rw [if_pos (by omega)]; rfl⟩, by omega, by omega⟩
    · exact ⟨n2, ⟨by omega, by rw [if_neg (by omega)]⟩, h, by omega⟩
  obtain ⟨B0, X0, Y0, Z0⟩ := frameP w (.slice A1 n1 c1) (.bool s1) (.slice A2 n2 c2) (.bool s2) (.int .i64 u) (.int .i64 v)
  have M1 := fun W (hW : Below w.heap.size w W) => made_any s1 A1 k1 c1 w.heap.size (xs.take k1) W ((ha.take k1 hk1n).below hW) hW.size
  have M2 := fun W (hW : Below w.heap.size w W) => made_any s2 A2 k2 c2 w.heap.size (ys.take k2) W ((hb.take k2 hk2n).below hW) hW.size
  have Za : Sz 2 (zOf s1 (val ((xs.take k1).take 12))) := by
    refine Sz.of ?_ (by decide)
    rw [zOf_natAbs]
    have h1 := val_lt (limbs_take (limbs_take ha.lt k1) 12)
    refine Nat.lt_of_lt_of_le h1 (Nat.pow_le_pow_right (by decide) ?_)
    rw [List.length_take, List.length_take]; omega
  have Zb : Sz 1 (zOf s2 (val ((ys.take k2).take 12))) := by
    refine Sz.of ?_ (by decide)
    rw [zOf_natAbs]
    have h1 := val_lt (limbs_take (limbs_take hb.lt k2) 12)
    refine Nat.lt_of_lt_of_le h1 (Nat.pow_le_pow_right (by decide) ?_)
    rw [List.length_take, List.length_take]; omega
  generalize zOf s1 (val ((xs.take k1).take 12)) = a at M1 Za
  generalize zOf s2 (val ((ys.take k2).take 12)) = b at M2 Zb
  have HM1 := Lib.hid M1
  have HM2 := Lib.hid M2
  clear M1 M2 ha hb
  have HK1 := Lib.hid hk1
  have HK2 := Lib.hid hk2
  clear hk1 hk2
  go_enter Tryd.func8, Tryd.ntmps8
  go_wp2_with fail
  refine (HS'.out _).mono ?_
  rintro e w1 ⟨rfl, hb1⟩
  have B1 := B0.trans (hb1.mono B0.size)
  have X1 := X0.after hb1
  have Y1 := Y0.after hb1
  have Z1 := Z0.after hb1
  clear X0 Y0 Z0 B0 hb1
  go_wp2_with fail
  obtain ⟨e1, e2⟩ := HK1.out
  obtain ⟨e3, e4⟩ := HK2.out
  have ⟨x0, x1, x2, x3, _⟩ := X1
  have ⟨y0, y1, y2, y3, _⟩ := Y1
  have i1 : (k1 : Int) ≤ c1 := by omega
  have i2 : (k2 : Int) ≤ c2 := by omega
  have i3 : (0 : Int) ≤ k1 := by omega
  have i4 : (0 : Int) ≤ k2 := by omega
  go_region
  clear x0 x1 x2 x3 y0 y1 y2 y3 e1 e2 e3 e4 i1 i2 i3 i4
  have X2 := Slot2.drew ((Slot2.set0 X1 (.slice A1 k1 c1)).far (g' := w.heap.size + 1) (i := 0) (by omega) (.slice A2 k2 c2))
  have Y2 := Slot2.drew (Slot2.set0 (Slot2.far Y1 (g' := w.heap.size) (i := 0) (by omega) (.slice A1 k1 c1)) (.slice A2 k2 c2))
  have Z2 := Slot2.drew ((Slot2.far Z1 (g' := w.heap.size) (i := 0) (by omega) (.slice A1 k1 c1)).far (g' := w.heap.size + 1) (i := 0) (by omega) (.slice A2 k2 c2))
  have B2 := ((B1.setCell (p := ⟨w.heap.size, 0, none⟩) (Nat.le_refl _) (.slice A1 k1 c1)).setCell (p := ⟨w.heap.size + 1, 0, none⟩) (Nat.le_succ _) (.slice A2 k2 c2)).drew
  clear X1 Y1 Z1 B1
  go_wp2_with fail
  generalize ((w1.setCell ⟨w.heap.size, 0, none⟩ (.slice A1 k1 c1)).setCell ⟨w.heap.size + 1, 0, none⟩ (.slice A2 k2 c2)).drew = W2 at *
  go_cut [8, 9] (fun p8 p9 wx => ∃ g8 g9 : Nat, p8 = .pointer (some ⟨g8, 0, none⟩) ∧ p9 = .pointer (some ⟨g9, 0, none⟩) ∧ Bag wx [(g8, a), (g9, b)] ∧ Below W2.heap.size W2 wx)
  case first =>
    as_aux_lemma =>
      have HX : Hid (∀ W, Below W2.heap.size W2 W → (Slot2 W w.heap.size (.slice A1 k1 c1) (.bool s1) ∧ Slot2 W (w.heap.size + 1) (.slice A2 k2 c2) (.bool s2))) := fun W hW => ⟨X2.after hW, Y2.after hW⟩
      clear X2 Y2 Z2
      refine wp_region_ev (fun d a0 a' w' => ∃ u44 u45 u46 u47 u8 u9 : Value, a' = ((((((a0.put (some 44) u44).put (some 45) u45).put (some 46) u46).put (some 47) u47).put (some 8) u8).put (some 9) u9) ∧ Below W2.heap.size W2 w' ∧ (d 0 = true → u44 = .agg #[.slice A1 k1 c1, .bool s1]) ∧ (d 1 = true → IntV w' u45 a) ∧ (d 2 = true → u46 = .agg #[.slice A2 k2 c2, .bool s2]) ∧ (d 3 = true → IntV w' u47 b) ∧ (d 4 = true → OwnP W2.heap.size w' u8 (d 6) a) ∧ (d 5 = true → OwnP W2.heap.size w' u9 (d 7) b) ∧ (d 4 = true → d 5 = true → u8 ≠ u9) ∧ (d 6 = true → d 4 = true) ∧ (d 7 = true → d 5 = true)) (by kernel_rfl) (by kernel_rfl) ?_ ?_ ?_ ?_
      · intro d d' h a' w' hh
        obtain rfl : d = d' := funext h
        exact hh
      · exact ⟨undef, undef, undef, undef, undef, undef, (by simp only [Act.put, List.setIfInBounds_toArray, List.set_cons_zero, List.set_cons_succ]), (Below.refl _ _).drew, (fun h => by cases h), (fun h => by cases h), (fun h => by cases h), (fun h => by cases h), (fun h => by cases h), (fun h => by cases h), (fun h => by cases h), (fun h => by cases h), (fun h => by cases h)⟩
      · refine ⟨?_, ?_, ?_, ?_, ?_, ?_, ?_, ?_, trivial⟩
        · intro d a2 w2 hd hm ⟨u44, u45, u46, u47, u8, u9, e, HB, f0, f1, f2, f3, f4, f5, n01, t0, t1⟩ K hK
          subst e
          simp only [Act.put, List.setIfInBounds_toArray, List.set_cons_zero, List.set_cons_succ]
          obtain ⟨⟨q0, q1, _, _, _⟩, ⟨q2, q3, _, _, _⟩⟩ := HX.out w2 HB
          go_simp
          exact hK.out _ _ ⟨.agg #[.slice A1 k1 c1, .bool s1], u45, u46, u47, u8, u9, (by simp only [Act.put, List.setIfInBounds_toArray, List.set_cons_zero, List.set_cons_succ]), HB, (fun _ => rfl), (fun h => (f1 (by simpa using h))), (fun h => f2 (by simpa using h)), (fun h => (f3 (by simpa using h))), (fun h => by simpa using (f4 (by simpa using h))), (fun h => by simpa using (f5 (by simpa using h))), (fun h h' => n01 (by simpa using h) (by simpa using h')), (fun h => by simpa using t0 (by simpa using h)), (fun h => by simpa using t1 (by simpa using h))⟩
        · intro d a2 w2 hd hm ⟨u44, u45, u46, u47, u8, u9, e, HB, f0, f1, f2, f3, f4, f5, n01, t0, t1⟩ K hK
          subst e
          simp only [Act.put, List.setIfInBounds_toArray, List.set_cons_zero, List.set_cons_succ]
          obtain rfl := f0 (hm ⟨0, .data⟩ (by simp) rfl)
          clear f0
          go_simp
          refine (HM1.out _ (B2.trans (Below.mono HB B2.size))).mono ?_
          rintro e w3 ⟨gg, AA, nn, cc, rfl, hi, hb⟩
          have HB3 := HB.trans (hb.mono HB.size)
          go_wp2_with fail
          exact hK.out _ _ ⟨.agg #[.slice A1 k1 c1, .bool s1], .agg #[.bool gg, .slice AA nn cc], u46, u47, u8, u9, (by simp only [Act.put, List.setIfInBounds_toArray, List.set_cons_zero, List.set_cons_succ]), HB3, (fun _ => rfl), (fun _ => ⟨_, _, _, _, rfl, hi⟩), (fun h => f2 (by simpa using h)), (fun h => (f3 (by simpa using h)).below hb), (fun h => by simpa using (f4 (by simpa using h)).below hb), (fun h => by simpa using (f5 (by simpa using h)).below hb), (fun h h' => n01 (by simpa using h) (by simpa using h')), (fun h => by simpa using t0 (by simpa using h)), (fun h => by simpa using t1 (by simpa using h))⟩
        · intro d a2 w2 hd hm ⟨u44, u45, u46, u47, u8, u9, e, HB, f0, f1, f2, f3, f4, f5, n01, t0, t1⟩ K hK
          subst e
          simp only [Act.put, List.setIfInBounds_toArray, List.set_cons_zero, List.set_cons_succ]
          obtain ⟨⟨q0, q1, _, _, _⟩, ⟨q2, q3, _, _, _⟩⟩ := HX.out w2 HB
          go_simp
          exact hK.out _ _ ⟨u44, u45, .agg #[.slice A2 k2 c2, .bool s2], u47, u8, u9, (by simp only [Act.put, List.setIfInBounds_toArray, List.set_cons_zero, List.set_cons_succ]), HB, (fun h => f0 (by simpa using h)), (fun h => (f1 (by simpa using h))), (fun _ => rfl), (fun h => (f3 (by simpa using h))), (fun h => by simpa using (f4 (by simpa using h))), (fun h => by simpa using (f5 (by simpa using h))), (fun h h' => n01 (by simpa using h) (by simpa using h')), (fun h => by simpa using t0 (by simpa using h)), (fun h => by simpa using t1 (by simpa using h))⟩
        · intro d a2 w2 hd hm ⟨u44, u45, u46, u47, u8, u9, e, HB, f0, f1, f2, f3, f4, f5, n01, t0, t1⟩ K hK
          subst e
          simp only [Act.put, List.setIfInBounds_toArray, List.set_cons_zero, List.set_cons_succ]
          obtain rfl := f2 (hm ⟨2, .data⟩ (by simp) rfl)
          clear f2
          go_simp
          refine (HM2.out _ (B2.trans (Below.mono HB B2.size))).mono ?_
          rintro e w3 ⟨gg, AA, nn, cc, rfl, hi, hb⟩
          have HB3 := HB.trans (hb.mono HB.size)
          go_wp2_with fail
          exact hK.out _ _ ⟨u44, u45, .agg #[.slice A2 k2 c2, .bool s2], .agg #[.bool gg, .slice AA nn cc], u8, u9, (by simp only [Act.put, List.setIfInBounds_toArray, List.set_cons_zero, List.set_cons_succ]), HB3, (fun h => f0 (by simpa using h)), (fun h => (f1 (by simpa using h)).below hb), (fun _ => rfl), (fun _ => ⟨_, _, _, _, rfl, hi⟩), (fun h => by simpa using (f4 (by simpa using h)).below hb), (fun h => by simpa using (f5 (by simpa using h)).below hb), (fun h h' => n01 (by simpa using h) (by simpa using h')), (fun h => by simpa using t0 (by simpa using h)), (fun h => by simpa using t1 (by simpa using h))⟩
        · intro d a2 w2 hd hm ⟨u44, u45, u46, u47, u8, u9, e, HB, f0, f1, f2, f3, f4, f5, n01, t0, t1⟩ K hK
          subst e
          simp only [Act.put, List.setIfInBounds_toArray, List.set_cons_zero, List.set_cons_succ]
          have hb : Below w2.heap.size w2 (w2.alloc (.cells #[.bool false, .slice none 0 0] 28)) := (Below.refl _ _).alloc (Nat.le_refl _) _
          have HB3 := HB.trans (hb.mono HB.size)
          go_simp
          exact hK.out _ _ ⟨u44, u45, u46, u47, .pointer (some ⟨w2.heap.size, 0, none⟩), u9, (by simp only [Act.put, List.setIfInBounds_toArray, List.set_cons_zero, List.set_cons_succ]), HB3, (fun h => f0 (by simpa using h)), (fun h => (f1 (by simpa using h)).below hb), (fun h => f2 (by simpa using h)), (fun h => (f3 (by simpa using h)).below hb), (fun _ => by have hs : d 6 = false := (by cases hq : d 6 with | false => rfl | true => (have hz := t0 hq; rw [hd] at hz; cases hz)); simpa [hs] using OwnP.new HB.size a), (fun h => by simpa using (f5 (by simpa using h)).below hb), (fun _ h' => ((f5 (by simpa using h')).lt).symm), (fun _ => by simp), (fun h => by simpa using t1 (by simpa using h))⟩
        · intro d a2 w2 hd hm ⟨u44, u45, u46, u47, u8, u9, e, HB, f0, f1, f2, f3, f4, f5, n01, t0, t1⟩ K hK
          subst e
          simp only [Act.put, List.setIfInBounds_toArray, List.set_cons_zero, List.set_cons_succ]
          have hb : Below w2.heap.size w2 (w2.alloc (.cells #[.bool false, .slice none 0 0] 28)) := (Below.refl _ _).alloc (Nat.le_refl _) _
          have HB3 := HB.trans (hb.mono HB.size)
          go_simp
          exact hK.out _ _ ⟨u44, u45, u46, u47, u8, .pointer (some ⟨w2.heap.size, 0, none⟩), (by simp only [Act.put, List.setIfInBounds_toArray, List.set_cons_zero, List.set_cons_succ]), HB3, (fun h => f0 (by simpa using h)), (fun h => (f1 (by simpa using h)).below hb), (fun h => f2 (by simpa using h)), (fun h => (f3 (by simpa using h)).below hb), (fun h => by simpa using (f4 (by simpa using h)).below hb), (fun _ => by have hs : d 7 = false := (by cases hq : d 7 with | false => rfl | true => (have hz := t1 hq; rw [hd] at hz; cases hz)); simpa [hs] using OwnP.new HB.size b), (fun h _ => (f4 (by simpa using h)).lt), (fun h => by simpa using t0 (by simpa using h)), (fun _ => by simp)⟩
        · intro d a2 w2 hd hm ⟨u44, u45, u46, u47, u8, u9, e, HB, f0, f1, f2, f3, f4, f5, n01, t0, t1⟩ K hK
          subst e
          simp only [Act.put, List.setIfInBounds_toArray, List.set_cons_zero, List.set_cons_succ]
          obtain ⟨gg, AA, nn, cc, rfl, hi⟩ := f1 (hm ⟨1, .data⟩ (by simp) rfl)
          obtain ⟨g, rfl, hg, b0, b1, hs, n0, n1, _⟩ := f4 (hm ⟨4, .data⟩ (by simp) rfl)
          obtain ⟨k0, k1, k2, k3, k4⟩ := id hs
          go_simp
          exact hK.out _ _ ⟨u44, .agg #[.bool gg, .slice AA nn cc], u46, u47, .pointer (some ⟨g, 0, none⟩), u9, (by simp only [Act.put, List.setIfInBounds_toArray, List.set_cons_zero, List.set_cons_succ]), Below.set2 HB hg _ _, (fun h => f0 (by simpa using h)), (fun h => (f1 (by simpa using h)).set2 hs n0 n1 _ _), (fun h => f2 (by simpa using h)), (fun h => (f3 (by simpa using h)).set2 hs n0 n1 _ _), (fun _ => by simpa using OwnP.near hi hg hs n0 n1), (fun h => by simpa using (f5 (by simpa using h)).far ((n01 (hm ⟨4, .data⟩ (by simp) rfl) (by simpa using h)).symm) hs n0 n1 _ _), (fun h h' => n01 (by simpa using h) (by simpa using h')), (fun _ => by simpa using hm ⟨4, .data⟩ (by simp) rfl), (fun h => by simpa using t1 (by simpa using h))⟩
        · intro d a2 w2 hd hm ⟨u44, u45, u46, u47, u8, u9, e, HB, f0, f1, f2, f3, f4, f5, n01, t0, t1⟩ K hK
          subst e
          simp only [Act.put, List.setIfInBounds_toArray, List.set_cons_zero, List.set_cons_succ]
          obtain ⟨gg, AA, nn, cc, rfl, hi⟩ := f3 (hm ⟨3, .data⟩ (by simp) rfl)
          obtain ⟨g, rfl, hg, b0, b1, hs, n0, n1, _⟩ := f5 (hm ⟨5, .data⟩ (by simp) rfl)
          obtain ⟨k0, k1, k2, k3, k4⟩ := id hs
          go_simp
          exact hK.out _ _ ⟨u44, u45, u46, .agg #[.bool gg, .slice AA nn cc], u8, .pointer (some ⟨g, 0, none⟩), (by simp only [Act.put, List.setIfInBounds_toArray, List.set_cons_zero, List.set_cons_succ]), Below.set2 HB hg _ _, (fun h => f0 (by simpa using h)), (fun h => (f1 (by simpa using h)).set2 hs n0 n1 _ _), (fun h => f2 (by simpa using h)), (fun h => (f3 (by simpa using h)).set2 hs n0 n1 _ _), (fun h => by simpa using (f4 (by simpa using h)).far (n01 (by simpa using h) (hm ⟨5, .data⟩ (by simp) rfl)) hs n0 n1 _ _), (fun _ => by simpa using OwnP.near hi hg hs n0 n1), (fun h h' => n01 (by simpa using h) (by simpa using h')), (fun h => by simpa using t0 (by simpa using h)), (fun _ => by simpa using hm ⟨5, .data⟩ (by simp) rfl)⟩
      · intro d a2 w2 hall ⟨u44, u45, u46, u47, u8, u9, e, HB, f0, f1, f2, f3, f4, f5, n01, t0, t1⟩
        subst e
        simp only [Act.put, List.setIfInBounds_toArray, List.set_cons_zero, List.set_cons_succ]
        obtain ⟨g0, rfl, h0⟩ := OwnP.intAt (by have := f4 (hall _ (by decide)); rwa [hall 6 (by decide)] at this)
        obtain ⟨g1, rfl, h1⟩ := OwnP.intAt (by have := f5 (hall _ (by decide)); rwa [hall 7 (by decide)] at this)
        go_wp2_with fail
        go_meet
        exact ⟨g0, g1, rfl, rfl, Bag.cons h0 (Bag.cons h1 (bag_nil _)), HB⟩
  case rest =>
  obtain ⟨ba, bb, rfl, rfl, BG3, DC⟩ := hcut
  have B3 := B2.trans (DC.mono B2.size)
  have Z3 := Z2.after DC
  clear X2 Y2 Z2 B2 DC
  obtain ⟨W3, rfl⟩ : ∃ x : World, x = wc := ⟨_, rfl⟩
  have ⟨xz, yz, _, _, _⟩ := Z3
  rcases (show (u < 0 ∨ 256 < u) ∨ (0 ≤ u ∧ u ≤ 256) by omega) with hbad | ⟨hu0, hu1⟩
  · as_aux_lemma =>
      rcases hbad with hbad | hbad
      · skip
        obtain ⟨gp, Ap, np, cp, Sp, Ip⟩ := BG3 (ba, a) (by simp)
        have ⟨xp, yp, _, _, _⟩ := Sp
        go_wp2_with fail
        refine (pow_bad gp Ap np cp u _ (by omega)).mono ?_
        rintro e w41 ⟨gr1, Ar1, nr1, cr1, rfl, ir1, hb1⟩
        have BG4 := (BG3.after hb1).new ir1
        have B4 := (B3.trans (hb1.mono B3.size)).alloc (Nat.le_trans B3.size hb1.size) (.cells #[.bool gr1, .slice Ar1 nr1 cr1] 28)
        have Z4 := (Z3.after hb1).alloc (.cells #[.bool gr1, .slice Ar1 nr1 cr1] 28)
        clear xp yp Sp Ip xz yz BG3 B3 Z3
        have ⟨xz, yz, _, _, _⟩ := Z4
        go_wp2_with fail
        generalize w41.heap.size = bq at *
        generalize hW : w41.alloc (.cells #[.bool gr1, .slice Ar1 nr1 cr1] 28) = W4 at *
        clear hW
        go_wp2
        go_ret
        exact ⟨rfl, B4⟩
      · have h0 : ¬ u < 0 := by omega
        obtain ⟨gp, Ap, np, cp, Sp, Ip⟩ := BG3 (ba, a) (by simp)
        have ⟨xp, yp, _, _, _⟩ := Sp
        go_wp2_with fail
        refine (pow_bad gp Ap np cp u _ (by omega)).mono ?_
        rintro e w41 ⟨gr1, Ar1, nr1, cr1, rfl, ir1, hb1⟩
        have BG4 := (BG3.after hb1).new ir1
        have B4 := (B3.trans (hb1.mono B3.size)).alloc (Nat.le_trans B3.size hb1.size) (.cells #[.bool gr1, .slice Ar1 nr1 cr1] 28)
        have Z4 := (Z3.after hb1).alloc (.cells #[.bool gr1, .slice Ar1 nr1 cr1] 28)
        clear xp yp Sp Ip xz yz BG3 B3 Z3
        have ⟨xz, yz, _, _, _⟩ := Z4
        go_wp2_with fail
        generalize w41.heap.size = bq at *
        generalize hW : w41.alloc (.cells #[.bool gr1, .slice Ar1 nr1 cr1] 28) = W4 at *
        clear hW
        go_wp2
        go_ret
        exact ⟨rfl, B4⟩
  · skip
    obtain ⟨k, rfl⟩ := Int.eq_ofNat_of_zero_le hu0
    have hk : k ≤ 256 := by omega
    clear hu0 hu1
    have h0 : ¬ (k : Int) < 0 := by omega
    have h1 : ¬ (256 : Int) < (k : Int) := by omega
    obtain ⟨gp, Ap, np, cp, Sp, Ip⟩ := BG3 (ba, a) (by simp)
    have ⟨xp, yp, _, _, _⟩ := Sp
    go_wp2_with fail
    refine (pow_x gp Ap np cp k (k : Int) _ rfl Ip Za.small hk).mono ?_
    rintro e w41 ⟨gr1, Ar1, nr1, cr1, rfl, ir1, hb1⟩
    have BG4 := (BG3.after hb1).new ir1
    have B4 := (B3.trans (hb1.mono B3.size)).alloc (Nat.le_trans B3.size hb1.size) (.cells #[.bool gr1, .slice Ar1 nr1 cr1] 28)
    have Z4 := (Z3.after hb1).alloc (.cells #[.bool gr1, .slice Ar1 nr1 cr1] 28)
    clear xp yp Sp Ip xz yz BG3 B3 Z3
    have ⟨xz, yz, _, _, _⟩ := Z4
    go_wp2_with fail
    generalize w41.heap.size = bk at *
    generalize hW : w41.alloc (.cells #[.bool gr1, .slice Ar1 nr1 cr1] 28) = W4 at *
    clear hW
    obtain ⟨m, hm⟩ : ∃ m, m = k % 20 := ⟨_, rfl⟩
    obtain ⟨n, hn⟩ : ∃ n : Nat, (n : Int) = v % 18446744073709551616 % 20 := ⟨(v % 18446744073709551616 % 20).toNat, by omega⟩
    have hml : m < 20 := by omega
    have hnl : n < 20 := by omega
    have r1 : (k : Int) % 20 = (m : Int) := by omega
    have r2 : v % 18446744073709551616 % 20 = (n : Int) := hn.symm
    have r3 : (k : Int).tmod 20 = (m : Int) := by rw [Int.tmod_eq_emod_of_nonneg (by omega)]; exact r1
    have w1' : IntKind.u64.wrap v % 20 = (n : Int) := by rw [IntKind.wrap_u64]; exact r2
    have w2' : (IntKind.u64.wrap v).tmod 20 = (n : Int) := by rw [Int.tmod_eq_emod_of_nonneg (by rw [IntKind.wrap_u64]; omega)]; exact w1'
    have w3' : IntKind.i64.wrap (n : Int) = (n : Int) := by rw [IntKind.wrap_i64]; omega
    have w4' : IntKind.u64.wrap (n : Int) = (n : Int) := by rw [IntKind.wrap_u64]; omega
    clear hm hn r2
    go_quiet (fail)
    clear xz yz r1 r3 w1' w2' w3' w4' h0 h1
    have DQ : Below W4.heap.size W4 (W4.drewN nq) := Below.drewN' (Below.refl _ _) nq
    have BG5 := BG4.after DQ
    have B5 := B4.trans (DQ.mono B4.size)
    have Z5 := Z4.after DQ
    clear DQ BG4 B4 Z4
    have ⟨xz, yz, _, _, _⟩ := Z5
    generalize W4.drewN nq = W5 at *
    as_aux_lemma =>
      obtain ⟨gp, Ap, np, cp, Sp, Ip⟩ := BG5 (ba, a) (by simp)
      have ⟨xp, yp, _, _, _⟩ := Sp
      go_wp2_with fail
      refine (pow_x gp Ap np cp m (m : Int) _ rfl Ip Za.small (by omega)).mono ?_
      rintro e w61 ⟨gr1, Ar1, nr1, cr1, rfl, ir1, hb1⟩
      have BG6 := (BG5.after hb1).new ir1
      have B6 := (B5.trans (hb1.mono B5.size)).alloc (Nat.le_trans B5.size hb1.size) (.cells #[.bool gr1, .slice Ar1 nr1 cr1] 28)
      have Z6 := (Z5.after hb1).alloc (.cells #[.bool gr1, .slice Ar1 nr1 cr1] 28)
      clear xp yp Sp Ip xz yz BG5 B5 Z5
      have ⟨xz, yz, _, _, _⟩ := Z6
      obtain ⟨gp, Ap, np, cp, Sp, Ip⟩ := BG6 (ba, a) (by simp)
      have ⟨xp, yp, _, _, _⟩ := Sp
      go_wp2_with fail
      generalize w61.heap.size = b14 at *
      generalize hW : w61.alloc (.cells #[.bool gr1, .slice Ar1 nr1 cr1] 28) = W6 at *
      clear hW
      go_wp2_with fail
      refine (pow_x gp Ap np cp n (n : Int) _ rfl Ip Za.small (by omega)).mono ?_
      rintro e w71 ⟨gr1, Ar1, nr1, cr1, rfl, ir1, hb1⟩
      have BG7 := (BG6.after hb1).new ir1
      have B7 := (B6.trans (hb1.mono B6.size)).alloc (Nat.le_trans B6.size hb1.size) (.cells #[.bool gr1, .slice Ar1 nr1 cr1] 28)
      have Z7 := (Z6.after hb1).alloc (.cells #[.bool gr1, .slice Ar1 nr1 cr1] 28)
      clear xp yp Sp Ip xz yz BG6 B6 Z6
      have ⟨xz, yz, _, _, _⟩ := Z7
      obtain ⟨gp, Ap, np, cp, Sp, Ip⟩ := BG7 (ba, a) (by simp)
      have ⟨xp, yp, _, _, _⟩ := Sp
      go_wp2_with fail
      generalize w71.heap.size = b16 at *
      generalize hW : w71.alloc (.cells #[.bool gr1, .slice Ar1 nr1 cr1] 28) = W7 at *
      clear hW
      go_wp2_with fail
      refine (pow_x gp Ap np cp (m + n) ((m : Int) + n) _ (by omega) Ip Za.small (by omega)).mono ?_
      rintro e w81 ⟨gr1, Ar1, nr1, cr1, rfl, ir1, hb1⟩
      have BG8 := (BG7.after hb1).new ir1
      have B8 := (B7.trans (hb1.mono B7.size)).alloc (Nat.le_trans B7.size hb1.size) (.cells #[.bool gr1, .slice Ar1 nr1 cr1] 28)
      have Z8 := (Z7.after hb1).alloc (.cells #[.bool gr1, .slice Ar1 nr1 cr1] 28)
      clear xp yp Sp Ip xz yz BG7 B7 Z7
      have ⟨xz, yz, _, _, _⟩ := Z8
      obtain ⟨gp, Ap, np, cp, Sp, Ip⟩ := BG8 (bb, b) (by simp)
      have ⟨xp, yp, _, _, _⟩ := Sp
      go_wp2_with fail
      generalize w81.heap.size = b18 at *
      generalize hW : w81.alloc (.cells #[.bool gr1, .slice Ar1 nr1 cr1] 28) = W8 at *
      clear hW
      go_wp2_with fail
      refine (pow_x gp Ap np cp m (m : Int) _ rfl Ip Zb.small (by omega)).mono ?_
      rintro e w91 ⟨gr1, Ar1, nr1, cr1, rfl, ir1, hb1⟩
      have BG9 := (BG8.after hb1).new ir1
      have B9 := (B8.trans (hb1.mono B8.size)).alloc (Nat.le_trans B8.size hb1.size) (.cells #[.bool gr1, .slice Ar1 nr1 cr1] 28)
      have Z9 := (Z8.after hb1).alloc (.cells #[.bool gr1, .slice Ar1 nr1 cr1] 28)
      clear xp yp Sp Ip xz yz BG8 B8 Z8
      have ⟨xz, yz, _, _, _⟩ := Z9
      obtain ⟨gp, Ap, np, cp, Sp, Ip⟩ := BG9 (ba, a) (by simp)
      have ⟨xp, yp, _, _, _⟩ := Sp
      obtain ⟨gq, Aq, nq, cq, Sq, Iq⟩ := BG9 (bb, b) (by simp)
      have ⟨xq, yq, _, _, _⟩ := Sq
      go_wp2_with fail
      generalize w91.heap.size = b20 at *
      generalize hW : w91.alloc (.cells #[.bool gr1, .slice Ar1 nr1 cr1] 28) = W9 at *
      clear hW
      go_wp2_with fail
      refine (rmul_z gp gq Ap Aq np cp nq cq _ Ip Iq Za Zb).mono ?_
      rintro e w101 ⟨gr1, Ar1, nr1, cr1, rfl, ir1, hb1⟩
      go_wp2_with fail
      refine (pow_x gr1 Ar1 nr1 cr1 m (m : Int) _ rfl ir1 (Sz.mul Za Zb (by decide)).small (by omega)).mono ?_
      rintro e w102 ⟨gr2, Ar2, nr2, cr2, rfl, ir2, hb2⟩
      have hbb := hb1.trans (hb2.mono hb1.size)
      have BG10 := (BG9.after hbb).new ir2
      have B10 := (B9.trans (hbb.mono B9.size)).alloc (Nat.le_trans B9.size hbb.size) (.cells #[.bool gr2, .slice Ar2 nr2 cr2] 28)
      have Z10 := (Z9.after hbb).alloc (.cells #[.bool gr2, .slice Ar2 nr2 cr2] 28)
      clear xp yp Sp Ip xq yq Sq Iq xz yz BG9 B9 Z9
      have ⟨xz, yz, _, _, _⟩ := Z10
      obtain ⟨gp, Ap, np, cp, Sp, Ip⟩ := BG10 (ba, a) (by simp)
      have ⟨xp, yp, _, _, _⟩ := Sp
      go_wp2_with fail
      generalize w102.heap.size = b22 at *
      generalize hW : w102.alloc (.cells #[.bool gr2, .slice Ar2 nr2 cr2] 28) = W10 at *
      clear hW
      go_wp2_with fail
      refine (rpow_x gp Ap np cp m (m : Int) _ rfl Ip Za.small (by omega)).mono ?_
      rintro e w111 ⟨gr1, Ar1, nr1, cr1, rfl, ir1, hb1⟩
      have BG11 := (BG10.after hb1).new ir1
      have B11 := (B10.trans (hb1.mono B10.size)).alloc (Nat.le_trans B10.size hb1.size) (.cells #[.bool gr1, .slice Ar1 nr1 cr1] 28)
      have Z11 := (Z10.after hb1).alloc (.cells #[.bool gr1, .slice Ar1 nr1 cr1] 28)
      clear xp yp Sp Ip xz yz BG10 B10 Z10
      have ⟨xz, yz, _, _, _⟩ := Z11
      go_wp2_with fail
      generalize w111.heap.size = b24 at *
      generalize hW : w111.alloc (.cells #[.bool gr1, .slice Ar1 nr1 cr1] 28) = W11 at *
      clear hW
      obtain ⟨WL, rfl⟩ : ∃ x : World, x = W11 := ⟨_, rfl⟩
      go_cut [6] (fun p6 wx => p6 = .bool true ∧ Below WL.heap.size WL wx)
      case first =>
        refine pow_r15 (BG11 (b14, a ^ m) (by simp)) (BG11 (b24, a ^ m) (by simp)) (BG11 (b16, a ^ n) (by simp)) (BG11 (b18, a ^ (m + n)) (by simp)) (BG11 (b20, b ^ m) (by simp)) (BG11 (b22, (a * b) ^ m) (by simp)) (Za.pow (by omega)) (Za.pow (by omega)) (Zb.pow (by omega)) (Lib.hid rfl) (Lib.hid (Int.pow_add a m n).symm) (Lib.hid Int.mul_pow.symm) ?_
        intros
        go_wp2_with fail
        go_meet
        exact ⟨rfl, by assumption⟩
      case rest =>
      obtain ⟨rfl, D9⟩ := hcut
      have B9 := B11.trans (D9.mono B11.size)
      go_wp2_with fail
      go_ret
      exact ⟨rfl, B9⟩
end Go.Proofs.YtdknibhaacbkpaaDoor
