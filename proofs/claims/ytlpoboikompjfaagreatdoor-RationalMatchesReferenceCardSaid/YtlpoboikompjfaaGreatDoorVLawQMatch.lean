/- The walk of the law RationalMatchesReference, given what its fixed examples return. -/
import Derived.Test.YtlpoboikompjfaaGreatDoorVG28RatT
import Derived.Test.YtlpoboikompjfaaGreatDoorVRefFrom
import Derived.Test.YtlpoboikompjfaaGreatDoorVRaw3
import Derived.Test.YtlpoboikompjfaaGreatDoorVRefQ3
import Derived.Deep.DeepCutAuto
namespace Go.Proofs.YtlpoboikompjfaaGreatDoor
open Go.RowKit
/-- What a division leaves: the zero value and its code, or the fraction. -/
def ZQ (w : World) (g : Nat) (e : Int) (b q : Rat) : Prop := (b = 0 ∧ e = 3 ∧ Slot4 w g (.bool false) (.slice none 0 0) (.bool false) (.slice none 0 0)) ∨ (b ≠ 0 ∧ e = 0 ∧ RatAt w g q)
theorem ZQ.after {w w' : World} {g : Nat} {e : Int} {b q : Rat} (h : ZQ w g e b q) (hb : Below w.heap.size w w') : ZQ w' g e b q := by
  rcases h with ⟨h1, h2, h3⟩ | ⟨h1, h2, h3⟩
  · exact .inl ⟨h1, h2, h3.after hb⟩
  · exact .inr ⟨h1, h2, h3.after hb⟩
theorem ZQ.zero {w : World} {g : Nat} {e : Int} {b q : Rat} (h : ZQ w g e b q) (hb : b = 0) : e = 3 ∧ Slot4 w g (.bool false) (.slice none 0 0) (.bool false) (.slice none 0 0) := by
  rcases h with ⟨_, h2, h3⟩ | ⟨h1, _, _⟩
  · exact ⟨h2, h3⟩
  · exact absurd hb h1
theorem ZQ.more {w : World} {g : Nat} {e : Int} {b q : Rat} (h : ZQ w g e b q) (hb : b ≠ 0) : e = 0 ∧ RatAt w g q := by
  rcases h with ⟨h1, _, _⟩ | ⟨_, h2, h3⟩
  · exact absurd h1 hb
  · exact ⟨h2, h3⟩

set_option maxRecDepth 1000000 in
set_option maxHeartbeats 8000000 in
theorem qmatch_walk (HS : SanQ) (A1 E1 : Option Addr) (n1 c1 m1 d1 : Nat) (s1 : Bool) (xs1 ys1 : List Nat) (A2 E2 : Option Addr) (n2 c2 m2 d2 : Nat) (s2 : Bool) (xs2 ys2 : List Nat) (gn_r : Bool) (An_r : Option Addr) (nn_r cn_r : Nat) (gd_r : Bool) (Ad_r : Option Addr) (nd_r cd_r : Nat) (xr yr : List Nat) (w : World) (hx1 : Lim w w.heap.size A1 n1 c1 xs1) (hy1 : Lim w w.heap.size E1 m1 d1 ys1) (hx2 : Lim w w.heap.size A2 n2 c2 xs2) (hy2 : Lim w w.heap.size E2 m2 d2 ys2) (hxr : Lim w w.heap.size An_r nn_r cn_r xr) (hyr : Lim w w.heap.size Ad_r nd_r cd_r yr) :
    Calls Tryz.prog 3 #[.agg #[.slice A1 n1 c1, .slice E1 m1 d1, .bool s1], .agg #[.slice A2 n2 c2, .slice E2 m2 d2, .bool s2], .agg #[.bool gn_r, .slice An_r nn_r cn_r, .bool gd_r, .slice Ad_r nd_r cd_r]] w fun e w' => e = .returned (.bool true) ∧ Below w.heap.size w w' := by
  have HS' := Lib.hid HS
  have LR : Hid (∀ V, Below w.heap.size w V → Lim V V.heap.size An_r nn_r cn_r xr ∧ Lim V V.heap.size Ad_r nd_r cd_r yr) := fun V hV => ⟨(hxr.below hV).more hV.size, (hyr.below hV).more hV.size⟩
  clear hxr hyr
  clear HS
  have HM1 : Hid (∀ W, Below w.heap.size w W → Calls Tryz.prog 11 #[.agg #[.slice A1 n1 c1, .slice E1 m1 d1, .bool s1]] W (RetRat W (rawQ s1 xs1 ys1))) := fun W hW => rqfrom_z A1 E1 n1 c1 m1 d1 s1 w.heap.size xs1 ys1 W (hx1.below hW) (hy1.below hW) hW.size
  have Za := RSz.raw s1 xs1 ys1 hx1.lt hy1.lt
  have HM2 : Hid (∀ W, Below w.heap.size w W → Calls Tryz.prog 11 #[.agg #[.slice A2 n2 c2, .slice E2 m2 d2, .bool s2]] W (RetRat W (rawQ s2 xs2 ys2))) := fun W hW => rqfrom_z A2 E2 n2 c2 m2 d2 s2 w.heap.size xs2 ys2 W (hx2.below hW) (hy2.below hW) hW.size
  have Zb := RSz.raw s2 xs2 ys2 hx2.lt hy2.lt
  generalize rawQ s1 xs1 ys1 = a at *
  generalize rawQ s2 xs2 ys2 = b at *
  clear hx1 hy1 hx2 hy2
  have b0 := (Below.refl w.heap.size w)
  have b1 := b0.alloc b0.size (.cells #[.slice A1 n1 c1, .slice E1 m1 d1, .bool s1] 24)
  have b2 := b1.alloc b1.size (.cells #[.slice A2 n2 c2, .slice E2 m2 d2, .bool s2] 24)
  have Sr := Slot4.new ((w.alloc (.cells #[.slice A1 n1 c1, .slice E1 m1 d1, .bool s1] 24)).alloc (.cells #[.slice A2 n2 c2, .slice E2 m2 d2, .bool s2] 24)) (.bool gn_r) (.slice An_r nn_r cn_r) (.bool gd_r) (.slice Ad_r nd_r cd_r) 28
  simp only [World.size_alloc] at Sr
  have b2' := b2.alloc b2.size (.cells #[.bool gn_r, .slice An_r nn_r cn_r, .bool gd_r, .slice Ad_r nd_r cd_r] 28)
  have X1 := Slot3.new w (.slice A1 n1 c1) (.slice E1 m1 d1) (.bool s1) 24
  replace X1 := X1.alloc (.cells #[.slice A2 n2 c2, .slice E2 m2 d2, .bool s2] 24)
  replace X1 := X1.alloc (.cells #[.bool gn_r, .slice An_r nn_r cn_r, .bool gd_r, .slice Ad_r nd_r cd_r] 28)
  have X2 := Slot3.new (w.alloc (.cells #[.slice A1 n1 c1, .slice E1 m1 d1, .bool s1] 24)) (.slice A2 n2 c2) (.slice E2 m2 d2) (.bool s2) 24
  simp only [World.size_alloc] at X2
  replace X2 := X2.alloc (.cells #[.bool gn_r, .slice An_r nn_r cn_r, .bool gd_r, .slice Ad_r nd_r cd_r] 28)
  go_enter Tryz.func3, Tryz.ntmps3
  generalize hW : ((w.alloc (.cells #[.slice A1 n1 c1, .slice E1 m1 d1, .bool s1] 24)).alloc (.cells #[.slice A2 n2 c2, .slice E2 m2 d2, .bool s2] 24)).alloc (.cells #[.bool gn_r, .slice An_r nn_r cn_r, .bool gd_r, .slice Ad_r nd_r cd_r] 28) = W0 at *
  go_wp2_with fail
  try rw [hW]
  clear hW
  refine (HS'.out _).mono ?_
  rintro e W1 ⟨rfl, hb1⟩
  have B1 := b2'.trans (hb1.mono b2'.size)
  replace Sr := Sr.after hb1
  replace X1 := X1.after hb1
  replace X2 := X2.after hb1
  have HX : Hid (∀ V, Below W1.heap.size W1 V → (V.cell? ⟨w.heap.size, 0, none⟩ = some (.slice A1 n1 c1) ∧ V.cell? ⟨w.heap.size, 1, none⟩ = some (.slice E1 m1 d1) ∧ V.cell? ⟨w.heap.size, 2, none⟩ = some (.bool s1)) ∧ (V.cell? ⟨w.heap.size + 1, 0, none⟩ = some (.slice A2 n2 c2) ∧ V.cell? ⟨w.heap.size + 1, 1, none⟩ = some (.slice E2 m2 d2) ∧ V.cell? ⟨w.heap.size + 1, 2, none⟩ = some (.bool s2))) := fun V hV => ⟨(X1.after hV).cells, (X2.after hV).cells⟩
  clear X1 X2 b0 b1 b2 b2' hb1

  have ⟨r0, r1, r2, r3, _⟩ := Sr
  by_cases h4 : (4 : Int) < nn_r
  · go_wp2
    go_ret
    exact ⟨rfl, B1⟩
  by_cases h5 : (4 : Int) < nd_r
  · go_wp2
    go_ret
    exact ⟨rfl, B1⟩
  have H4 : Hid (nn_r ≤ 4 ∧ nd_r ≤ 4) := ⟨by omega, by omega⟩
  go_upto_region 4 with (fail)
  clear h4 h5 r0 r1 r2 r3
  go_cut [8, 9] (fun p0 p1 wx => ∃ ga gb, p0 = .pointer (some ⟨ga, 0, none⟩) ∧ p1 = .pointer (some ⟨gb, 0, none⟩) ∧ RatAt wx ga a ∧ RatAt wx gb b ∧ Below W1.heap.size W1 wx)
  case first =>
    as_aux_lemma =>
      refine wp_region_ev (fun d a0 a' w' => ∃ u34 u35 u36 u37 u8 u9 : Value, a' = ((((((a0.put (some 34) u34).put (some 35) u35).put (some 36) u36).put (some 37) u37).put (some 8) u8).put (some 9) u9) ∧ Below W1.heap.size W1 w' ∧ (d 0 = true → u34 = .agg #[.slice A1 n1 c1, .slice E1 m1 d1, .bool s1]) ∧ (d 1 = true → RatV w' u35 (a)) ∧ (d 2 = true → u36 = .agg #[.slice A2 n2 c2, .slice E2 m2 d2, .bool s2]) ∧ (d 3 = true → RatV w' u37 (b)) ∧ (d 4 = true → OwnQ W1.heap.size w' u8 (d 6) (a)) ∧ (d 5 = true → OwnQ W1.heap.size w' u9 (d 7) (b)) ∧ (d 4 = true → d 5 = true → u8 ≠ u9) ∧ (d 6 = true → d 4 = true) ∧ (d 7 = true → d 5 = true)) (by kernel_rfl) (by kernel_rfl) ?_ ?_ ?_ ?_
      · intro d d' h a' w' hh
        obtain rfl : d = d' := funext h
        exact hh
      · exact ⟨_, _, _, _, _, _, (by simp only [Act.put, List.setIfInBounds_toArray, List.set_cons_zero, List.set_cons_succ]; rfl), (Below.refl _ _).drew, (fun h => by cases h), (fun h => by cases h), (fun h => by cases h), (fun h => by cases h), (fun h => by cases h), (fun h => by cases h), (fun h => by cases h), (fun h => by cases h), (fun h => by cases h)⟩
      · refine ⟨?_, ?_, ?_, ?_, ?_, ?_, ?_, ?_, trivial⟩
        · intro d a2 w2 hd hm ⟨u34, u35, u36, u37, u8, u9, e, HB, f0, f1, f2, f3, f4, f5, n01, t0, t1⟩ K hK
          subst e
          simp only [Act.put, List.setIfInBounds_toArray, List.set_cons_zero, List.set_cons_succ]
          obtain ⟨⟨q0, q1, q2⟩, ⟨q3, q4, q5⟩⟩ := HX.out w2 HB
          go_simp
          exact hK.out _ _ ⟨.agg #[.slice A1 n1 c1, .slice E1 m1 d1, .bool s1], u35, u36, u37, u8, u9, (by simp only [Act.put, List.setIfInBounds_toArray, List.set_cons_zero, List.set_cons_succ]), HB, (fun _ => rfl), (fun h => (f1 (by simpa using h))), (fun h => f2 (by simpa using h)), (fun h => (f3 (by simpa using h))), (fun h => by simpa using (f4 (by simpa using h))), (fun h => by simpa using (f5 (by simpa using h))), (fun h h' => n01 (by simpa using h) (by simpa using h')), (fun h => by simpa using t0 (by simpa using h)), (fun h => by simpa using t1 (by simpa using h))⟩
        · intro d a2 w2 hd hm ⟨u34, u35, u36, u37, u8, u9, e, HB, f0, f1, f2, f3, f4, f5, n01, t0, t1⟩ K hK
          subst e
          simp only [Act.put, List.setIfInBounds_toArray, List.set_cons_zero, List.set_cons_succ]
          obtain rfl := f0 (hm ⟨0, .data⟩ (by simp) rfl)
          clear f0
          go_simp
          (with_reducible refine (HM1.out _ (B1.trans (Below.mono HB B1.size))).mono ?_)
          rintro e w3 ⟨g1, A1', n1', c1', g2, A2', n2', c2', rfl, hi, hb⟩
          have HB3 := HB.trans (hb.mono HB.size)
          go_wp2_with fail
          exact hK.out _ _ ⟨.agg #[.slice A1 n1 c1, .slice E1 m1 d1, .bool s1], .agg #[.bool g1, .slice A1' n1' c1', .bool g2, .slice A2' n2' c2'], u36, u37, u8, u9, (by simp only [Act.put, List.setIfInBounds_toArray, List.set_cons_zero, List.set_cons_succ]), HB3, (fun _ => rfl), (fun _ => ⟨_, _, _, _, _, _, _, _, rfl, hi⟩), (fun h => f2 (by simpa using h)), (fun h => (f3 (by simpa using h)).below hb), (fun h => by simpa using (f4 (by simpa using h)).below hb), (fun h => by simpa using (f5 (by simpa using h)).below hb), (fun h h' => n01 (by simpa using h) (by simpa using h')), (fun h => by simpa using t0 (by simpa using h)), (fun h => by simpa using t1 (by simpa using h))⟩
        · intro d a2 w2 hd hm ⟨u34, u35, u36, u37, u8, u9, e, HB, f0, f1, f2, f3, f4, f5, n01, t0, t1⟩ K hK
          subst e
          simp only [Act.put, List.setIfInBounds_toArray, List.set_cons_zero, List.set_cons_succ]
          obtain ⟨⟨q0, q1, q2⟩, ⟨q3, q4, q5⟩⟩ := HX.out w2 HB
          go_simp
          exact hK.out _ _ ⟨u34, u35, .agg #[.slice A2 n2 c2, .slice E2 m2 d2, .bool s2], u37, u8, u9, (by simp only [Act.put, List.setIfInBounds_toArray, List.set_cons_zero, List.set_cons_succ]), HB, (fun h => f0 (by simpa using h)), (fun h => (f1 (by simpa using h))), (fun _ => rfl), (fun h => (f3 (by simpa using h))), (fun h => by simpa using (f4 (by simpa using h))), (fun h => by simpa using (f5 (by simpa using h))), (fun h h' => n01 (by simpa using h) (by simpa using h')), (fun h => by simpa using t0 (by simpa using h)), (fun h => by simpa using t1 (by simpa using h))⟩
        · intro d a2 w2 hd hm ⟨u34, u35, u36, u37, u8, u9, e, HB, f0, f1, f2, f3, f4, f5, n01, t0, t1⟩ K hK
          subst e
          simp only [Act.put, List.setIfInBounds_toArray, List.set_cons_zero, List.set_cons_succ]
          obtain rfl := f2 (hm ⟨2, .data⟩ (by simp) rfl)
          clear f2
          go_simp
          (with_reducible refine (HM2.out _ (B1.trans (Below.mono HB B1.size))).mono ?_)
          rintro e w3 ⟨g1, A1', n1', c1', g2, A2', n2', c2', rfl, hi, hb⟩
          have HB3 := HB.trans (hb.mono HB.size)
          go_wp2_with fail
          exact hK.out _ _ ⟨u34, u35, .agg #[.slice A2 n2 c2, .slice E2 m2 d2, .bool s2], .agg #[.bool g1, .slice A1' n1' c1', .bool g2, .slice A2' n2' c2'], u8, u9, (by simp only [Act.put, List.setIfInBounds_toArray, List.set_cons_zero, List.set_cons_succ]), HB3, (fun h => f0 (by simpa using h)), (fun h => (f1 (by simpa using h)).below hb), (fun _ => rfl), (fun _ => ⟨_, _, _, _, _, _, _, _, rfl, hi⟩), (fun h => by simpa using (f4 (by simpa using h)).below hb), (fun h => by simpa using (f5 (by simpa using h)).below hb), (fun h h' => n01 (by simpa using h) (by simpa using h')), (fun h => by simpa using t0 (by simpa using h)), (fun h => by simpa using t1 (by simpa using h))⟩
        · intro d a2 w2 hd hm ⟨u34, u35, u36, u37, u8, u9, e, HB, f0, f1, f2, f3, f4, f5, n01, t0, t1⟩ K hK
          subst e
          simp only [Act.put, List.setIfInBounds_toArray, List.set_cons_zero, List.set_cons_succ]
          have hb : Below w2.heap.size w2 (w2.alloc (.cells #[.bool false, .slice none 0 0, .bool false, .slice none 0 0] 28)) := (Below.refl _ _).alloc (Nat.le_refl _) _
          have HB3 := HB.trans (hb.mono HB.size)
          go_simp
          exact hK.out _ _ ⟨u34, u35, u36, u37, .pointer (some ⟨w2.heap.size, 0, none⟩), u9, (by simp only [Act.put, List.setIfInBounds_toArray, List.set_cons_zero, List.set_cons_succ]), HB3, (fun h => f0 (by simpa using h)), (fun h => (f1 (by simpa using h)).below hb), (fun h => f2 (by simpa using h)), (fun h => (f3 (by simpa using h)).below hb), (fun _ => by have hs : d 6 = false := (by cases hq : d 6 with | false => rfl | true => (have hz := t0 hq; rw [hd] at hz; cases hz)); simpa [hs] using OwnQ.new HB.size (a)), (fun h => by simpa using (f5 (by simpa using h)).below hb), (fun _ h' => ((f5 (by simpa using h')).lt).symm), (fun _ => by simp), (fun h => by simpa using t1 (by simpa using h))⟩
        · intro d a2 w2 hd hm ⟨u34, u35, u36, u37, u8, u9, e, HB, f0, f1, f2, f3, f4, f5, n01, t0, t1⟩ K hK
          subst e
          simp only [Act.put, List.setIfInBounds_toArray, List.set_cons_zero, List.set_cons_succ]
          have hb : Below w2.heap.size w2 (w2.alloc (.cells #[.bool false, .slice none 0 0, .bool false, .slice none 0 0] 28)) := (Below.refl _ _).alloc (Nat.le_refl _) _
          have HB3 := HB.trans (hb.mono HB.size)
          go_simp
          exact hK.out _ _ ⟨u34, u35, u36, u37, u8, .pointer (some ⟨w2.heap.size, 0, none⟩), (by simp only [Act.put, List.setIfInBounds_toArray, List.set_cons_zero, List.set_cons_succ]), HB3, (fun h => f0 (by simpa using h)), (fun h => (f1 (by simpa using h)).below hb), (fun h => f2 (by simpa using h)), (fun h => (f3 (by simpa using h)).below hb), (fun h => by simpa using (f4 (by simpa using h)).below hb), (fun _ => by have hs : d 7 = false := (by cases hq : d 7 with | false => rfl | true => (have hz := t1 hq; rw [hd] at hz; cases hz)); simpa [hs] using OwnQ.new HB.size (b)), (fun h _ => (f4 (by simpa using h)).lt), (fun h => by simpa using t0 (by simpa using h)), (fun _ => by simp)⟩
        · intro d a2 w2 hd hm ⟨u34, u35, u36, u37, u8, u9, e, HB, f0, f1, f2, f3, f4, f5, n01, t0, t1⟩ K hK
          subst e
          simp only [Act.put, List.setIfInBounds_toArray, List.set_cons_zero, List.set_cons_succ]
          obtain ⟨gg, AA, nn, cc, gg', AA', nn', cc', rfl, hi⟩ := f1 (hm ⟨1, .data⟩ (by simp) rfl)
          obtain ⟨g, rfl, hg, b0, b1, b2, b3, hs, n0, n1, n2, n3, _⟩ := f4 (hm ⟨4, .data⟩ (by simp) rfl)
          obtain ⟨k0, k1, k2, k3, k4, k5, k6, k7, k8⟩ := id hs
          go_simp
          exact hK.out _ _ ⟨u34, .agg #[.bool gg, .slice AA nn cc, .bool gg', .slice AA' nn' cc'], u36, u37, .pointer (some ⟨g, 0, none⟩), u9, (by simp only [Act.put, List.setIfInBounds_toArray, List.set_cons_zero, List.set_cons_succ]), Below.set4 HB hg _ _ _ _, (fun h => f0 (by simpa using h)), (fun h => (f1 (by simpa using h)).set4 hs n0 n1 n2 n3 _ _ _ _), (fun h => f2 (by simpa using h)), (fun h => (f3 (by simpa using h)).set4 hs n0 n1 n2 n3 _ _ _ _), (fun _ => by simpa using OwnQ.near hi hg hs n0 n1 n2 n3), (fun h => by simpa using (f5 (by simpa using h)).far ((n01 (hm ⟨4, .data⟩ (by simp) rfl) (by simpa using h)).symm) hs n0 n1 n2 n3 _ _ _ _), (fun h h' => n01 (by simpa using h) (by simpa using h')), (fun _ => by simpa using hm ⟨4, .data⟩ (by simp) rfl), (fun h => by simpa using t1 (by simpa using h))⟩
        · intro d a2 w2 hd hm ⟨u34, u35, u36, u37, u8, u9, e, HB, f0, f1, f2, f3, f4, f5, n01, t0, t1⟩ K hK
          subst e
          simp only [Act.put, List.setIfInBounds_toArray, List.set_cons_zero, List.set_cons_succ]
          obtain ⟨gg, AA, nn, cc, gg', AA', nn', cc', rfl, hi⟩ := f3 (hm ⟨3, .data⟩ (by simp) rfl)
          obtain ⟨g, rfl, hg, b0, b1, b2, b3, hs, n0, n1, n2, n3, _⟩ := f5 (hm ⟨5, .data⟩ (by simp) rfl)
          obtain ⟨k0, k1, k2, k3, k4, k5, k6, k7, k8⟩ := id hs
          go_simp
          exact hK.out _ _ ⟨u34, u35, u36, .agg #[.bool gg, .slice AA nn cc, .bool gg', .slice AA' nn' cc'], u8, .pointer (some ⟨g, 0, none⟩), (by simp only [Act.put, List.setIfInBounds_toArray, List.set_cons_zero, List.set_cons_succ]), Below.set4 HB hg _ _ _ _, (fun h => f0 (by simpa using h)), (fun h => (f1 (by simpa using h)).set4 hs n0 n1 n2 n3 _ _ _ _), (fun h => f2 (by simpa using h)), (fun h => (f3 (by simpa using h)).set4 hs n0 n1 n2 n3 _ _ _ _), (fun h => by simpa using (f4 (by simpa using h)).far (n01 (by simpa using h) (hm ⟨5, .data⟩ (by simp) rfl)) hs n0 n1 n2 n3 _ _ _ _), (fun _ => by simpa using OwnQ.near hi hg hs n0 n1 n2 n3), (fun h h' => n01 (by simpa using h) (by simpa using h')), (fun h => by simpa using t0 (by simpa using h)), (fun _ => by simpa using hm ⟨5, .data⟩ (by simp) rfl)⟩
      · intro d a2 w2 hall ⟨u34, u35, u36, u37, u8, u9, e, HB, f0, f1, f2, f3, f4, f5, n01, t0, t1⟩
        subst e
        simp only [Act.put, List.setIfInBounds_toArray, List.set_cons_zero, List.set_cons_succ]
        obtain rfl := f0 (hall _ (by decide))
        obtain rfl := f2 (hall _ (by decide))
        obtain ⟨g0, rfl, h0, b0⟩ := OwnQ.ratAtB (by have := f4 (hall _ (by decide)); rwa [hall 6 (by decide)] at this)
        obtain ⟨g1, rfl, h1, b1⟩ := OwnQ.ratAtB (by have := f5 (hall _ (by decide)); rwa [hall 7 (by decide)] at this)
        go_wp2_with fail
        go_meet
        exact ⟨g0, g1, rfl, rfl, h0, h1, HB⟩
  case rest =>
  obtain ⟨ga, gb, rfl, rfl, Ta, Tb, DC⟩ := hcut
  obtain ⟨W2, rfl⟩ : ∃ x : World, x = wc := ⟨_, rfl⟩
  have B := B1.trans (DC.mono B1.size)
  replace Sr := Sr.after DC
  clear B1 HX HM1 HM2 DC
  obtain ⟨gn_a, An_a, nn_a, cn_a, gd_a, Ad_a, nd_a, cd_a, Sa, Ia⟩ := Ta
  obtain ⟨gn_b, An_b, nn_b, cn_b, gd_b, Ad_b, nd_b, cd_b, Sb, Ib⟩ := Tb

  go_upto_region 5 with (fail)
  go_cut [10, 11] (fun p0 p1 wx => ∃ g e, p0 = .pointer (some ⟨g, 0, none⟩) ∧ p1 = .int .i64 e ∧ Below W2.heap.size W2 wx ∧ Hid (ZQ wx g e b (Rat.divInt a.num b.num)))
  case first =>
    clear B
    have D := Below.refl W2.heap.size W2
    by_cases hb0 : b = 0
    case' pos =>
      as_aux_lemma =>
        have ⟨Sac0, Sac1, Sac2, Sac3, _⟩ := Sa
        have ⟨Sbc0, Sbc1, Sbc2, Sbc3, _⟩ := Sb
        have hz0 := Ib.num
        rw [hb0] at hz0
        go_wp2_with fail
        (with_reducible refine (qof_bad gn_a An_a nn_a cn_a gn_b An_b nn_b cn_b _ hz0).mono ?_)
        rintro e w1 ⟨rfl, bq⟩
        clear Sac0 Sac1 Sac2 Sac3 Sbc0 Sbc1 Sbc2 Sbc3
        replace D := D.trans (bq.mono D.size)
        clear bq
        have hal := (Below.refl w1.heap.size w1).alloc (Nat.le_refl _) (.cells #[.bool false, .slice none 0 0, .bool false, .slice none 0 0] 28)
        replace D := D.trans (hal.mono D.size)
        clear hal
        go_wp2_with fail
        go_meet
        exact ⟨_, _, rfl, rfl, D, .inl ⟨hb0, rfl, Slot4.new w1 (.bool false) (.slice none 0 0) (.bool false) (.slice none 0 0) 28⟩⟩
    case' neg =>
      as_aux_lemma =>
        have ⟨Sac0, Sac1, Sac2, Sac3, _⟩ := Sa
        have ⟨Sbc0, Sbc1, Sbc2, Sbc3, _⟩ := Sb
        go_wp2_with fail
        (with_reducible refine (qof_z gn_a An_a nn_a cn_a gn_b An_b nn_b cn_b _ Ia.num Ib.num Za.num Zb.num (by decide) (num_ne hb0)).mono ?_)
        rintro e w1 ⟨gnq, Anq, nnq, cnq, gdq, Adq, ndq, cdq, rfl, iq, bq⟩
        clear Sac0 Sac1 Sac2 Sac3 Sbc0 Sbc1 Sbc2 Sbc3
        replace D := D.trans (bq.mono D.size)
        clear bq
        have hal := (Below.refl w1.heap.size w1).alloc (Nat.le_refl _) (.cells #[.bool gnq, .slice Anq nnq cnq, .bool gdq, .slice Adq ndq cdq] 28)
        have Sq := Slot4.new w1 (.bool gnq) (.slice Anq nnq cnq) (.bool gdq) (.slice Adq ndq cdq) 28
        replace iq := iq.below hal
        replace D := D.trans (hal.mono D.size)
        clear hal
        generalize hW : w1.alloc (.cells #[.bool gnq, .slice Anq nnq cnq, .bool gdq, .slice Adq ndq cdq] 28) = W1 at *
        go_wp2_with fail
        try rw [hW]
        clear hW
        go_meet
        exact ⟨_, _, rfl, rfl, D, .inr ⟨hb0, rfl, ⟨_, _, _, _, _, _, _, _, Sq, iq⟩⟩⟩
  case rest =>
  obtain ⟨g5, e5, rfl, rfl, DC, E5⟩ := hcut
  obtain ⟨W5, rfl⟩ : ∃ x : World, x = wc := ⟨_, rfl⟩
  replace Sa := Sa.after DC
  replace Ia := Ia.below DC
  replace Sb := Sb.after DC
  replace Ib := Ib.below DC
  replace Sr := Sr.after DC
  replace B := B.trans (DC.mono B.size)
  clear DC
  go_upto_region 6 with (fail)
  go_cut [12, 13] (fun p0 p1 wx => ∃ g e, p0 = .pointer (some ⟨g, 0, none⟩) ∧ p1 = .int .i64 e ∧ Below W5.heap.size W5 wx ∧ Hid (ZQ wx g e b (Rat.divInt a.num b.num)))
  case first =>
    clear B
    have D := Below.refl W5.heap.size W5
    by_cases hb0 : b = 0
    case' pos =>
      as_aux_lemma =>
        have ⟨Sac0, Sac1, Sac2, Sac3, _⟩ := Sa
        have ⟨Sbc0, Sbc1, Sbc2, Sbc3, _⟩ := Sb
        have hz0 := Ib.num
        rw [hb0] at hz0
        go_wp2_with fail
        (with_reducible refine (rqof_bad gn_a An_a nn_a cn_a gn_b An_b nn_b cn_b _ hz0).mono ?_)
        rintro e w1 ⟨rfl, bq⟩
        clear Sac0 Sac1 Sac2 Sac3 Sbc0 Sbc1 Sbc2 Sbc3
        replace D := D.trans (bq.mono D.size)
        clear bq
        have hal := (Below.refl w1.heap.size w1).alloc (Nat.le_refl _) (.cells #[.bool false, .slice none 0 0, .bool false, .slice none 0 0] 28)
        replace D := D.trans (hal.mono D.size)
        clear hal
        go_wp2_with fail
        go_meet
        exact ⟨_, _, rfl, rfl, D, .inl ⟨hb0, rfl, Slot4.new w1 (.bool false) (.slice none 0 0) (.bool false) (.slice none 0 0) 28⟩⟩
    case' neg =>
      as_aux_lemma =>
        have ⟨Sac0, Sac1, Sac2, Sac3, _⟩ := Sa
        have ⟨Sbc0, Sbc1, Sbc2, Sbc3, _⟩ := Sb
        go_wp2_with fail
        (with_reducible refine (rqof_z gn_a An_a nn_a cn_a gn_b An_b nn_b cn_b _ Ia.num Ib.num Za.num Zb.num (by decide) (num_ne hb0)).mono ?_)
        rintro e w1 ⟨gnq, Anq, nnq, cnq, gdq, Adq, ndq, cdq, rfl, iq, bq⟩
        clear Sac0 Sac1 Sac2 Sac3 Sbc0 Sbc1 Sbc2 Sbc3
        replace D := D.trans (bq.mono D.size)
        clear bq
        have hal := (Below.refl w1.heap.size w1).alloc (Nat.le_refl _) (.cells #[.bool gnq, .slice Anq nnq cnq, .bool gdq, .slice Adq ndq cdq] 28)
        have Sq := Slot4.new w1 (.bool gnq) (.slice Anq nnq cnq) (.bool gdq) (.slice Adq ndq cdq) 28
        replace iq := iq.below hal
        replace D := D.trans (hal.mono D.size)
        clear hal
        generalize hW : w1.alloc (.cells #[.bool gnq, .slice Anq nnq cnq, .bool gdq, .slice Adq ndq cdq] 28) = W1 at *
        go_wp2_with fail
        try rw [hW]
        clear hW
        go_meet
        exact ⟨_, _, rfl, rfl, D, .inr ⟨hb0, rfl, ⟨_, _, _, _, _, _, _, _, Sq, iq⟩⟩⟩
  case rest =>
  obtain ⟨g6, e6, rfl, rfl, DC, E6⟩ := hcut
  obtain ⟨W6, rfl⟩ : ∃ x : World, x = wc := ⟨_, rfl⟩
  replace Sa := Sa.after DC
  replace Ia := Ia.below DC
  replace Sb := Sb.after DC
  replace Ib := Ib.below DC
  replace Sr := Sr.after DC
  replace B := B.trans (DC.mono B.size)
  replace E5 := Lib.hid (E5.out.after DC)
  clear DC
  go_upto_region 7 with (fail)
  go_cut [14, 15] (fun p0 p1 wx => ∃ g e, p0 = .pointer (some ⟨g, 0, none⟩) ∧ p1 = .int .i64 e ∧ Below W6.heap.size W6 wx ∧ Hid (ZQ wx g e b (a / b)))
  case first =>
    clear B
    have D := Below.refl W6.heap.size W6
    by_cases hb0 : b = 0
    case' pos =>
      as_aux_lemma =>
        have ⟨Sac0, Sac1, Sac2, Sac3, _⟩ := Sa
        have ⟨Sbc0, Sbc1, Sbc2, Sbc3, _⟩ := Sb
        go_wp2_with fail
        (with_reducible refine (qdiv_bad gn_a An_a nn_a cn_a gd_a Ad_a nd_a cd_a gn_b An_b nn_b cn_b gd_b Ad_b nd_b cd_b _ Ia Ib Za Zb (by decide) hb0).mono ?_)
        rintro e w1 ⟨rfl, bq⟩
        clear Sac0 Sac1 Sac2 Sac3 Sbc0 Sbc1 Sbc2 Sbc3
        replace D := D.trans (bq.mono D.size)
        clear bq
        have hal := (Below.refl w1.heap.size w1).alloc (Nat.le_refl _) (.cells #[.bool false, .slice none 0 0, .bool false, .slice none 0 0] 28)
        replace D := D.trans (hal.mono D.size)
        clear hal
        go_wp2_with fail
        go_meet
        exact ⟨_, _, rfl, rfl, D, .inl ⟨hb0, rfl, Slot4.new w1 (.bool false) (.slice none 0 0) (.bool false) (.slice none 0 0) 28⟩⟩
    case' neg =>
      as_aux_lemma =>
        have ⟨Sac0, Sac1, Sac2, Sac3, _⟩ := Sa
        have ⟨Sbc0, Sbc1, Sbc2, Sbc3, _⟩ := Sb
        go_wp2_with fail
        (with_reducible refine (qdiv_z gn_a An_a nn_a cn_a gd_a Ad_a nd_a cd_a gn_b An_b nn_b cn_b gd_b Ad_b nd_b cd_b _ Ia Ib Za Zb (by decide) hb0).mono ?_)
        rintro e w1 ⟨gnq, Anq, nnq, cnq, gdq, Adq, ndq, cdq, rfl, iq, bq⟩
        clear Sac0 Sac1 Sac2 Sac3 Sbc0 Sbc1 Sbc2 Sbc3
        replace D := D.trans (bq.mono D.size)
        clear bq
        have hal := (Below.refl w1.heap.size w1).alloc (Nat.le_refl _) (.cells #[.bool gnq, .slice Anq nnq cnq, .bool gdq, .slice Adq ndq cdq] 28)
        have Sq := Slot4.new w1 (.bool gnq) (.slice Anq nnq cnq) (.bool gdq) (.slice Adq ndq cdq) 28
        replace iq := iq.below hal
        replace D := D.trans (hal.mono D.size)
        clear hal
        generalize hW : w1.alloc (.cells #[.bool gnq, .slice Anq nnq cnq, .bool gdq, .slice Adq ndq cdq] 28) = W1 at *
        go_wp2_with fail
        try rw [hW]
        clear hW
        go_meet
        exact ⟨_, _, rfl, rfl, D, .inr ⟨hb0, rfl, ⟨_, _, _, _, _, _, _, _, Sq, iq⟩⟩⟩
  case rest =>
  obtain ⟨g7, e7, rfl, rfl, DC, E7⟩ := hcut
  obtain ⟨W7, rfl⟩ : ∃ x : World, x = wc := ⟨_, rfl⟩
  replace Sa := Sa.after DC
  replace Ia := Ia.below DC
  replace Sb := Sb.after DC
  replace Ib := Ib.below DC
  replace Sr := Sr.after DC
  replace B := B.trans (DC.mono B.size)
  replace E5 := Lib.hid (E5.out.after DC)
  replace E6 := Lib.hid (E6.out.after DC)
  clear DC
  go_upto_region 8 with (fail)
  go_cut [16, 17] (fun p0 p1 wx => ∃ g e, p0 = .pointer (some ⟨g, 0, none⟩) ∧ p1 = .int .i64 e ∧ Below W7.heap.size W7 wx ∧ Hid (ZQ wx g e b (a / b)))
  case first =>
    clear B
    have D := Below.refl W7.heap.size W7
    by_cases hb0 : b = 0
    case' pos =>
      as_aux_lemma =>
        have ⟨Sac0, Sac1, Sac2, Sac3, _⟩ := Sa
        have ⟨Sbc0, Sbc1, Sbc2, Sbc3, _⟩ := Sb
        go_wp2_with fail
        (with_reducible refine (rqdiv_bad gn_a An_a nn_a cn_a gd_a Ad_a nd_a cd_a gn_b An_b nn_b cn_b gd_b Ad_b nd_b cd_b _ Ia Ib Za Zb (by decide) hb0).mono ?_)
        rintro e w1 ⟨rfl, bq⟩
        clear Sac0 Sac1 Sac2 Sac3 Sbc0 Sbc1 Sbc2 Sbc3
        replace D := D.trans (bq.mono D.size)
        clear bq
        have hal := (Below.refl w1.heap.size w1).alloc (Nat.le_refl _) (.cells #[.bool false, .slice none 0 0, .bool false, .slice none 0 0] 28)
        replace D := D.trans (hal.mono D.size)
        clear hal
        go_wp2_with fail
        go_meet
        exact ⟨_, _, rfl, rfl, D, .inl ⟨hb0, rfl, Slot4.new w1 (.bool false) (.slice none 0 0) (.bool false) (.slice none 0 0) 28⟩⟩
    case' neg =>
      as_aux_lemma =>
        have ⟨Sac0, Sac1, Sac2, Sac3, _⟩ := Sa
        have ⟨Sbc0, Sbc1, Sbc2, Sbc3, _⟩ := Sb
        go_wp2_with fail
        (with_reducible refine (rqdiv_z gn_a An_a nn_a cn_a gd_a Ad_a nd_a cd_a gn_b An_b nn_b cn_b gd_b Ad_b nd_b cd_b _ Ia Ib Za Zb (by decide) hb0).mono ?_)
        rintro e w1 ⟨gnq, Anq, nnq, cnq, gdq, Adq, ndq, cdq, rfl, iq, bq⟩
        clear Sac0 Sac1 Sac2 Sac3 Sbc0 Sbc1 Sbc2 Sbc3
        replace D := D.trans (bq.mono D.size)
        clear bq
        have hal := (Below.refl w1.heap.size w1).alloc (Nat.le_refl _) (.cells #[.bool gnq, .slice Anq nnq cnq, .bool gdq, .slice Adq ndq cdq] 28)
        have Sq := Slot4.new w1 (.bool gnq) (.slice Anq nnq cnq) (.bool gdq) (.slice Adq ndq cdq) 28
        replace iq := iq.below hal
        replace D := D.trans (hal.mono D.size)
        clear hal
        generalize hW : w1.alloc (.cells #[.bool gnq, .slice Anq nnq cnq, .bool gdq, .slice Adq ndq cdq] 28) = W1 at *
        go_wp2_with fail
        try rw [hW]
        clear hW
        go_meet
        exact ⟨_, _, rfl, rfl, D, .inr ⟨hb0, rfl, ⟨_, _, _, _, _, _, _, _, Sq, iq⟩⟩⟩
  case rest =>
  obtain ⟨g8, e8, rfl, rfl, DC, E8⟩ := hcut
  obtain ⟨W8, rfl⟩ : ∃ x : World, x = wc := ⟨_, rfl⟩
  replace Sa := Sa.after DC
  replace Ia := Ia.below DC
  replace Sb := Sb.after DC
  replace Ib := Ib.below DC
  replace Sr := Sr.after DC
  replace B := B.trans (DC.mono B.size)
  replace E5 := Lib.hid (E5.out.after DC)
  replace E6 := Lib.hid (E6.out.after DC)
  replace E7 := Lib.hid (E7.out.after DC)
  clear DC
  go_upto_region 9 with (fail)
  go_cut [97] (fun s wx => s = .bool false ∧ Below W8.heap.size W8 wx)
  case first =>
    obtain ⟨v, hv⟩ : ∃ v, vrat gn_r xr gd_r yr = v := ⟨_, rfl⟩
    have HV := Lib.hid hv
    clear hv
    by_cases hb0 : b = 0
    case' pos =>
      as_aux_lemma =>
        obtain ⟨rfl, S5⟩ := E5.out.zero hb0
        obtain ⟨rfl, S6⟩ := E6.out.zero hb0
        obtain ⟨rfl, S7⟩ := E7.out.zero hb0
        obtain ⟨rfl, S8⟩ := E8.out.zero hb0
        have HS : Hid (∀ V, Below W8.heap.size W8 V → (V.cell? ⟨g5, 0, none⟩ = some (.bool false) ∧ V.cell? ⟨g5, 1, none⟩ = some (.slice none 0 0) ∧ V.cell? ⟨g5, 2, none⟩ = some (.bool false) ∧ V.cell? ⟨g5, 3, none⟩ = some (.slice none 0 0)) ∧ (V.cell? ⟨g6, 0, none⟩ = some (.bool false) ∧ V.cell? ⟨g6, 1, none⟩ = some (.slice none 0 0) ∧ V.cell? ⟨g6, 2, none⟩ = some (.bool false) ∧ V.cell? ⟨g6, 3, none⟩ = some (.slice none 0 0)) ∧ (V.cell? ⟨g7, 0, none⟩ = some (.bool false) ∧ V.cell? ⟨g7, 1, none⟩ = some (.slice none 0 0) ∧ V.cell? ⟨g7, 2, none⟩ = some (.bool false) ∧ V.cell? ⟨g7, 3, none⟩ = some (.slice none 0 0)) ∧ (V.cell? ⟨g8, 0, none⟩ = some (.bool false) ∧ V.cell? ⟨g8, 1, none⟩ = some (.slice none 0 0) ∧ V.cell? ⟨g8, 2, none⟩ = some (.bool false) ∧ V.cell? ⟨g8, 3, none⟩ = some (.slice none 0 0)) ∧ (V.cell? ⟨w.heap.size + 1 + 1, 0, none⟩ = some (.bool gn_r) ∧ V.cell? ⟨w.heap.size + 1 + 1, 1, none⟩ = some (.slice An_r nn_r cn_r) ∧ V.cell? ⟨w.heap.size + 1 + 1, 2, none⟩ = some (.bool gd_r) ∧ V.cell? ⟨w.heap.size + 1 + 1, 3, none⟩ = some (.slice Ad_r nd_r cd_r)) ∧ (V.cell? ⟨ga, 0, none⟩ = some (.bool gn_a) ∧ V.cell? ⟨ga, 1, none⟩ = some (.slice An_a nn_a cn_a) ∧ V.cell? ⟨ga, 2, none⟩ = some (.bool gd_a) ∧ V.cell? ⟨ga, 3, none⟩ = some (.slice Ad_a nd_a cd_a))) := fun V hV => ⟨(S5.after hV).cells, (S6.after hV).cells, (S7.after hV).cells, (S8.after hV).cells, (Sr.after hV).cells, (Sa.after hV).cells⟩
        have Dp0 : Below W8.heap.size W8 W8.drew := (Below.refl _ _).drew
        refine wp_region_seq (.pre [(0, true), (1, true), (2, false), (3, true), (4, true), (5, true), (6, true), (7, true), (8, true), (9, true), (10, true), (11, true), (12, false), (13, true), (14, true), (15, true), (16, true), (17, true), (18, true), (19, true), (20, true), (21, true), (23, true), (22, false), (24, false)] (.pre [(25, true), (26, true), (27, true), (28, true), (29, false), (30, true), (31, true)] .done)) (fun W => (W.cell? ⟨g5, 0, none⟩ = some (.bool false) ∧ W.cell? ⟨g5, 1, none⟩ = some (.slice none 0 0) ∧ W.cell? ⟨g5, 2, none⟩ = some (.bool false) ∧ W.cell? ⟨g5, 3, none⟩ = some (.slice none 0 0)) ∧ (W.cell? ⟨g6, 0, none⟩ = some (.bool false) ∧ W.cell? ⟨g6, 1, none⟩ = some (.slice none 0 0) ∧ W.cell? ⟨g6, 2, none⟩ = some (.bool false) ∧ W.cell? ⟨g6, 3, none⟩ = some (.slice none 0 0)) ∧ (W.cell? ⟨g7, 0, none⟩ = some (.bool false) ∧ W.cell? ⟨g7, 1, none⟩ = some (.slice none 0 0) ∧ W.cell? ⟨g7, 2, none⟩ = some (.bool false) ∧ W.cell? ⟨g7, 3, none⟩ = some (.slice none 0 0)) ∧ (W.cell? ⟨g8, 0, none⟩ = some (.bool false) ∧ W.cell? ⟨g8, 1, none⟩ = some (.slice none 0 0) ∧ W.cell? ⟨g8, 2, none⟩ = some (.bool false) ∧ W.cell? ⟨g8, 3, none⟩ = some (.slice none 0 0)) ∧ (W.cell? ⟨w.heap.size + 1 + 1, 0, none⟩ = some (.bool gn_r) ∧ W.cell? ⟨w.heap.size + 1 + 1, 1, none⟩ = some (.slice An_r nn_r cn_r) ∧ W.cell? ⟨w.heap.size + 1 + 1, 2, none⟩ = some (.bool gd_r) ∧ W.cell? ⟨w.heap.size + 1 + 1, 3, none⟩ = some (.slice Ad_r nd_r cd_r)) ∧ (W.cell? ⟨ga, 0, none⟩ = some (.bool gn_a) ∧ W.cell? ⟨ga, 1, none⟩ = some (.slice An_a nn_a cn_a) ∧ W.cell? ⟨ga, 2, none⟩ = some (.bool gd_a) ∧ W.cell? ⟨ga, 3, none⟩ = some (.slice Ad_a nd_a cd_a))) (by kernel_rfl) (by kernel_rfl) ?_ (by kernel_rfl) (HS.out _ Dp0) ?_
        · refine chk_pre _ _ _ (by as_aux_lemma => kernel_rfl) ?_
          refine chk_pre _ _ _ (by as_aux_lemma => kernel_rfl) ?_
          exact (by as_aux_lemma => kernel_rfl)
        refine seq_take _ ?_ rfl (Or.inl ⟨by rfl, ?_⟩) ?_
        rotate_left
        · (intro w hSw; (try dsimp only at hSw); go_simp; (try with_reducible rfl))
        try simp only [Act.put, List.setIfInBounds_toArray, List.set_cons_zero, List.set_cons_succ]
        refine seq_take _ ?_ rfl (Or.inl ⟨by rfl, ?_⟩) ?_
        rotate_left
        · (intro w hSw; (try dsimp only at hSw); go_simp; (try with_reducible rfl))
        try simp only [Act.put, List.setIfInBounds_toArray, List.set_cons_zero, List.set_cons_succ]
        refine seq_one _ rfl fun K hK => ?_
        go_simp
        (with_reducible refine (rqsame_zero _).mono ?_)
        rintro e vp1 ⟨rfl, bp1⟩
        have Dp1 : Below W8.heap.size W8 vp1 := Below.trans Dp0 (bp1.mono (Below.size Dp0))
        go_wp2_with fail
        refine hK.out _ _ (HS.out _ Dp1) (fun hHeld => ?_)
        clear hK K hHeld
        try simp only [Act.put, List.setIfInBounds_toArray, List.set_cons_zero, List.set_cons_succ]
        refine seq_take _ ?_ rfl (Or.inl ⟨by rfl, ?_⟩) ?_
        rotate_left
        · (intro w hSw; (try dsimp only at hSw); go_simp; (try with_reducible rfl))
        try simp only [Act.put, List.setIfInBounds_toArray, List.set_cons_zero, List.set_cons_succ]
        refine seq_take _ ?_ rfl (Or.inl ⟨by rfl, ?_⟩) ?_
        rotate_left
        · (intro w hSw; (try dsimp only at hSw); go_simp; (try with_reducible rfl))
        try simp only [Act.put, List.setIfInBounds_toArray, List.set_cons_zero, List.set_cons_succ]
        refine seq_take _ ?_ rfl (Or.inl ⟨by rfl, ?_⟩) ?_
        rotate_left
        · (intro w hSw; (try dsimp only at hSw); go_simp; (try with_reducible rfl))
        try simp only [Act.put, List.setIfInBounds_toArray, List.set_cons_zero, List.set_cons_succ]
        refine seq_take _ ?_ rfl (Or.inl ⟨by rfl, ?_⟩) ?_
        rotate_left
        · (intro w hSw; (try dsimp only at hSw); go_simp; (try with_reducible rfl))
        try simp only [Act.put, List.setIfInBounds_toArray, List.set_cons_zero, List.set_cons_succ]
        refine seq_take _ ?_ rfl (Or.inl ⟨by rfl, ?_⟩) ?_
        rotate_left
        · (intro w hSw; (try dsimp only at hSw); go_simp; (try with_reducible rfl))
        try simp only [Act.put, List.setIfInBounds_toArray, List.set_cons_zero, List.set_cons_succ]
        refine seq_take _ ?_ rfl (Or.inl ⟨by rfl, ?_⟩) ?_
        rotate_left
        · (intro w hSw; (try dsimp only at hSw); go_simp; (try with_reducible rfl))
        try simp only [Act.put, List.setIfInBounds_toArray, List.set_cons_zero, List.set_cons_succ]
        refine seq_take _ ?_ rfl (Or.inl ⟨by rfl, ?_⟩) ?_
        rotate_left
        · (intro w hSw; (try dsimp only at hSw); go_simp; (try with_reducible rfl))
        try simp only [Act.put, List.setIfInBounds_toArray, List.set_cons_zero, List.set_cons_succ]
        refine seq_take _ ?_ rfl (Or.inl ⟨by rfl, ?_⟩) ?_
        rotate_left
        · (intro w hSw; (try dsimp only at hSw); go_simp; (try with_reducible rfl))
        try simp only [Act.put, List.setIfInBounds_toArray, List.set_cons_zero, List.set_cons_succ]
        refine seq_take _ ?_ rfl (Or.inl ⟨by rfl, ?_⟩) ?_
        rotate_left
        · (intro w hSw; (try dsimp only at hSw); go_simp; (try with_reducible rfl))
        try simp only [Act.put, List.setIfInBounds_toArray, List.set_cons_zero, List.set_cons_succ]
        refine seq_one _ rfl fun K hK => ?_
        go_simp
        (with_reducible refine (rqsame_zero _).mono ?_)
        rintro e vp2 ⟨rfl, bp2⟩
        have Dp2 : Below W8.heap.size W8 vp2 := Below.trans Dp1 (bp2.mono (Below.size Dp1))
        go_wp2_with fail
        refine hK.out _ _ (HS.out _ Dp2) (fun hHeld => ?_)
        clear hK K hHeld
        try simp only [Act.put, List.setIfInBounds_toArray, List.set_cons_zero, List.set_cons_succ]
        refine seq_take _ ?_ rfl (Or.inl ⟨by rfl, ?_⟩) ?_
        rotate_left
        · (intro w hSw; (try dsimp only at hSw); go_simp; (try with_reducible rfl))
        try simp only [Act.put, List.setIfInBounds_toArray, List.set_cons_zero, List.set_cons_succ]
        refine seq_take _ ?_ rfl (Or.inl ⟨by rfl, ?_⟩) ?_
        rotate_left
        · (intro w hSw; (try dsimp only at hSw); go_simp; (try with_reducible rfl))
        try simp only [Act.put, List.setIfInBounds_toArray, List.set_cons_zero, List.set_cons_succ]
        refine seq_take _ ?_ rfl (Or.inl ⟨by rfl, ?_⟩) ?_
        rotate_left
        · (intro w hSw; (try dsimp only at hSw); go_simp; (try with_reducible rfl))
        try simp only [Act.put, List.setIfInBounds_toArray, List.set_cons_zero, List.set_cons_succ]
        refine seq_take _ ?_ rfl (Or.inl ⟨by rfl, ?_⟩) ?_
        rotate_left
        · (intro w hSw; (try dsimp only at hSw); go_simp; (try with_reducible rfl))
        try simp only [Act.put, List.setIfInBounds_toArray, List.set_cons_zero, List.set_cons_succ]
        refine seq_take _ ?_ rfl (Or.inl ⟨by rfl, ?_⟩) ?_
        rotate_left
        · (intro w hSw; (try dsimp only at hSw); go_simp; (try with_reducible rfl))
        try simp only [Act.put, List.setIfInBounds_toArray, List.set_cons_zero, List.set_cons_succ]
        refine seq_take _ ?_ rfl (Or.inl ⟨by rfl, ?_⟩) ?_
        rotate_left
        · (intro w hSw; (try dsimp only at hSw); go_simp; (try with_reducible rfl))
        try simp only [Act.put, List.setIfInBounds_toArray, List.set_cons_zero, List.set_cons_succ]
        refine seq_take _ ?_ rfl (Or.inl ⟨by rfl, ?_⟩) ?_
        rotate_left
        · (intro w hSw; (try dsimp only at hSw); go_simp; (try with_reducible rfl))
        try simp only [Act.put, List.setIfInBounds_toArray, List.set_cons_zero, List.set_cons_succ]
        refine seq_take _ ?_ rfl (Or.inl ⟨by rfl, ?_⟩) ?_
        rotate_left
        · (intro w hSw; (try dsimp only at hSw); go_simp; (try with_reducible rfl))
        try simp only [Act.put, List.setIfInBounds_toArray, List.set_cons_zero, List.set_cons_succ]
        refine seq_take _ ?_ rfl (Or.inl ⟨by rfl, ?_⟩) ?_
        rotate_left
        · (intro w hSw; (try dsimp only at hSw); go_simp; (try with_reducible rfl))
        try simp only [Act.put, List.setIfInBounds_toArray, List.set_cons_zero, List.set_cons_succ]
        refine seq_take _ ?_ rfl (Or.inl ⟨by rfl, ?_⟩) ?_
        rotate_left
        · (intro w hSw; (try dsimp only at hSw); go_simp; (try with_reducible rfl))
        try simp only [Act.put, List.setIfInBounds_toArray, List.set_cons_zero, List.set_cons_succ]
        refine seq_one _ rfl fun K hK => ?_
        go_simp
        (with_reducible refine (qvalid_any gn_r An_r nn_r cn_r gd_r Ad_r nd_r cd_r _ (LR.out _ (B.trans (Below.mono Dp2 B.size))).1 (LR.out _ (B.trans (Below.mono Dp2 B.size))).2 H4.out.1 H4.out.2 v HV.out).mono ?_)
        rintro e vp3 ⟨rfl, bp3⟩
        have Dp3 : Below W8.heap.size W8 vp3 := Below.trans Dp2 (bp3.mono (Below.size Dp2))
        go_wp2_with fail
        refine hK.out _ _ (HS.out _ Dp3) (fun hHeld => ?_)
        clear hK K hHeld
        try simp only [Act.put, List.setIfInBounds_toArray, List.set_cons_zero, List.set_cons_succ]
        refine seq_one _ rfl fun K hK => ?_
        go_simp
        (with_reducible refine (rqvalid_any gn_r An_r nn_r cn_r gd_r Ad_r nd_r cd_r _ (LR.out _ (B.trans (Below.mono Dp3 B.size))).1 (LR.out _ (B.trans (Below.mono Dp3 B.size))).2 H4.out.1 H4.out.2 v HV.out).mono ?_)
        rintro e vp4 ⟨rfl, bp4⟩
        have Dp4 : Below W8.heap.size W8 vp4 := Below.trans Dp3 (bp4.mono (Below.size Dp3))
        go_wp2_with fail
        refine hK.out _ _ (HS.out _ Dp4) (fun hHeld => ?_)
        clear hK K hHeld
        try simp only [Act.put, List.setIfInBounds_toArray, List.set_cons_zero, List.set_cons_succ]
        refine seq_take _ ?_ rfl (Or.inl ⟨by rfl, ?_⟩) ?_
        rotate_left
        · (intro w hSw; (try dsimp only at hSw); go_simp; (try with_reducible rfl))
        try simp only [Act.put, List.setIfInBounds_toArray, List.set_cons_zero, List.set_cons_succ]
        refine seq_take _ ?_ rfl (Or.inl ⟨by rfl, ?_⟩) ?_
        rotate_left
        · (intro w hSw; (try dsimp only at hSw); go_simp; (try with_reducible rfl))
        try simp only [Act.put, List.setIfInBounds_toArray, List.set_cons_zero, List.set_cons_succ]
        refine seq_take _ ?_ rfl (Or.inl ⟨by rfl, ?_⟩) ?_
        rotate_left
        · (intro w hSw; (try dsimp only at hSw); go_simp; (try with_reducible rfl))
        try simp only [Act.put, List.setIfInBounds_toArray, List.set_cons_zero, List.set_cons_succ]
        refine seq_take _ ?_ rfl (Or.inl ⟨by rfl, ?_⟩) ?_
        rotate_left
        · (intro w hSw; (try dsimp only at hSw); go_simp; (try with_reducible rfl))
        try simp only [Act.put, List.setIfInBounds_toArray, List.set_cons_zero, List.set_cons_succ]
        refine seq_one _ rfl fun K hK => ?_
        go_simp
        (with_reducible refine (qvalid_z gn_a An_a nn_a cn_a gd_a Ad_a nd_a cd_a _ (Ia.below Dp4) Za).mono ?_)
        rintro e vp5 ⟨rfl, bp5⟩
        have Dp5 : Below W8.heap.size W8 vp5 := Below.trans Dp4 (bp5.mono (Below.size Dp4))
        go_wp2_with fail
        refine hK.out _ _ (HS.out _ Dp5) (fun hHeld => ?_)
        clear hK K hHeld
        try simp only [Act.put, List.setIfInBounds_toArray, List.set_cons_zero, List.set_cons_succ]
        refine seq_take _ ?_ rfl (Or.inl ⟨by rfl, ?_⟩) ?_
        rotate_left
        · (intro w hSw; (try dsimp only at hSw); go_simp; (try with_reducible rfl))
        try simp only [Act.put, List.setIfInBounds_toArray, List.set_cons_zero, List.set_cons_succ]
        refine seq_take _ ?_ rfl (Or.inl ⟨by rfl, ?_⟩) ?_
        rotate_left
        · (intro w hSw; (try dsimp only at hSw); go_simp; (try with_reducible rfl))
        try simp only [Act.put, List.setIfInBounds_toArray, List.set_cons_zero, List.set_cons_succ]
        refine NoPanic.normal ?_
        go_wp2_with fail
        go_meet
        exact ⟨by simp, Dp5⟩
    case' neg =>
      as_aux_lemma =>
        obtain ⟨rfl, gn_5, An_5, nn_5, cn_5, gd_5, Ad_5, nd_5, cd_5, S5, I5⟩ := E5.out.more hb0
        obtain ⟨rfl, gn_6, An_6, nn_6, cn_6, gd_6, Ad_6, nd_6, cd_6, S6, I6⟩ := E6.out.more hb0
        obtain ⟨rfl, gn_7, An_7, nn_7, cn_7, gd_7, Ad_7, nd_7, cd_7, S7, I7⟩ := E7.out.more hb0
        obtain ⟨rfl, gn_8, An_8, nn_8, cn_8, gd_8, Ad_8, nd_8, cd_8, S8, I8⟩ := E8.out.more hb0
        have HS : Hid (∀ V, Below W8.heap.size W8 V → (V.cell? ⟨g5, 0, none⟩ = some (.bool gn_5) ∧ V.cell? ⟨g5, 1, none⟩ = some (.slice An_5 nn_5 cn_5) ∧ V.cell? ⟨g5, 2, none⟩ = some (.bool gd_5) ∧ V.cell? ⟨g5, 3, none⟩ = some (.slice Ad_5 nd_5 cd_5)) ∧ (V.cell? ⟨g6, 0, none⟩ = some (.bool gn_6) ∧ V.cell? ⟨g6, 1, none⟩ = some (.slice An_6 nn_6 cn_6) ∧ V.cell? ⟨g6, 2, none⟩ = some (.bool gd_6) ∧ V.cell? ⟨g6, 3, none⟩ = some (.slice Ad_6 nd_6 cd_6)) ∧ (V.cell? ⟨g7, 0, none⟩ = some (.bool gn_7) ∧ V.cell? ⟨g7, 1, none⟩ = some (.slice An_7 nn_7 cn_7) ∧ V.cell? ⟨g7, 2, none⟩ = some (.bool gd_7) ∧ V.cell? ⟨g7, 3, none⟩ = some (.slice Ad_7 nd_7 cd_7)) ∧ (V.cell? ⟨g8, 0, none⟩ = some (.bool gn_8) ∧ V.cell? ⟨g8, 1, none⟩ = some (.slice An_8 nn_8 cn_8) ∧ V.cell? ⟨g8, 2, none⟩ = some (.bool gd_8) ∧ V.cell? ⟨g8, 3, none⟩ = some (.slice Ad_8 nd_8 cd_8)) ∧ (V.cell? ⟨w.heap.size + 1 + 1, 0, none⟩ = some (.bool gn_r) ∧ V.cell? ⟨w.heap.size + 1 + 1, 1, none⟩ = some (.slice An_r nn_r cn_r) ∧ V.cell? ⟨w.heap.size + 1 + 1, 2, none⟩ = some (.bool gd_r) ∧ V.cell? ⟨w.heap.size + 1 + 1, 3, none⟩ = some (.slice Ad_r nd_r cd_r)) ∧ (V.cell? ⟨ga, 0, none⟩ = some (.bool gn_a) ∧ V.cell? ⟨ga, 1, none⟩ = some (.slice An_a nn_a cn_a) ∧ V.cell? ⟨ga, 2, none⟩ = some (.bool gd_a) ∧ V.cell? ⟨ga, 3, none⟩ = some (.slice Ad_a nd_a cd_a))) := fun V hV => ⟨(S5.after hV).cells, (S6.after hV).cells, (S7.after hV).cells, (S8.after hV).cells, (Sr.after hV).cells, (Sa.after hV).cells⟩
        have Dp0 : Below W8.heap.size W8 W8.drew := (Below.refl _ _).drew
        refine wp_region_seq (.pre [(0, true), (1, true), (2, false), (3, true), (4, true), (5, true), (6, true), (7, true), (8, true), (9, true), (10, true), (11, true), (12, false), (13, true), (14, true), (15, true), (16, true), (17, true), (18, true), (19, true), (20, true), (21, true), (23, true), (22, false), (24, false)] (.pre [(25, true), (26, true), (27, true), (28, true), (29, false), (30, true), (31, true)] .done)) (fun W => (W.cell? ⟨g5, 0, none⟩ = some (.bool gn_5) ∧ W.cell? ⟨g5, 1, none⟩ = some (.slice An_5 nn_5 cn_5) ∧ W.cell? ⟨g5, 2, none⟩ = some (.bool gd_5) ∧ W.cell? ⟨g5, 3, none⟩ = some (.slice Ad_5 nd_5 cd_5)) ∧ (W.cell? ⟨g6, 0, none⟩ = some (.bool gn_6) ∧ W.cell? ⟨g6, 1, none⟩ = some (.slice An_6 nn_6 cn_6) ∧ W.cell? ⟨g6, 2, none⟩ = some (.bool gd_6) ∧ W.cell? ⟨g6, 3, none⟩ = some (.slice Ad_6 nd_6 cd_6)) ∧ (W.cell? ⟨g7, 0, none⟩ = some (.bool gn_7) ∧ W.cell? ⟨g7, 1, none⟩ = some (.slice An_7 nn_7 cn_7) ∧ W.cell? ⟨g7, 2, none⟩ = some (.bool gd_7) ∧ W.cell? ⟨g7, 3, none⟩ = some (.slice Ad_7 nd_7 cd_7)) ∧ (W.cell? ⟨g8, 0, none⟩ = some (.bool gn_8) ∧ W.cell? ⟨g8, 1, none⟩ = some (.slice An_8 nn_8 cn_8) ∧ W.cell? ⟨g8, 2, none⟩ = some (.bool gd_8) ∧ W.cell? ⟨g8, 3, none⟩ = some (.slice Ad_8 nd_8 cd_8)) ∧ (W.cell? ⟨w.heap.size + 1 + 1, 0, none⟩ = some (.bool gn_r) ∧ W.cell? ⟨w.heap.size + 1 + 1, 1, none⟩ = some (.slice An_r nn_r cn_r) ∧ W.cell? ⟨w.heap.size + 1 + 1, 2, none⟩ = some (.bool gd_r) ∧ W.cell? ⟨w.heap.size + 1 + 1, 3, none⟩ = some (.slice Ad_r nd_r cd_r)) ∧ (W.cell? ⟨ga, 0, none⟩ = some (.bool gn_a) ∧ W.cell? ⟨ga, 1, none⟩ = some (.slice An_a nn_a cn_a) ∧ W.cell? ⟨ga, 2, none⟩ = some (.bool gd_a) ∧ W.cell? ⟨ga, 3, none⟩ = some (.slice Ad_a nd_a cd_a))) (by kernel_rfl) (by kernel_rfl) ?_ (by kernel_rfl) (HS.out _ Dp0) ?_
        · refine chk_pre _ _ _ (by as_aux_lemma => kernel_rfl) ?_
          refine chk_pre _ _ _ (by as_aux_lemma => kernel_rfl) ?_
          exact (by as_aux_lemma => kernel_rfl)
        refine seq_take _ ?_ rfl (Or.inl ⟨by rfl, ?_⟩) ?_
        rotate_left
        · (intro w hSw; (try dsimp only at hSw); go_simp; (try with_reducible rfl))
        try simp only [Act.put, List.setIfInBounds_toArray, List.set_cons_zero, List.set_cons_succ]
        refine seq_take _ ?_ rfl (Or.inl ⟨by rfl, ?_⟩) ?_
        rotate_left
        · (intro w hSw; (try dsimp only at hSw); go_simp; (try with_reducible rfl))
        try simp only [Act.put, List.setIfInBounds_toArray, List.set_cons_zero, List.set_cons_succ]
        refine seq_one _ rfl fun K hK => ?_
        go_simp
        (with_reducible refine (rqsame_z gn_5 An_5 nn_5 cn_5 gd_5 Ad_5 nd_5 cd_5 gn_6 An_6 nn_6 cn_6 gd_6 Ad_6 nd_6 cd_6 _ (I5.below Dp0) (I6.below Dp0) rfl).mono ?_)
        rintro e vp1 ⟨rfl, bp1⟩
        have Dp1 : Below W8.heap.size W8 vp1 := Below.trans Dp0 (bp1.mono (Below.size Dp0))
        go_wp2_with fail
        refine hK.out _ _ (HS.out _ Dp1) (fun hHeld => ?_)
        clear hK K hHeld
        try simp only [Act.put, List.setIfInBounds_toArray, List.set_cons_zero, List.set_cons_succ]
        refine seq_take _ ?_ rfl (Or.inl ⟨by rfl, ?_⟩) ?_
        rotate_left
        · (intro w hSw; (try dsimp only at hSw); go_simp; (try with_reducible rfl))
        try simp only [Act.put, List.setIfInBounds_toArray, List.set_cons_zero, List.set_cons_succ]
        refine seq_take _ ?_ rfl (Or.inl ⟨by rfl, ?_⟩) ?_
        rotate_left
        · (intro w hSw; (try dsimp only at hSw); go_simp; (try with_reducible rfl))
        try simp only [Act.put, List.setIfInBounds_toArray, List.set_cons_zero, List.set_cons_succ]
        refine seq_take _ ?_ rfl (Or.inl ⟨by rfl, ?_⟩) ?_
        rotate_left
        · (intro w hSw; (try dsimp only at hSw); go_simp; (try with_reducible rfl))
        try simp only [Act.put, List.setIfInBounds_toArray, List.set_cons_zero, List.set_cons_succ]
        refine seq_take _ ?_ rfl (Or.inl ⟨by rfl, ?_⟩) ?_
        rotate_left
        · (intro w hSw; (try dsimp only at hSw); go_simp; (try with_reducible rfl))
        try simp only [Act.put, List.setIfInBounds_toArray, List.set_cons_zero, List.set_cons_succ]
        refine seq_take _ ?_ rfl (Or.inl ⟨by rfl, ?_⟩) ?_
        rotate_left
        · (intro w hSw; (try dsimp only at hSw); go_simp; (try with_reducible rfl))
        try simp only [Act.put, List.setIfInBounds_toArray, List.set_cons_zero, List.set_cons_succ]
        refine seq_take _ ?_ rfl (Or.inl ⟨by rfl, ?_⟩) ?_
        rotate_left
        · (intro w hSw; (try dsimp only at hSw); go_simp; (try with_reducible rfl))
        try simp only [Act.put, List.setIfInBounds_toArray, List.set_cons_zero, List.set_cons_succ]
        refine seq_take _ ?_ rfl (Or.inl ⟨by rfl, ?_⟩) ?_
        rotate_left
        · (intro w hSw; (try dsimp only at hSw); go_simp; (try with_reducible rfl))
        try simp only [Act.put, List.setIfInBounds_toArray, List.set_cons_zero, List.set_cons_succ]
        refine seq_take _ ?_ rfl (Or.inl ⟨by rfl, ?_⟩) ?_
        rotate_left
        · (intro w hSw; (try dsimp only at hSw); go_simp; (try with_reducible rfl))
        try simp only [Act.put, List.setIfInBounds_toArray, List.set_cons_zero, List.set_cons_succ]
        refine seq_take _ ?_ rfl (Or.inl ⟨by rfl, ?_⟩) ?_
        rotate_left
        · (intro w hSw; (try dsimp only at hSw); go_simp; (try with_reducible rfl))
        try simp only [Act.put, List.setIfInBounds_toArray, List.set_cons_zero, List.set_cons_succ]
        refine seq_one _ rfl fun K hK => ?_
        go_simp
        (with_reducible refine (rqsame_z gn_7 An_7 nn_7 cn_7 gd_7 Ad_7 nd_7 cd_7 gn_8 An_8 nn_8 cn_8 gd_8 Ad_8 nd_8 cd_8 _ (I7.below Dp1) (I8.below Dp1) rfl).mono ?_)
        rintro e vp2 ⟨rfl, bp2⟩
        have Dp2 : Below W8.heap.size W8 vp2 := Below.trans Dp1 (bp2.mono (Below.size Dp1))
        go_wp2_with fail
        refine hK.out _ _ (HS.out _ Dp2) (fun hHeld => ?_)
        clear hK K hHeld
        try simp only [Act.put, List.setIfInBounds_toArray, List.set_cons_zero, List.set_cons_succ]
        refine seq_take _ ?_ rfl (Or.inl ⟨by rfl, ?_⟩) ?_
        rotate_left
        · (intro w hSw; (try dsimp only at hSw); go_simp; (try with_reducible rfl))
        try simp only [Act.put, List.setIfInBounds_toArray, List.set_cons_zero, List.set_cons_succ]
        refine seq_take _ ?_ rfl (Or.inl ⟨by rfl, ?_⟩) ?_
        rotate_left
        · (intro w hSw; (try dsimp only at hSw); go_simp; (try with_reducible rfl))
        try simp only [Act.put, List.setIfInBounds_toArray, List.set_cons_zero, List.set_cons_succ]
        refine seq_take _ ?_ rfl (Or.inl ⟨by rfl, ?_⟩) ?_
        rotate_left
        · (intro w hSw; (try dsimp only at hSw); go_simp; (try with_reducible rfl))
        try simp only [Act.put, List.setIfInBounds_toArray, List.set_cons_zero, List.set_cons_succ]
        refine seq_take _ ?_ rfl (Or.inl ⟨by rfl, ?_⟩) ?_
        rotate_left
        · (intro w hSw; (try dsimp only at hSw); go_simp; (try with_reducible rfl))
        try simp only [Act.put, List.setIfInBounds_toArray, List.set_cons_zero, List.set_cons_succ]
        refine seq_take _ ?_ rfl (Or.inl ⟨by rfl, ?_⟩) ?_
        rotate_left
        · (intro w hSw; (try dsimp only at hSw); go_simp; (try with_reducible rfl))
        try simp only [Act.put, List.setIfInBounds_toArray, List.set_cons_zero, List.set_cons_succ]
        refine seq_take _ ?_ rfl (Or.inl ⟨by rfl, ?_⟩) ?_
        rotate_left
        · (intro w hSw; (try dsimp only at hSw); go_simp; (try with_reducible rfl))
        try simp only [Act.put, List.setIfInBounds_toArray, List.set_cons_zero, List.set_cons_succ]
        refine seq_take _ ?_ rfl (Or.inl ⟨by rfl, ?_⟩) ?_
        rotate_left
        · (intro w hSw; (try dsimp only at hSw); go_simp; (try with_reducible rfl))
        try simp only [Act.put, List.setIfInBounds_toArray, List.set_cons_zero, List.set_cons_succ]
        refine seq_take _ ?_ rfl (Or.inl ⟨by rfl, ?_⟩) ?_
        rotate_left
        · (intro w hSw; (try dsimp only at hSw); go_simp; (try with_reducible rfl))
        try simp only [Act.put, List.setIfInBounds_toArray, List.set_cons_zero, List.set_cons_succ]
        refine seq_take _ ?_ rfl (Or.inl ⟨by rfl, ?_⟩) ?_
        rotate_left
        · (intro w hSw; (try dsimp only at hSw); go_simp; (try with_reducible rfl))
        try simp only [Act.put, List.setIfInBounds_toArray, List.set_cons_zero, List.set_cons_succ]
        refine seq_take _ ?_ rfl (Or.inl ⟨by rfl, ?_⟩) ?_
        rotate_left
        · (intro w hSw; (try dsimp only at hSw); go_simp; (try with_reducible rfl))
        try simp only [Act.put, List.setIfInBounds_toArray, List.set_cons_zero, List.set_cons_succ]
        refine seq_one _ rfl fun K hK => ?_
        go_simp
        (with_reducible refine (qvalid_any gn_r An_r nn_r cn_r gd_r Ad_r nd_r cd_r _ (LR.out _ (B.trans (Below.mono Dp2 B.size))).1 (LR.out _ (B.trans (Below.mono Dp2 B.size))).2 H4.out.1 H4.out.2 v HV.out).mono ?_)
        rintro e vp3 ⟨rfl, bp3⟩
        have Dp3 : Below W8.heap.size W8 vp3 := Below.trans Dp2 (bp3.mono (Below.size Dp2))
        go_wp2_with fail
        refine hK.out _ _ (HS.out _ Dp3) (fun hHeld => ?_)
        clear hK K hHeld
        try simp only [Act.put, List.setIfInBounds_toArray, List.set_cons_zero, List.set_cons_succ]
        refine seq_one _ rfl fun K hK => ?_
        go_simp
        (with_reducible refine (rqvalid_any gn_r An_r nn_r cn_r gd_r Ad_r nd_r cd_r _ (LR.out _ (B.trans (Below.mono Dp3 B.size))).1 (LR.out _ (B.trans (Below.mono Dp3 B.size))).2 H4.out.1 H4.out.2 v HV.out).mono ?_)
        rintro e vp4 ⟨rfl, bp4⟩
        have Dp4 : Below W8.heap.size W8 vp4 := Below.trans Dp3 (bp4.mono (Below.size Dp3))
        go_wp2_with fail
        refine hK.out _ _ (HS.out _ Dp4) (fun hHeld => ?_)
        clear hK K hHeld
        try simp only [Act.put, List.setIfInBounds_toArray, List.set_cons_zero, List.set_cons_succ]
        refine seq_take _ ?_ rfl (Or.inl ⟨by rfl, ?_⟩) ?_
        rotate_left
        · (intro w hSw; (try dsimp only at hSw); go_simp; (try with_reducible rfl))
        try simp only [Act.put, List.setIfInBounds_toArray, List.set_cons_zero, List.set_cons_succ]
        refine seq_take _ ?_ rfl (Or.inl ⟨by rfl, ?_⟩) ?_
        rotate_left
        · (intro w hSw; (try dsimp only at hSw); go_simp; (try with_reducible rfl))
        try simp only [Act.put, List.setIfInBounds_toArray, List.set_cons_zero, List.set_cons_succ]
        refine seq_take _ ?_ rfl (Or.inl ⟨by rfl, ?_⟩) ?_
        rotate_left
        · (intro w hSw; (try dsimp only at hSw); go_simp; (try with_reducible rfl))
        try simp only [Act.put, List.setIfInBounds_toArray, List.set_cons_zero, List.set_cons_succ]
        refine seq_take _ ?_ rfl (Or.inl ⟨by rfl, ?_⟩) ?_
        rotate_left
        · (intro w hSw; (try dsimp only at hSw); go_simp; (try with_reducible rfl))
        try simp only [Act.put, List.setIfInBounds_toArray, List.set_cons_zero, List.set_cons_succ]
        refine seq_one _ rfl fun K hK => ?_
        go_simp
        (with_reducible refine (qvalid_z gn_a An_a nn_a cn_a gd_a Ad_a nd_a cd_a _ (Ia.below Dp4) Za).mono ?_)
        rintro e vp5 ⟨rfl, bp5⟩
        have Dp5 : Below W8.heap.size W8 vp5 := Below.trans Dp4 (bp5.mono (Below.size Dp4))
        go_wp2_with fail
        refine hK.out _ _ (HS.out _ Dp5) (fun hHeld => ?_)
        clear hK K hHeld
        try simp only [Act.put, List.setIfInBounds_toArray, List.set_cons_zero, List.set_cons_succ]
        refine seq_take _ ?_ rfl (Or.inl ⟨by rfl, ?_⟩) ?_
        rotate_left
        · (intro w hSw; (try dsimp only at hSw); go_simp; (try with_reducible rfl))
        try simp only [Act.put, List.setIfInBounds_toArray, List.set_cons_zero, List.set_cons_succ]
        refine seq_take _ ?_ rfl (Or.inl ⟨by rfl, ?_⟩) ?_
        rotate_left
        · (intro w hSw; (try dsimp only at hSw); go_simp; (try with_reducible rfl))
        try simp only [Act.put, List.setIfInBounds_toArray, List.set_cons_zero, List.set_cons_succ]
        refine NoPanic.normal ?_
        go_wp2_with fail
        go_meet
        exact ⟨by simp, Dp5⟩
  case rest =>
  obtain ⟨rfl, DC⟩ := hcut
  obtain ⟨W9, rfl⟩ : ∃ x : World, x = wc := ⟨_, rfl⟩
  clear E5 E6 E7 E8
  clear Sr LR H4
  replace Sa := Sa.after DC
  replace Ia := Ia.below DC
  replace Sb := Sb.after DC
  replace Ib := Ib.below DC
  replace B := B.trans (DC.mono B.size)
  clear DC
  go_upto_region 11 with (fail)
  go_cut [18] (fun s wx => s = .bool true ∧ Below W9.heap.size W9 wx)
  case first =>
    as_aux_lemma =>
      have HS : Hid (∀ V, Below W9.heap.size W9 V → (V.cell? ⟨ga, 0, none⟩ = some (.bool gn_a) ∧ V.cell? ⟨ga, 1, none⟩ = some (.slice An_a nn_a cn_a) ∧ V.cell? ⟨ga, 2, none⟩ = some (.bool gd_a) ∧ V.cell? ⟨ga, 3, none⟩ = some (.slice Ad_a nd_a cd_a)) ∧ (V.cell? ⟨gb, 0, none⟩ = some (.bool gn_b) ∧ V.cell? ⟨gb, 1, none⟩ = some (.slice An_b nn_b cn_b) ∧ V.cell? ⟨gb, 2, none⟩ = some (.bool gd_b) ∧ V.cell? ⟨gb, 3, none⟩ = some (.slice Ad_b nd_b cd_b))) := fun V hV => ⟨(Sa.after hV).cells, (Sb.after hV).cells⟩
      have Zp1 : RSz 7 (a + b) := RSz.add Za Zb (by decide)
      have Zp2 : RSz 7 (a + b) := RSz.add Za Zb (by decide)
      have Zp4 : RSz 7 (a - b) := RSz.sub Za Zb (by decide)
      have Zp5 : RSz 7 (a - b) := RSz.sub Za Zb (by decide)
      have Zp7 : RSz 6 (a * b) := RSz.mul Za Zb (by decide)
      have Zp8 : RSz 6 (a * b) := RSz.mul Za Zb (by decide)
      have Zp10 : RSz 3 (-a) := RSz.neg Za
      have Zp11 : RSz 3 (-a) := RSz.neg Za
      have Dp0 : Below W9.heap.size W9 W9.drew := (Below.refl _ _).drew
      refine wp_region_seq (.pre [(0, true), (1, true), (3, true), (4, true), (2, false), (5, false), (6, false), (7, true), (8, true), (9, true), (11, true), (12, true), (10, false), (13, false), (14, false), (15, true), (16, true), (17, true), (18, true), (20, true), (21, true), (19, false), (22, false), (23, false), (24, true)] (.pre [(25, true), (26, true), (28, true), (27, false), (29, false), (30, false), (31, true), (32, true), (33, true), (34, true), (36, true), (37, true), (35, false), (38, false), (39, false), (40, true), (41, true)] .done)) (fun W => (W.cell? ⟨ga, 0, none⟩ = some (.bool gn_a) ∧ W.cell? ⟨ga, 1, none⟩ = some (.slice An_a nn_a cn_a) ∧ W.cell? ⟨ga, 2, none⟩ = some (.bool gd_a) ∧ W.cell? ⟨ga, 3, none⟩ = some (.slice Ad_a nd_a cd_a)) ∧ (W.cell? ⟨gb, 0, none⟩ = some (.bool gn_b) ∧ W.cell? ⟨gb, 1, none⟩ = some (.slice An_b nn_b cn_b) ∧ W.cell? ⟨gb, 2, none⟩ = some (.bool gd_b) ∧ W.cell? ⟨gb, 3, none⟩ = some (.slice Ad_b nd_b cd_b))) (by kernel_rfl) (by kernel_rfl) ?_ (by kernel_rfl) (HS.out _ Dp0) ?_
      · refine chk_pre _ _ _ (by as_aux_lemma => kernel_rfl) ?_
        refine chk_pre _ _ _ (by as_aux_lemma => kernel_rfl) ?_
        exact (by as_aux_lemma => kernel_rfl)
      refine seq_take _ ?_ rfl (Or.inl ⟨by rfl, ?_⟩) ?_
      rotate_left
      · (intro w hSw; (try dsimp only at hSw); go_simp; (try with_reducible rfl))
      try simp only [Act.put, List.setIfInBounds_toArray, List.set_cons_zero, List.set_cons_succ]
      refine seq_take _ ?_ rfl (Or.inl ⟨by rfl, ?_⟩) ?_
      rotate_left
      · (intro w hSw; (try dsimp only at hSw); go_simp; (try with_reducible rfl))
      try simp only [Act.put, List.setIfInBounds_toArray, List.set_cons_zero, List.set_cons_succ]
      refine seq_take _ ?_ rfl (Or.inl ⟨by rfl, ?_⟩) ?_
      rotate_left
      · (intro w hSw; (try dsimp only at hSw); go_simp; (try with_reducible rfl))
      try simp only [Act.put, List.setIfInBounds_toArray, List.set_cons_zero, List.set_cons_succ]
      refine seq_take _ ?_ rfl (Or.inl ⟨by rfl, ?_⟩) ?_
      rotate_left
      · (intro w hSw; (try dsimp only at hSw); go_simp; (try with_reducible rfl))
      try simp only [Act.put, List.setIfInBounds_toArray, List.set_cons_zero, List.set_cons_succ]
      refine seq_one _ rfl fun K hK => ?_
      go_simp
      (with_reducible refine (qadd_z gn_a An_a nn_a cn_a gd_a Ad_a nd_a cd_a gn_b An_b nn_b cn_b gd_b Ad_b nd_b cd_b _ (Ia.below Dp0) (Ib.below Dp0) Za Zb (by decide)).mono ?_)
      rintro e vp1 ⟨gnp1, Anp1, nnp1, cnp1, gdp1, Adp1, ndp1, cdp1, rfl, ip1, bp1⟩
      have Dp1 : Below W9.heap.size W9 vp1 := Below.trans Dp0 (bp1.mono (Below.size Dp0))
      go_wp2_with fail
      refine hK.out _ _ (HS.out _ Dp1) (fun hHeld => ?_)
      clear hK K hHeld
      try simp only [Act.put, List.setIfInBounds_toArray, List.set_cons_zero, List.set_cons_succ]
      refine seq_one _ rfl fun K hK => ?_
      go_simp
      (with_reducible refine (rqadd_z gn_a An_a nn_a cn_a gd_a Ad_a nd_a cd_a gn_b An_b nn_b cn_b gd_b Ad_b nd_b cd_b _ (Ia.below Dp1) (Ib.below Dp1) Za Zb (by decide)).mono ?_)
      rintro e vp2 ⟨gnp2, Anp2, nnp2, cnp2, gdp2, Adp2, ndp2, cdp2, rfl, ip2, bp2⟩
      have Dp2 : Below W9.heap.size W9 vp2 := Below.trans Dp1 (bp2.mono (Below.size Dp1))
      go_wp2_with fail
      refine hK.out _ _ (HS.out _ Dp2) (fun hHeld => ?_)
      clear hK K hHeld
      try simp only [Act.put, List.setIfInBounds_toArray, List.set_cons_zero, List.set_cons_succ]
      refine seq_one _ rfl fun K hK => ?_
      go_simp
      (with_reducible refine (rqsame_z gnp1 Anp1 nnp1 cnp1 gdp1 Adp1 ndp1 cdp1 gnp2 Anp2 nnp2 cnp2 gdp2 Adp2 ndp2 cdp2 _ (ip1.below bp2) ip2 rfl).mono ?_)
      rintro e vp3 ⟨rfl, bp3⟩
      have Dp3 : Below W9.heap.size W9 vp3 := Below.trans Dp2 (bp3.mono (Below.size Dp2))
      go_wp2_with fail
      refine hK.out _ _ (HS.out _ Dp3) (fun hHeld => ?_)
      clear hK K hHeld
      try simp only [Act.put, List.setIfInBounds_toArray, List.set_cons_zero, List.set_cons_succ]
      refine seq_take _ ?_ rfl (Or.inl ⟨by rfl, ?_⟩) ?_
      rotate_left
      · (intro w hSw; (try dsimp only at hSw); go_simp; (try with_reducible rfl))
      try simp only [Act.put, List.setIfInBounds_toArray, List.set_cons_zero, List.set_cons_succ]
      refine seq_take _ ?_ rfl (Or.inl ⟨by rfl, ?_⟩) ?_
      rotate_left
      · (intro w hSw; (try dsimp only at hSw); go_simp; (try with_reducible rfl))
      try simp only [Act.put, List.setIfInBounds_toArray, List.set_cons_zero, List.set_cons_succ]
      refine seq_take _ ?_ rfl (Or.inl ⟨by rfl, ?_⟩) ?_
      rotate_left
      · (intro w hSw; (try dsimp only at hSw); go_simp; (try with_reducible rfl))
      try simp only [Act.put, List.setIfInBounds_toArray, List.set_cons_zero, List.set_cons_succ]
      refine seq_take _ ?_ rfl (Or.inl ⟨by rfl, ?_⟩) ?_
      rotate_left
      · (intro w hSw; (try dsimp only at hSw); go_simp; (try with_reducible rfl))
      try simp only [Act.put, List.setIfInBounds_toArray, List.set_cons_zero, List.set_cons_succ]
      refine seq_take _ ?_ rfl (Or.inl ⟨by rfl, ?_⟩) ?_
      rotate_left
      · (intro w hSw; (try dsimp only at hSw); go_simp; (try with_reducible rfl))
      try simp only [Act.put, List.setIfInBounds_toArray, List.set_cons_zero, List.set_cons_succ]
      refine seq_one _ rfl fun K hK => ?_
      go_simp
      (with_reducible refine (qsub_z gn_a An_a nn_a cn_a gd_a Ad_a nd_a cd_a gn_b An_b nn_b cn_b gd_b Ad_b nd_b cd_b _ (Ia.below Dp3) (Ib.below Dp3) Za Zb (by decide)).mono ?_)
      rintro e vp4 ⟨gnp4, Anp4, nnp4, cnp4, gdp4, Adp4, ndp4, cdp4, rfl, ip4, bp4⟩
      have Dp4 : Below W9.heap.size W9 vp4 := Below.trans Dp3 (bp4.mono (Below.size Dp3))
      go_wp2_with fail
      refine hK.out _ _ (HS.out _ Dp4) (fun hHeld => ?_)
      clear hK K hHeld
      try simp only [Act.put, List.setIfInBounds_toArray, List.set_cons_zero, List.set_cons_succ]
      refine seq_one _ rfl fun K hK => ?_
      go_simp
      (with_reducible refine (rqsub_z gn_a An_a nn_a cn_a gd_a Ad_a nd_a cd_a gn_b An_b nn_b cn_b gd_b Ad_b nd_b cd_b _ (Ia.below Dp4) (Ib.below Dp4) Za Zb (by decide)).mono ?_)
      rintro e vp5 ⟨gnp5, Anp5, nnp5, cnp5, gdp5, Adp5, ndp5, cdp5, rfl, ip5, bp5⟩
      have Dp5 : Below W9.heap.size W9 vp5 := Below.trans Dp4 (bp5.mono (Below.size Dp4))
      go_wp2_with fail
      refine hK.out _ _ (HS.out _ Dp5) (fun hHeld => ?_)
      clear hK K hHeld
      try simp only [Act.put, List.setIfInBounds_toArray, List.set_cons_zero, List.set_cons_succ]
      refine seq_one _ rfl fun K hK => ?_
      go_simp
      (with_reducible refine (rqsame_z gnp4 Anp4 nnp4 cnp4 gdp4 Adp4 ndp4 cdp4 gnp5 Anp5 nnp5 cnp5 gdp5 Adp5 ndp5 cdp5 _ (ip4.below bp5) ip5 rfl).mono ?_)
      rintro e vp6 ⟨rfl, bp6⟩
      have Dp6 : Below W9.heap.size W9 vp6 := Below.trans Dp5 (bp6.mono (Below.size Dp5))
      go_wp2_with fail
      refine hK.out _ _ (HS.out _ Dp6) (fun hHeld => ?_)
      clear hK K hHeld
      try simp only [Act.put, List.setIfInBounds_toArray, List.set_cons_zero, List.set_cons_succ]
      refine seq_take _ ?_ rfl (Or.inl ⟨by rfl, ?_⟩) ?_
      rotate_left
      · (intro w hSw; (try dsimp only at hSw); go_simp; (try with_reducible rfl))
      try simp only [Act.put, List.setIfInBounds_toArray, List.set_cons_zero, List.set_cons_succ]
      refine seq_take _ ?_ rfl (Or.inl ⟨by rfl, ?_⟩) ?_
      rotate_left
      · (intro w hSw; (try dsimp only at hSw); go_simp; (try with_reducible rfl))
      try simp only [Act.put, List.setIfInBounds_toArray, List.set_cons_zero, List.set_cons_succ]
      refine seq_take _ ?_ rfl (Or.inl ⟨by rfl, ?_⟩) ?_
      rotate_left
      · (intro w hSw; (try dsimp only at hSw); go_simp; (try with_reducible rfl))
      try simp only [Act.put, List.setIfInBounds_toArray, List.set_cons_zero, List.set_cons_succ]
      refine seq_take _ ?_ rfl (Or.inl ⟨by rfl, ?_⟩) ?_
      rotate_left
      · (intro w hSw; (try dsimp only at hSw); go_simp; (try with_reducible rfl))
      try simp only [Act.put, List.setIfInBounds_toArray, List.set_cons_zero, List.set_cons_succ]
      refine seq_take _ ?_ rfl (Or.inl ⟨by rfl, ?_⟩) ?_
      rotate_left
      · (intro w hSw; (try dsimp only at hSw); go_simp; (try with_reducible rfl))
      try simp only [Act.put, List.setIfInBounds_toArray, List.set_cons_zero, List.set_cons_succ]
      refine seq_take _ ?_ rfl (Or.inl ⟨by rfl, ?_⟩) ?_
      rotate_left
      · (intro w hSw; (try dsimp only at hSw); go_simp; (try with_reducible rfl))
      try simp only [Act.put, List.setIfInBounds_toArray, List.set_cons_zero, List.set_cons_succ]
      refine seq_one _ rfl fun K hK => ?_
      go_simp
      (with_reducible refine (qmul_z gn_a An_a nn_a cn_a gd_a Ad_a nd_a cd_a gn_b An_b nn_b cn_b gd_b Ad_b nd_b cd_b _ (Ia.below Dp6) (Ib.below Dp6) Za Zb (by decide)).mono ?_)
      rintro e vp7 ⟨gnp7, Anp7, nnp7, cnp7, gdp7, Adp7, ndp7, cdp7, rfl, ip7, bp7⟩
      have Dp7 : Below W9.heap.size W9 vp7 := Below.trans Dp6 (bp7.mono (Below.size Dp6))
      go_wp2_with fail
      refine hK.out _ _ (HS.out _ Dp7) (fun hHeld => ?_)
      clear hK K hHeld
      try simp only [Act.put, List.setIfInBounds_toArray, List.set_cons_zero, List.set_cons_succ]
      refine seq_one _ rfl fun K hK => ?_
      go_simp
      (with_reducible refine (rqmul_z gn_a An_a nn_a cn_a gd_a Ad_a nd_a cd_a gn_b An_b nn_b cn_b gd_b Ad_b nd_b cd_b _ (Ia.below Dp7) (Ib.below Dp7) Za Zb (by decide)).mono ?_)
      rintro e vp8 ⟨gnp8, Anp8, nnp8, cnp8, gdp8, Adp8, ndp8, cdp8, rfl, ip8, bp8⟩
      have Dp8 : Below W9.heap.size W9 vp8 := Below.trans Dp7 (bp8.mono (Below.size Dp7))
      go_wp2_with fail
      refine hK.out _ _ (HS.out _ Dp8) (fun hHeld => ?_)
      clear hK K hHeld
      try simp only [Act.put, List.setIfInBounds_toArray, List.set_cons_zero, List.set_cons_succ]
      refine seq_one _ rfl fun K hK => ?_
      go_simp
      (with_reducible refine (rqsame_z gnp7 Anp7 nnp7 cnp7 gdp7 Adp7 ndp7 cdp7 gnp8 Anp8 nnp8 cnp8 gdp8 Adp8 ndp8 cdp8 _ (ip7.below bp8) ip8 rfl).mono ?_)
      rintro e vp9 ⟨rfl, bp9⟩
      have Dp9 : Below W9.heap.size W9 vp9 := Below.trans Dp8 (bp9.mono (Below.size Dp8))
      go_wp2_with fail
      refine hK.out _ _ (HS.out _ Dp9) (fun hHeld => ?_)
      clear hK K hHeld
      try simp only [Act.put, List.setIfInBounds_toArray, List.set_cons_zero, List.set_cons_succ]
      refine seq_take _ ?_ rfl (Or.inl ⟨by rfl, ?_⟩) ?_
      rotate_left
      · (intro w hSw; (try dsimp only at hSw); go_simp; (try with_reducible rfl))
      try simp only [Act.put, List.setIfInBounds_toArray, List.set_cons_zero, List.set_cons_succ]
      refine seq_take _ ?_ rfl (Or.inl ⟨by rfl, ?_⟩) ?_
      rotate_left
      · (intro w hSw; (try dsimp only at hSw); go_simp; (try with_reducible rfl))
      try simp only [Act.put, List.setIfInBounds_toArray, List.set_cons_zero, List.set_cons_succ]
      refine seq_take _ ?_ rfl (Or.inl ⟨by rfl, ?_⟩) ?_
      rotate_left
      · (intro w hSw; (try dsimp only at hSw); go_simp; (try with_reducible rfl))
      try simp only [Act.put, List.setIfInBounds_toArray, List.set_cons_zero, List.set_cons_succ]
      refine seq_take _ ?_ rfl (Or.inl ⟨by rfl, ?_⟩) ?_
      rotate_left
      · (intro w hSw; (try dsimp only at hSw); go_simp; (try with_reducible rfl))
      try simp only [Act.put, List.setIfInBounds_toArray, List.set_cons_zero, List.set_cons_succ]
      refine seq_one _ rfl fun K hK => ?_
      go_simp
      (with_reducible refine (qneg_z gn_a An_a nn_a cn_a gd_a Ad_a nd_a cd_a _ (Ia.below Dp9) Za).mono ?_)
      rintro e vp10 ⟨gnp10, Anp10, nnp10, cnp10, gdp10, Adp10, ndp10, cdp10, rfl, ip10, bp10⟩
      have Dp10 : Below W9.heap.size W9 vp10 := Below.trans Dp9 (bp10.mono (Below.size Dp9))
      go_wp2_with fail
      refine hK.out _ _ (HS.out _ Dp10) (fun hHeld => ?_)
      clear hK K hHeld
      try simp only [Act.put, List.setIfInBounds_toArray, List.set_cons_zero, List.set_cons_succ]
      refine seq_one _ rfl fun K hK => ?_
      go_simp
      (with_reducible refine (rqneg_z gn_a An_a nn_a cn_a gd_a Ad_a nd_a cd_a _ (Ia.below Dp10) Za).mono ?_)
      rintro e vp11 ⟨gnp11, Anp11, nnp11, cnp11, gdp11, Adp11, ndp11, cdp11, rfl, ip11, bp11⟩
      have Dp11 : Below W9.heap.size W9 vp11 := Below.trans Dp10 (bp11.mono (Below.size Dp10))
      go_wp2_with fail
      refine hK.out _ _ (HS.out _ Dp11) (fun hHeld => ?_)
      clear hK K hHeld
      try simp only [Act.put, List.setIfInBounds_toArray, List.set_cons_zero, List.set_cons_succ]
      refine seq_one _ rfl fun K hK => ?_
      go_simp
      (with_reducible refine (rqsame_z gnp10 Anp10 nnp10 cnp10 gdp10 Adp10 ndp10 cdp10 gnp11 Anp11 nnp11 cnp11 gdp11 Adp11 ndp11 cdp11 _ (ip10.below bp11) ip11 rfl).mono ?_)
      rintro e vp12 ⟨rfl, bp12⟩
      have Dp12 : Below W9.heap.size W9 vp12 := Below.trans Dp11 (bp12.mono (Below.size Dp11))
      go_wp2_with fail
      refine hK.out _ _ (HS.out _ Dp12) (fun hHeld => ?_)
      clear hK K hHeld
      try simp only [Act.put, List.setIfInBounds_toArray, List.set_cons_zero, List.set_cons_succ]
      refine seq_take _ ?_ rfl (Or.inl ⟨by rfl, ?_⟩) ?_
      rotate_left
      · (intro w hSw; (try dsimp only at hSw); go_simp; (try with_reducible rfl))
      try simp only [Act.put, List.setIfInBounds_toArray, List.set_cons_zero, List.set_cons_succ]
      refine seq_take _ ?_ rfl (Or.inl ⟨by rfl, ?_⟩) ?_
      rotate_left
      · (intro w hSw; (try dsimp only at hSw); go_simp; (try with_reducible rfl))
      try simp only [Act.put, List.setIfInBounds_toArray, List.set_cons_zero, List.set_cons_succ]
      refine seq_take _ ?_ rfl (Or.inl ⟨by rfl, ?_⟩) ?_
      rotate_left
      · (intro w hSw; (try dsimp only at hSw); go_simp; (try with_reducible rfl))
      try simp only [Act.put, List.setIfInBounds_toArray, List.set_cons_zero, List.set_cons_succ]
      refine seq_take _ ?_ rfl (Or.inl ⟨by rfl, ?_⟩) ?_
      rotate_left
      · (intro w hSw; (try dsimp only at hSw); go_simp; (try with_reducible rfl))
      try simp only [Act.put, List.setIfInBounds_toArray, List.set_cons_zero, List.set_cons_succ]
      refine seq_take _ ?_ rfl (Or.inl ⟨by rfl, ?_⟩) ?_
      rotate_left
      · (intro w hSw; (try dsimp only at hSw); go_simp; (try with_reducible rfl))
      try simp only [Act.put, List.setIfInBounds_toArray, List.set_cons_zero, List.set_cons_succ]
      refine seq_take _ ?_ rfl (Or.inl ⟨by rfl, ?_⟩) ?_
      rotate_left
      · (intro w hSw; (try dsimp only at hSw); go_simp; (try with_reducible rfl))
      try simp only [Act.put, List.setIfInBounds_toArray, List.set_cons_zero, List.set_cons_succ]
      refine seq_one _ rfl fun K hK => ?_
      go_simp
      (with_reducible refine (qwhole_z gn_a An_a nn_a cn_a _ (Ia.below Dp12).num Za.num (by decide)).mono ?_)
      rintro e vp13 ⟨gnp13, Anp13, nnp13, cnp13, gdp13, Adp13, ndp13, cdp13, rfl, ip13, bp13⟩
      have Dp13 : Below W9.heap.size W9 vp13 := Below.trans Dp12 (bp13.mono (Below.size Dp12))
      go_wp2_with fail
      refine hK.out _ _ (HS.out _ Dp13) (fun hHeld => ?_)
      clear hK K hHeld
      try simp only [Act.put, List.setIfInBounds_toArray, List.set_cons_zero, List.set_cons_succ]
      refine seq_one _ rfl fun K hK => ?_
      go_simp
      (with_reducible refine (rqwhole_z gn_a An_a nn_a cn_a _ (Ia.below Dp13).num).mono ?_)
      rintro e vp14 ⟨gnp14, Anp14, nnp14, cnp14, gdp14, Adp14, ndp14, cdp14, rfl, ip14, bp14⟩
      have Dp14 : Below W9.heap.size W9 vp14 := Below.trans Dp13 (bp14.mono (Below.size Dp13))
      go_wp2_with fail
      refine hK.out _ _ (HS.out _ Dp14) (fun hHeld => ?_)
      clear hK K hHeld
      try simp only [Act.put, List.setIfInBounds_toArray, List.set_cons_zero, List.set_cons_succ]
      refine seq_one _ rfl fun K hK => ?_
      go_simp
      (with_reducible refine (rqsame_z gnp13 Anp13 nnp13 cnp13 gdp13 Adp13 ndp13 cdp13 gnp14 Anp14 nnp14 cnp14 gdp14 Adp14 ndp14 cdp14 _ (ip13.below bp14) ip14 rfl).mono ?_)
      rintro e vp15 ⟨rfl, bp15⟩
      have Dp15 : Below W9.heap.size W9 vp15 := Below.trans Dp14 (bp15.mono (Below.size Dp14))
      go_wp2_with fail
      refine hK.out _ _ (HS.out _ Dp15) (fun hHeld => ?_)
      clear hK K hHeld
      try simp only [Act.put, List.setIfInBounds_toArray, List.set_cons_zero, List.set_cons_succ]
      refine seq_take _ ?_ rfl (Or.inl ⟨by rfl, ?_⟩) ?_
      rotate_left
      · (intro w hSw; (try dsimp only at hSw); go_simp; (try with_reducible rfl))
      try simp only [Act.put, List.setIfInBounds_toArray, List.set_cons_zero, List.set_cons_succ]
      refine seq_take _ ?_ rfl (Or.inl ⟨by rfl, ?_⟩) ?_
      rotate_left
      · (intro w hSw; (try dsimp only at hSw); go_simp; (try with_reducible rfl))
      try simp only [Act.put, List.setIfInBounds_toArray, List.set_cons_zero, List.set_cons_succ]
      refine NoPanic.normal ?_
      go_wp2_with fail
      go_meet
      exact ⟨rfl, Dp15⟩
  case rest =>
  obtain ⟨rfl, DC⟩ := hcut
  obtain ⟨W10, rfl⟩ : ∃ x : World, x = wc := ⟨_, rfl⟩
  replace Sa := Sa.after DC
  replace Ia := Ia.below DC
  replace Sb := Sb.after DC
  replace Ib := Ib.below DC
  replace B := B.trans (DC.mono B.size)
  clear DC
  go_upto_region 12 with (fail)
  go_cut [19] (fun s wx => s = .bool true ∧ Below W10.heap.size W10 wx)
  case first =>
    have HS : Hid (∀ V, Below W10.heap.size W10 V → (V.cell? ⟨ga, 0, none⟩ = some (.bool gn_a) ∧ V.cell? ⟨ga, 1, none⟩ = some (.slice An_a nn_a cn_a) ∧ V.cell? ⟨ga, 2, none⟩ = some (.bool gd_a) ∧ V.cell? ⟨ga, 3, none⟩ = some (.slice Ad_a nd_a cd_a))) := fun V hV => (Sa.after hV).cells
    by_cases hd : a.den = 1
    case' pos =>
      as_aux_lemma =>
        have HD := Lib.hid hd
        clear hd
        have Dp0 : Below W10.heap.size W10 W10.drew := (Below.refl _ _).drew
        refine wp_region_seq (.pre [(0, true), (2, true), (1, false), (3, false), (4, false), (5, true), (6, true), (8, true), (7, false), (9, false), (10, false), (11, true), (12, true), (13, true), (15, true), (14, false), (16, false), (17, true), (18, true), (19, true)] .done) (fun W => (W.cell? ⟨ga, 0, none⟩ = some (.bool gn_a) ∧ W.cell? ⟨ga, 1, none⟩ = some (.slice An_a nn_a cn_a) ∧ W.cell? ⟨ga, 2, none⟩ = some (.bool gd_a) ∧ W.cell? ⟨ga, 3, none⟩ = some (.slice Ad_a nd_a cd_a))) (by kernel_rfl) (by kernel_rfl) ?_ (by kernel_rfl) (HS.out _ Dp0) ?_
        · refine chk_pre _ _ _ (by as_aux_lemma => kernel_rfl) ?_
          exact (by as_aux_lemma => kernel_rfl)
        refine seq_take _ ?_ rfl (Or.inl ⟨by rfl, ?_⟩) ?_
        rotate_left
        · (intro w hSw; (try dsimp only at hSw); go_simp; (try with_reducible rfl))
        try simp only [Act.put, List.setIfInBounds_toArray, List.set_cons_zero, List.set_cons_succ]
        refine seq_take _ ?_ rfl (Or.inl ⟨by rfl, ?_⟩) ?_
        rotate_left
        · (intro w hSw; (try dsimp only at hSw); go_simp; (try with_reducible rfl))
        try simp only [Act.put, List.setIfInBounds_toArray, List.set_cons_zero, List.set_cons_succ]
        refine seq_one _ rfl fun K hK => ?_
        go_simp
        (with_reducible refine (qfloor_z gn_a An_a nn_a cn_a gd_a Ad_a nd_a cd_a _ (Ia.below Dp0) Za.num Za.den).mono ?_)
        rintro e vp1 ⟨gp1, Ap1, np1, cp1, rfl, ip1, bp1⟩
        have Dp1 : Below W10.heap.size W10 vp1 := Below.trans Dp0 (bp1.mono (Below.size Dp0))
        go_wp2_with fail
        refine hK.out _ _ (HS.out _ Dp1) (fun hHeld => ?_)
        clear hK K hHeld
        try simp only [Act.put, List.setIfInBounds_toArray, List.set_cons_zero, List.set_cons_succ]
        refine seq_one _ rfl fun K hK => ?_
        go_simp
        (with_reducible refine (rqfloor_z gn_a An_a nn_a cn_a gd_a Ad_a nd_a cd_a _ (Ia.below Dp1) Za (by decide)).mono ?_)
        rintro e vp2 ⟨gp2, Ap2, np2, cp2, rfl, ip2, bp2⟩
        have Dp2 : Below W10.heap.size W10 vp2 := Below.trans Dp1 (bp2.mono (Below.size Dp1))
        go_wp2_with fail
        refine hK.out _ _ (HS.out _ Dp2) (fun hHeld => ?_)
        clear hK K hHeld
        try simp only [Act.put, List.setIfInBounds_toArray, List.set_cons_zero, List.set_cons_succ]
        refine seq_one _ rfl fun K hK => ?_
        go_simp
        (with_reducible refine (same_z gp1 gp2 Ap1 Ap2 np1 cp1 np2 cp2 _ (ip1.below bp2) ip2 rfl).mono ?_)
        rintro e vp3 ⟨rfl, bp3⟩
        have Dp3 : Below W10.heap.size W10 vp3 := Below.trans Dp2 (bp3.mono (Below.size Dp2))
        go_wp2_with fail
        refine hK.out _ _ (HS.out _ Dp3) (fun hHeld => ?_)
        clear hK K hHeld
        try simp only [Act.put, List.setIfInBounds_toArray, List.set_cons_zero, List.set_cons_succ]
        refine seq_take _ ?_ rfl (Or.inl ⟨by rfl, ?_⟩) ?_
        rotate_left
        · (intro w hSw; (try dsimp only at hSw); go_simp; (try with_reducible rfl))
        try simp only [Act.put, List.setIfInBounds_toArray, List.set_cons_zero, List.set_cons_succ]
        refine seq_take _ ?_ rfl (Or.inl ⟨by rfl, ?_⟩) ?_
        rotate_left
        · (intro w hSw; (try dsimp only at hSw); go_simp; (try with_reducible rfl))
        try simp only [Act.put, List.setIfInBounds_toArray, List.set_cons_zero, List.set_cons_succ]
        refine seq_take _ ?_ rfl (Or.inl ⟨by rfl, ?_⟩) ?_
        rotate_left
        · (intro w hSw; (try dsimp only at hSw); go_simp; (try with_reducible rfl))
        try simp only [Act.put, List.setIfInBounds_toArray, List.set_cons_zero, List.set_cons_succ]
        refine seq_one _ rfl fun K hK => ?_
        go_simp
        (with_reducible refine (qround_z gn_a An_a nn_a cn_a gd_a Ad_a nd_a cd_a _ (Ia.below Dp3) Za (by decide)).mono ?_)
        rintro e vp4 ⟨gp4, Ap4, np4, cp4, rfl, ip4, bp4⟩
        have Dp4 : Below W10.heap.size W10 vp4 := Below.trans Dp3 (bp4.mono (Below.size Dp3))
        go_wp2_with fail
        refine hK.out _ _ (HS.out _ Dp4) (fun hHeld => ?_)
        clear hK K hHeld
        try simp only [Act.put, List.setIfInBounds_toArray, List.set_cons_zero, List.set_cons_succ]
        refine seq_one _ rfl fun K hK => ?_
        go_simp
        (with_reducible refine (rqround_z gn_a An_a nn_a cn_a gd_a Ad_a nd_a cd_a _ (Ia.below Dp4) Za (by decide)).mono ?_)
        rintro e vp5 ⟨gp5, Ap5, np5, cp5, rfl, ip5, bp5⟩
        have Dp5 : Below W10.heap.size W10 vp5 := Below.trans Dp4 (bp5.mono (Below.size Dp4))
        go_wp2_with fail
        refine hK.out _ _ (HS.out _ Dp5) (fun hHeld => ?_)
        clear hK K hHeld
        try simp only [Act.put, List.setIfInBounds_toArray, List.set_cons_zero, List.set_cons_succ]
        refine seq_one _ rfl fun K hK => ?_
        go_simp
        (with_reducible refine (same_z gp4 gp5 Ap4 Ap5 np4 cp4 np5 cp5 _ (ip4.below bp5) ip5 rfl).mono ?_)
        rintro e vp6 ⟨rfl, bp6⟩
        have Dp6 : Below W10.heap.size W10 vp6 := Below.trans Dp5 (bp6.mono (Below.size Dp5))
        go_wp2_with fail
        refine hK.out _ _ (HS.out _ Dp6) (fun hHeld => ?_)
        clear hK K hHeld
        try simp only [Act.put, List.setIfInBounds_toArray, List.set_cons_zero, List.set_cons_succ]
        refine seq_take _ ?_ rfl (Or.inl ⟨by rfl, ?_⟩) ?_
        rotate_left
        · (intro w hSw; (try dsimp only at hSw); go_simp; (try with_reducible rfl))
        try simp only [Act.put, List.setIfInBounds_toArray, List.set_cons_zero, List.set_cons_succ]
        refine seq_take _ ?_ rfl (Or.inl ⟨by rfl, ?_⟩) ?_
        rotate_left
        · (intro w hSw; (try dsimp only at hSw); go_simp; (try with_reducible rfl))
        try simp only [Act.put, List.setIfInBounds_toArray, List.set_cons_zero, List.set_cons_succ]
        refine seq_take _ ?_ rfl (Or.inl ⟨by rfl, ?_⟩) ?_
        rotate_left
        · (intro w hSw; (try dsimp only at hSw); go_simp; (try with_reducible rfl))
        try simp only [Act.put, List.setIfInBounds_toArray, List.set_cons_zero, List.set_cons_succ]
        refine seq_take _ ?_ rfl (Or.inl ⟨by rfl, ?_⟩) ?_
        rotate_left
        · (intro w hSw; (try dsimp only at hSw); go_simp; (try with_reducible rfl))
        try simp only [Act.put, List.setIfInBounds_toArray, List.set_cons_zero, List.set_cons_succ]
        refine seq_one _ rfl fun K hK => ?_
        go_simp
        (with_reducible refine (qint_t gn_a An_a nn_a cn_a gd_a Ad_a nd_a cd_a _ (Ia.below Dp6) HD.out).mono ?_)
        rintro e vp7 ⟨rfl, bp7⟩
        have Dp7 : Below W10.heap.size W10 vp7 := Below.trans Dp6 (bp7.mono (Below.size Dp6))
        go_wp2_with fail
        refine hK.out _ _ (HS.out _ Dp7) (fun hHeld => ?_)
        clear hK K hHeld
        try simp only [Act.put, List.setIfInBounds_toArray, List.set_cons_zero, List.set_cons_succ]
        refine seq_one _ rfl fun K hK => ?_
        go_simp
        (with_reducible refine (rqint_t gn_a An_a nn_a cn_a gd_a Ad_a nd_a cd_a _ (Ia.below Dp7) Za HD.out).mono ?_)
        rintro e vp8 ⟨rfl, bp8⟩
        have Dp8 : Below W10.heap.size W10 vp8 := Below.trans Dp7 (bp8.mono (Below.size Dp7))
        go_wp2_with fail
        refine hK.out _ _ (HS.out _ Dp8) (fun hHeld => ?_)
        clear hK K hHeld
        try simp only [Act.put, List.setIfInBounds_toArray, List.set_cons_zero, List.set_cons_succ]
        refine seq_take _ ?_ rfl (Or.inl ⟨by rfl, ?_⟩) ?_
        rotate_left
        · (intro w hSw; (try dsimp only at hSw); go_simp; (try with_reducible rfl))
        try simp only [Act.put, List.setIfInBounds_toArray, List.set_cons_zero, List.set_cons_succ]
        refine seq_take _ ?_ rfl (Or.inl ⟨by rfl, ?_⟩) ?_
        rotate_left
        · (intro w hSw; (try dsimp only at hSw); go_simp; (try with_reducible rfl))
        try simp only [Act.put, List.setIfInBounds_toArray, List.set_cons_zero, List.set_cons_succ]
        refine seq_take _ ?_ rfl (Or.inl ⟨by rfl, ?_⟩) ?_
        rotate_left
        · (intro w hSw; (try dsimp only at hSw); go_simp; (try with_reducible rfl))
        try simp only [Act.put, List.setIfInBounds_toArray, List.set_cons_zero, List.set_cons_succ]
        refine NoPanic.normal ?_
        go_wp2_with fail
        go_meet
        exact ⟨rfl, Dp8⟩
    case' neg =>
      as_aux_lemma =>
        have HD := Lib.hid hd
        clear hd
        have Dp0 : Below W10.heap.size W10 W10.drew := (Below.refl _ _).drew
        refine wp_region_seq (.pre [(0, true), (2, true), (1, false), (3, false), (4, false), (5, true), (6, true), (8, true), (7, false), (9, false), (10, false), (11, true), (12, true), (13, true), (15, true), (14, false), (16, false), (17, true), (18, true), (19, true)] .done) (fun W => (W.cell? ⟨ga, 0, none⟩ = some (.bool gn_a) ∧ W.cell? ⟨ga, 1, none⟩ = some (.slice An_a nn_a cn_a) ∧ W.cell? ⟨ga, 2, none⟩ = some (.bool gd_a) ∧ W.cell? ⟨ga, 3, none⟩ = some (.slice Ad_a nd_a cd_a))) (by kernel_rfl) (by kernel_rfl) ?_ (by kernel_rfl) (HS.out _ Dp0) ?_
        · refine chk_pre _ _ _ (by as_aux_lemma => kernel_rfl) ?_
          exact (by as_aux_lemma => kernel_rfl)
        refine seq_take _ ?_ rfl (Or.inl ⟨by rfl, ?_⟩) ?_
        rotate_left
        · (intro w hSw; (try dsimp only at hSw); go_simp; (try with_reducible rfl))
        try simp only [Act.put, List.setIfInBounds_toArray, List.set_cons_zero, List.set_cons_succ]
        refine seq_take _ ?_ rfl (Or.inl ⟨by rfl, ?_⟩) ?_
        rotate_left
        · (intro w hSw; (try dsimp only at hSw); go_simp; (try with_reducible rfl))
        try simp only [Act.put, List.setIfInBounds_toArray, List.set_cons_zero, List.set_cons_succ]
        refine seq_one _ rfl fun K hK => ?_
        go_simp
        (with_reducible refine (qfloor_z gn_a An_a nn_a cn_a gd_a Ad_a nd_a cd_a _ (Ia.below Dp0) Za.num Za.den).mono ?_)
        rintro e vp1 ⟨gp1, Ap1, np1, cp1, rfl, ip1, bp1⟩
        have Dp1 : Below W10.heap.size W10 vp1 := Below.trans Dp0 (bp1.mono (Below.size Dp0))
        go_wp2_with fail
        refine hK.out _ _ (HS.out _ Dp1) (fun hHeld => ?_)
        clear hK K hHeld
        try simp only [Act.put, List.setIfInBounds_toArray, List.set_cons_zero, List.set_cons_succ]
        refine seq_one _ rfl fun K hK => ?_
        go_simp
        (with_reducible refine (rqfloor_z gn_a An_a nn_a cn_a gd_a Ad_a nd_a cd_a _ (Ia.below Dp1) Za (by decide)).mono ?_)
        rintro e vp2 ⟨gp2, Ap2, np2, cp2, rfl, ip2, bp2⟩
        have Dp2 : Below W10.heap.size W10 vp2 := Below.trans Dp1 (bp2.mono (Below.size Dp1))
        go_wp2_with fail
        refine hK.out _ _ (HS.out _ Dp2) (fun hHeld => ?_)
        clear hK K hHeld
        try simp only [Act.put, List.setIfInBounds_toArray, List.set_cons_zero, List.set_cons_succ]
        refine seq_one _ rfl fun K hK => ?_
        go_simp
        (with_reducible refine (same_z gp1 gp2 Ap1 Ap2 np1 cp1 np2 cp2 _ (ip1.below bp2) ip2 rfl).mono ?_)
        rintro e vp3 ⟨rfl, bp3⟩
        have Dp3 : Below W10.heap.size W10 vp3 := Below.trans Dp2 (bp3.mono (Below.size Dp2))
        go_wp2_with fail
        refine hK.out _ _ (HS.out _ Dp3) (fun hHeld => ?_)
        clear hK K hHeld
        try simp only [Act.put, List.setIfInBounds_toArray, List.set_cons_zero, List.set_cons_succ]
        refine seq_take _ ?_ rfl (Or.inl ⟨by rfl, ?_⟩) ?_
        rotate_left
        · (intro w hSw; (try dsimp only at hSw); go_simp; (try with_reducible rfl))
        try simp only [Act.put, List.setIfInBounds_toArray, List.set_cons_zero, List.set_cons_succ]
        refine seq_take _ ?_ rfl (Or.inl ⟨by rfl, ?_⟩) ?_
        rotate_left
        · (intro w hSw; (try dsimp only at hSw); go_simp; (try with_reducible rfl))
        try simp only [Act.put, List.setIfInBounds_toArray, List.set_cons_zero, List.set_cons_succ]
        refine seq_take _ ?_ rfl (Or.inl ⟨by rfl, ?_⟩) ?_
        rotate_left
        · (intro w hSw; (try dsimp only at hSw); go_simp; (try with_reducible rfl))
        try simp only [Act.put, List.setIfInBounds_toArray, List.set_cons_zero, List.set_cons_succ]
        refine seq_one _ rfl fun K hK => ?_
        go_simp
        (with_reducible refine (qround_z gn_a An_a nn_a cn_a gd_a Ad_a nd_a cd_a _ (Ia.below Dp3) Za (by decide)).mono ?_)
        rintro e vp4 ⟨gp4, Ap4, np4, cp4, rfl, ip4, bp4⟩
        have Dp4 : Below W10.heap.size W10 vp4 := Below.trans Dp3 (bp4.mono (Below.size Dp3))
        go_wp2_with fail
        refine hK.out _ _ (HS.out _ Dp4) (fun hHeld => ?_)
        clear hK K hHeld
        try simp only [Act.put, List.setIfInBounds_toArray, List.set_cons_zero, List.set_cons_succ]
        refine seq_one _ rfl fun K hK => ?_
        go_simp
        (with_reducible refine (rqround_z gn_a An_a nn_a cn_a gd_a Ad_a nd_a cd_a _ (Ia.below Dp4) Za (by decide)).mono ?_)
        rintro e vp5 ⟨gp5, Ap5, np5, cp5, rfl, ip5, bp5⟩
        have Dp5 : Below W10.heap.size W10 vp5 := Below.trans Dp4 (bp5.mono (Below.size Dp4))
        go_wp2_with fail
        refine hK.out _ _ (HS.out _ Dp5) (fun hHeld => ?_)
        clear hK K hHeld
        try simp only [Act.put, List.setIfInBounds_toArray, List.set_cons_zero, List.set_cons_succ]
        refine seq_one _ rfl fun K hK => ?_
        go_simp
        (with_reducible refine (same_z gp4 gp5 Ap4 Ap5 np4 cp4 np5 cp5 _ (ip4.below bp5) ip5 rfl).mono ?_)
        rintro e vp6 ⟨rfl, bp6⟩
        have Dp6 : Below W10.heap.size W10 vp6 := Below.trans Dp5 (bp6.mono (Below.size Dp5))
        go_wp2_with fail
        refine hK.out _ _ (HS.out _ Dp6) (fun hHeld => ?_)
        clear hK K hHeld
        try simp only [Act.put, List.setIfInBounds_toArray, List.set_cons_zero, List.set_cons_succ]
        refine seq_take _ ?_ rfl (Or.inl ⟨by rfl, ?_⟩) ?_
        rotate_left
        · (intro w hSw; (try dsimp only at hSw); go_simp; (try with_reducible rfl))
        try simp only [Act.put, List.setIfInBounds_toArray, List.set_cons_zero, List.set_cons_succ]
        refine seq_take _ ?_ rfl (Or.inl ⟨by rfl, ?_⟩) ?_
        rotate_left
        · (intro w hSw; (try dsimp only at hSw); go_simp; (try with_reducible rfl))
        try simp only [Act.put, List.setIfInBounds_toArray, List.set_cons_zero, List.set_cons_succ]
        refine seq_take _ ?_ rfl (Or.inl ⟨by rfl, ?_⟩) ?_
        rotate_left
        · (intro w hSw; (try dsimp only at hSw); go_simp; (try with_reducible rfl))
        try simp only [Act.put, List.setIfInBounds_toArray, List.set_cons_zero, List.set_cons_succ]
        refine seq_take _ ?_ rfl (Or.inl ⟨by rfl, ?_⟩) ?_
        rotate_left
        · (intro w hSw; (try dsimp only at hSw); go_simp; (try with_reducible rfl))
        try simp only [Act.put, List.setIfInBounds_toArray, List.set_cons_zero, List.set_cons_succ]
        refine seq_one _ rfl fun K hK => ?_
        go_simp
        (with_reducible refine (qint_f gn_a An_a nn_a cn_a gd_a Ad_a nd_a cd_a _ (Ia.below Dp6) HD.out).mono ?_)
        rintro e vp7 ⟨rfl, bp7⟩
        have Dp7 : Below W10.heap.size W10 vp7 := Below.trans Dp6 (bp7.mono (Below.size Dp6))
        go_wp2_with fail
        refine hK.out _ _ (HS.out _ Dp7) (fun hHeld => ?_)
        clear hK K hHeld
        try simp only [Act.put, List.setIfInBounds_toArray, List.set_cons_zero, List.set_cons_succ]
        refine seq_one _ rfl fun K hK => ?_
        go_simp
        (with_reducible refine (rqint_f gn_a An_a nn_a cn_a gd_a Ad_a nd_a cd_a _ (Ia.below Dp7) Za HD.out).mono ?_)
        rintro e vp8 ⟨rfl, bp8⟩
        have Dp8 : Below W10.heap.size W10 vp8 := Below.trans Dp7 (bp8.mono (Below.size Dp7))
        go_wp2_with fail
        refine hK.out _ _ (HS.out _ Dp8) (fun hHeld => ?_)
        clear hK K hHeld
        try simp only [Act.put, List.setIfInBounds_toArray, List.set_cons_zero, List.set_cons_succ]
        refine seq_take _ ?_ rfl (Or.inl ⟨by rfl, ?_⟩) ?_
        rotate_left
        · (intro w hSw; (try dsimp only at hSw); go_simp; (try with_reducible rfl))
        try simp only [Act.put, List.setIfInBounds_toArray, List.set_cons_zero, List.set_cons_succ]
        refine seq_take _ ?_ rfl (Or.inl ⟨by rfl, ?_⟩) ?_
        rotate_left
        · (intro w hSw; (try dsimp only at hSw); go_simp; (try with_reducible rfl))
        try simp only [Act.put, List.setIfInBounds_toArray, List.set_cons_zero, List.set_cons_succ]
        refine seq_take _ ?_ rfl (Or.inl ⟨by rfl, ?_⟩) ?_
        rotate_left
        · (intro w hSw; (try dsimp only at hSw); go_simp; (try with_reducible rfl))
        try simp only [Act.put, List.setIfInBounds_toArray, List.set_cons_zero, List.set_cons_succ]
        refine NoPanic.normal ?_
        go_wp2_with fail
        go_meet
        exact ⟨rfl, Dp8⟩
  case rest =>
  obtain ⟨rfl, DC⟩ := hcut
  obtain ⟨W11, rfl⟩ : ∃ x : World, x = wc := ⟨_, rfl⟩
  replace Sa := Sa.after DC
  replace Ia := Ia.below DC
  replace Sb := Sb.after DC
  replace Ib := Ib.below DC
  replace B := B.trans (DC.mono B.size)
  clear DC
  go_upto_region 13 with (fail)
  go_cut [6] (fun s wx => s = .bool true ∧ Below W11.heap.size W11 wx)
  case first =>
    as_aux_lemma =>
      have HS : Hid (∀ V, Below W11.heap.size W11 V → (V.cell? ⟨ga, 0, none⟩ = some (.bool gn_a) ∧ V.cell? ⟨ga, 1, none⟩ = some (.slice An_a nn_a cn_a) ∧ V.cell? ⟨ga, 2, none⟩ = some (.bool gd_a) ∧ V.cell? ⟨ga, 3, none⟩ = some (.slice Ad_a nd_a cd_a)) ∧ (V.cell? ⟨gb, 0, none⟩ = some (.bool gn_b) ∧ V.cell? ⟨gb, 1, none⟩ = some (.slice An_b nn_b cn_b) ∧ V.cell? ⟨gb, 2, none⟩ = some (.bool gd_b) ∧ V.cell? ⟨gb, 3, none⟩ = some (.slice Ad_b nd_b cd_b))) := fun V hV => ⟨(Sa.after hV).cells, (Sb.after hV).cells⟩
      obtain ⟨x, hx⟩ : ∃ x, cq a b = x := ⟨_, rfl⟩
      have HC := Lib.hid hx
      obtain ⟨s, hs⟩ : ∃ s, sgn a.num = s := ⟨_, rfl⟩
      have HG := Lib.hid hs
      obtain ⟨t, ht⟩ : ∃ t, rtxt a = t := ⟨_, rfl⟩
      have HT := Lib.hid ht
      clear hx hs ht
      have Dp0 : Below W11.heap.size W11 W11.drew := (Below.refl _ _).drew
      refine wp_region_seq (.pre [(0, true), (1, true), (2, true), (3, true), (4, true), (5, true), (6, true), (8, true), (9, true), (7, false), (10, false), (11, true), (12, true), (13, true), (14, true), (16, true), (15, false), (17, false), (18, true), (19, true), (20, true), (21, true), (23, true), (22, false), (24, false)] (.pre [(25, true), (26, true), (27, true), (28, true), (29, true), (30, true)] .done)) (fun W => (W.cell? ⟨ga, 0, none⟩ = some (.bool gn_a) ∧ W.cell? ⟨ga, 1, none⟩ = some (.slice An_a nn_a cn_a) ∧ W.cell? ⟨ga, 2, none⟩ = some (.bool gd_a) ∧ W.cell? ⟨ga, 3, none⟩ = some (.slice Ad_a nd_a cd_a)) ∧ (W.cell? ⟨gb, 0, none⟩ = some (.bool gn_b) ∧ W.cell? ⟨gb, 1, none⟩ = some (.slice An_b nn_b cn_b) ∧ W.cell? ⟨gb, 2, none⟩ = some (.bool gd_b) ∧ W.cell? ⟨gb, 3, none⟩ = some (.slice Ad_b nd_b cd_b))) (by kernel_rfl) (by kernel_rfl) ?_ (by kernel_rfl) (HS.out _ Dp0) ?_
      · refine chk_pre _ _ _ (by as_aux_lemma => kernel_rfl) ?_
        refine chk_pre _ _ _ (by as_aux_lemma => kernel_rfl) ?_
        exact (by as_aux_lemma => kernel_rfl)
      refine seq_take _ ?_ rfl (Or.inl ⟨by rfl, ?_⟩) ?_
      rotate_left
      · (intro w hSw; (try dsimp only at hSw); go_simp; (try with_reducible rfl))
      try simp only [Act.put, List.setIfInBounds_toArray, List.set_cons_zero, List.set_cons_succ]
      refine seq_take _ ?_ rfl (Or.inl ⟨by rfl, ?_⟩) ?_
      rotate_left
      · (intro w hSw; (try dsimp only at hSw); go_simp; (try with_reducible rfl))
      try simp only [Act.put, List.setIfInBounds_toArray, List.set_cons_zero, List.set_cons_succ]
      refine seq_take _ ?_ rfl (Or.inl ⟨by rfl, ?_⟩) ?_
      rotate_left
      · (intro w hSw; (try dsimp only at hSw); go_simp; (try with_reducible rfl))
      try simp only [Act.put, List.setIfInBounds_toArray, List.set_cons_zero, List.set_cons_succ]
      refine seq_take _ ?_ rfl (Or.inl ⟨by rfl, ?_⟩) ?_
      rotate_left
      · (intro w hSw; (try dsimp only at hSw); go_simp; (try with_reducible rfl))
      try simp only [Act.put, List.setIfInBounds_toArray, List.set_cons_zero, List.set_cons_succ]
      refine seq_take _ ?_ rfl (Or.inl ⟨by rfl, ?_⟩) ?_
      rotate_left
      · (intro w hSw; (try dsimp only at hSw); go_simp; (try with_reducible rfl))
      try simp only [Act.put, List.setIfInBounds_toArray, List.set_cons_zero, List.set_cons_succ]
      refine seq_take _ ?_ rfl (Or.inl ⟨by rfl, ?_⟩) ?_
      rotate_left
      · (intro w hSw; (try dsimp only at hSw); go_simp; (try with_reducible rfl))
      try simp only [Act.put, List.setIfInBounds_toArray, List.set_cons_zero, List.set_cons_succ]
      refine seq_take _ ?_ rfl (Or.inl ⟨by rfl, ?_⟩) ?_
      rotate_left
      · (intro w hSw; (try dsimp only at hSw); go_simp; (try with_reducible rfl))
      try simp only [Act.put, List.setIfInBounds_toArray, List.set_cons_zero, List.set_cons_succ]
      refine seq_take _ ?_ rfl (Or.inl ⟨by rfl, ?_⟩) ?_
      rotate_left
      · (intro w hSw; (try dsimp only at hSw); go_simp; (try with_reducible rfl))
      try simp only [Act.put, List.setIfInBounds_toArray, List.set_cons_zero, List.set_cons_succ]
      refine seq_take _ ?_ rfl (Or.inl ⟨by rfl, ?_⟩) ?_
      rotate_left
      · (intro w hSw; (try dsimp only at hSw); go_simp; (try with_reducible rfl))
      try simp only [Act.put, List.setIfInBounds_toArray, List.set_cons_zero, List.set_cons_succ]
      refine seq_one _ rfl fun K hK => ?_
      go_simp
      (with_reducible refine (qcmp_z gn_a An_a nn_a cn_a gd_a Ad_a nd_a cd_a gn_b An_b nn_b cn_b gd_b Ad_b nd_b cd_b _ x (Ia.below Dp0) (Ib.below Dp0) Za Zb (by decide) HC.out).mono ?_)
      rintro e vp1 ⟨rfl, bp1⟩
      have Dp1 : Below W11.heap.size W11 vp1 := Below.trans Dp0 (bp1.mono (Below.size Dp0))
      go_wp2_with fail
      refine hK.out _ _ (HS.out _ Dp1) (fun hHeld => ?_)
      clear hK K hHeld
      try simp only [Act.put, List.setIfInBounds_toArray, List.set_cons_zero, List.set_cons_succ]
      refine seq_one _ rfl fun K hK => ?_
      go_simp
      (with_reducible refine (rqcmp_z gn_a An_a nn_a cn_a gd_a Ad_a nd_a cd_a gn_b An_b nn_b cn_b gd_b Ad_b nd_b cd_b _ x (Ia.below Dp1) (Ib.below Dp1) Za Zb (by decide) HC.out).mono ?_)
      rintro e vp2 ⟨rfl, bp2⟩
      have Dp2 : Below W11.heap.size W11 vp2 := Below.trans Dp1 (bp2.mono (Below.size Dp1))
      go_wp2_with fail
      refine hK.out _ _ (HS.out _ Dp2) (fun hHeld => ?_)
      clear hK K hHeld
      try simp only [Act.put, List.setIfInBounds_toArray, List.set_cons_zero, List.set_cons_succ]
      refine seq_take _ ?_ rfl (Or.inl ⟨by rfl, ?_⟩) ?_
      rotate_left
      · (intro w hSw; (try dsimp only at hSw); go_simp; (try with_reducible rfl))
      try simp only [Act.put, List.setIfInBounds_toArray, List.set_cons_zero, List.set_cons_succ]
      refine seq_take _ ?_ rfl (Or.inl ⟨by rfl, ?_⟩) ?_
      rotate_left
      · (intro w hSw; (try dsimp only at hSw); go_simp; (try with_reducible rfl))
      try simp only [Act.put, List.setIfInBounds_toArray, List.set_cons_zero, List.set_cons_succ]
      refine seq_take _ ?_ rfl (Or.inl ⟨by rfl, ?_⟩) ?_
      rotate_left
      · (intro w hSw; (try dsimp only at hSw); go_simp; (try with_reducible rfl))
      try simp only [Act.put, List.setIfInBounds_toArray, List.set_cons_zero, List.set_cons_succ]
      refine seq_take _ ?_ rfl (Or.inl ⟨by rfl, ?_⟩) ?_
      rotate_left
      · (intro w hSw; (try dsimp only at hSw); go_simp; (try with_reducible rfl))
      try simp only [Act.put, List.setIfInBounds_toArray, List.set_cons_zero, List.set_cons_succ]
      refine seq_take _ ?_ rfl (Or.inl ⟨by rfl, ?_⟩) ?_
      rotate_left
      · (intro w hSw; (try dsimp only at hSw); go_simp; (try with_reducible rfl))
      try simp only [Act.put, List.setIfInBounds_toArray, List.set_cons_zero, List.set_cons_succ]
      refine seq_one _ rfl fun K hK => ?_
      go_simp
      (with_reducible refine (qsign_z gn_a An_a nn_a cn_a gd_a Ad_a nd_a cd_a s _ (Ia.below Dp2).num HG.out).mono ?_)
      rintro e vp3 ⟨rfl, bp3⟩
      have Dp3 : Below W11.heap.size W11 vp3 := Below.trans Dp2 (bp3.mono (Below.size Dp2))
      go_wp2_with fail
      refine hK.out _ _ (HS.out _ Dp3) (fun hHeld => ?_)
      clear hK K hHeld
      try simp only [Act.put, List.setIfInBounds_toArray, List.set_cons_zero, List.set_cons_succ]
      refine seq_one _ rfl fun K hK => ?_
      go_simp
      (with_reducible refine (rqsign_z gn_a An_a nn_a cn_a gd_a Ad_a nd_a cd_a s _ (Ia.below Dp3).num HG.out).mono ?_)
      rintro e vp4 ⟨rfl, bp4⟩
      have Dp4 : Below W11.heap.size W11 vp4 := Below.trans Dp3 (bp4.mono (Below.size Dp3))
      go_wp2_with fail
      refine hK.out _ _ (HS.out _ Dp4) (fun hHeld => ?_)
      clear hK K hHeld
      try simp only [Act.put, List.setIfInBounds_toArray, List.set_cons_zero, List.set_cons_succ]
      refine seq_take _ ?_ rfl (Or.inl ⟨by rfl, ?_⟩) ?_
      rotate_left
      · (intro w hSw; (try dsimp only at hSw); go_simp; (try with_reducible rfl))
      try simp only [Act.put, List.setIfInBounds_toArray, List.set_cons_zero, List.set_cons_succ]
      refine seq_take _ ?_ rfl (Or.inl ⟨by rfl, ?_⟩) ?_
      rotate_left
      · (intro w hSw; (try dsimp only at hSw); go_simp; (try with_reducible rfl))
      try simp only [Act.put, List.setIfInBounds_toArray, List.set_cons_zero, List.set_cons_succ]
      refine seq_take _ ?_ rfl (Or.inl ⟨by rfl, ?_⟩) ?_
      rotate_left
      · (intro w hSw; (try dsimp only at hSw); go_simp; (try with_reducible rfl))
      try simp only [Act.put, List.setIfInBounds_toArray, List.set_cons_zero, List.set_cons_succ]
      refine seq_take _ ?_ rfl (Or.inl ⟨by rfl, ?_⟩) ?_
      rotate_left
      · (intro w hSw; (try dsimp only at hSw); go_simp; (try with_reducible rfl))
      try simp only [Act.put, List.setIfInBounds_toArray, List.set_cons_zero, List.set_cons_succ]
      refine seq_take _ ?_ rfl (Or.inl ⟨by rfl, ?_⟩) ?_
      rotate_left
      · (intro w hSw; (try dsimp only at hSw); go_simp; (try with_reducible rfl))
      try simp only [Act.put, List.setIfInBounds_toArray, List.set_cons_zero, List.set_cons_succ]
      refine seq_one _ rfl fun K hK => ?_
      go_simp
      (with_reducible refine (qtext_z gn_a An_a nn_a cn_a gd_a Ad_a nd_a cd_a _ t (Ia.below Dp4) Za (by decide) HT.out).mono ?_)
      rintro e vp5 ⟨rfl, bp5⟩
      have Dp5 : Below W11.heap.size W11 vp5 := Below.trans Dp4 (bp5.mono (Below.size Dp4))
      go_wp2_with fail
      refine hK.out _ _ (HS.out _ Dp5) (fun hHeld => ?_)
      clear hK K hHeld
      try simp only [Act.put, List.setIfInBounds_toArray, List.set_cons_zero, List.set_cons_succ]
      refine seq_one _ rfl fun K hK => ?_
      go_simp
      (with_reducible refine (rqtext_z gn_a An_a nn_a cn_a gd_a Ad_a nd_a cd_a _ t (Ia.below Dp5) Za (by decide) HT.out).mono ?_)
      rintro e vp6 ⟨rfl, bp6⟩
      have Dp6 : Below W11.heap.size W11 vp6 := Below.trans Dp5 (bp6.mono (Below.size Dp5))
      go_wp2_with fail
      refine hK.out _ _ (HS.out _ Dp6) (fun hHeld => ?_)
      clear hK K hHeld
      try simp only [Act.put, List.setIfInBounds_toArray, List.set_cons_zero, List.set_cons_succ]
      refine seq_take _ ?_ rfl (Or.inl ⟨by rfl, ?_⟩) ?_
      rotate_left
      · (intro w hSw; (try dsimp only at hSw); go_simp; (try with_reducible rfl))
      try simp only [Act.put, List.setIfInBounds_toArray, List.set_cons_zero, List.set_cons_succ]
      refine seq_take _ ?_ rfl (Or.inl ⟨by rfl, ?_⟩) ?_
      rotate_left
      · (intro w hSw; (try dsimp only at hSw); go_simp; (try with_reducible rfl))
      try simp only [Act.put, List.setIfInBounds_toArray, List.set_cons_zero, List.set_cons_succ]
      refine seq_take _ ?_ rfl (Or.inl ⟨by rfl, ?_⟩) ?_
      rotate_left
      · (intro w hSw; (try dsimp only at hSw); go_simp; (try with_reducible rfl))
      try simp only [Act.put, List.setIfInBounds_toArray, List.set_cons_zero, List.set_cons_succ]
      refine seq_take _ ?_ rfl (Or.inl ⟨by rfl, ?_⟩) ?_
      rotate_left
      · (intro w hSw; (try dsimp only at hSw); go_simp; (try with_reducible rfl))
      try simp only [Act.put, List.setIfInBounds_toArray, List.set_cons_zero, List.set_cons_succ]
      refine seq_take _ ?_ rfl (Or.inl ⟨by rfl, ?_⟩) ?_
      rotate_left
      · (intro w hSw; (try dsimp only at hSw); go_simp; (try with_reducible rfl))
      try simp only [Act.put, List.setIfInBounds_toArray, List.set_cons_zero, List.set_cons_succ]
      refine seq_take _ ?_ rfl (Or.inl ⟨by rfl, ?_⟩) ?_
      rotate_left
      · (intro w hSw; (try dsimp only at hSw); go_simp; (try with_reducible rfl))
      try simp only [Act.put, List.setIfInBounds_toArray, List.set_cons_zero, List.set_cons_succ]
      refine NoPanic.normal ?_
      go_wp2_with fail
      go_meet
      exact ⟨by simp, Dp6⟩
  case rest =>
  obtain ⟨rfl, DC⟩ := hcut
  go_wp2_with fail
  go_ret
  exact ⟨rfl, B.trans (DC.mono B.size)⟩
end Go.Proofs.YtlpoboikompjfaaGreatDoor
