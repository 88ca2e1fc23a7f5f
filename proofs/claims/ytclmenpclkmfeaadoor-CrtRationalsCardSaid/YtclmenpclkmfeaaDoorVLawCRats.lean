/- The walk of the law CrtRationals, given what its fixed examples return. -/
import Derived.Test.YtclmenpclkmfeaaDoorVCrtSan
import Derived.Test.YtclmenpclkmfeaaDoorVCrtQ
import Derived.Test.YtclmenpclkmfeaaDoorVRefQ2
namespace Go.Proofs.YtclmenpclkmfeaaDoor
open Go.RowKit
theorem Bnd.uniq {m r r' : Int} (h : Bnd m r) (h' : Bnd m r') : r = r' := by
  have a1 := h.nn
  have a2 := h'.nn
  rcases Int.lt_trichotomy r r' with h0 | h0 | h0
  · have := Int.mul_le_mul (show r + 1 ≤ r' by omega) (show r + 1 ≤ r' by omega) (by omega) a2
    have := h.hi
    have := h'.lo
    omega
  · exact h0
  · have := Int.mul_le_mul (show r' + 1 ≤ r by omega) (show r' + 1 ≤ r by omega) (by omega) a1
    have := h'.hi
    have := h.lo
    omega
theorem sz_num (s : Bool) (A : Option Addr) (n c k : Nat) (xs : List Nat) (w : World) (ha : Lim w w.heap.size A n c xs) (hk : k ≤ 10000) : Sz k (zOf s (val (xs.take k))) := Sz.raw s xs k ha.lt hk
theorem cmpN_lt0 {a b t : Int} (ht : cmpN a b = t) (h : a < b) : decide (t < 0) = true := by
  rw [← ht, cmpN_lt h]; decide
theorem cmpN_ge0 {a b t : Int} (ht : cmpN a b = t) (h : b ≤ a) : decide (t < 0) = false := by
  rw [← ht]
  rcases Int.lt_or_eq_of_le h with h | h
  · rw [cmpN_gt h]; decide
  · rw [h, cmpN_eq]; decide
theorem good_gcd {a m r n d : Int} (h : Good a m r n d) : ((Nat.gcd d.natAbs m.natAbs : Nat) : Int) = 1 := by
  have := h.cop
  have e : Int.gcd d m = Nat.gcd d.natAbs m.natAbs := rfl
  rw [← e, this]; rfl
theorem good_mod {a m r n d : Int} (h : Good a m r n d) : (n - a * d) % m = 0 := by
  have := h.cong
  rw [Int.mul_comm d a] at this
  exact Int.emod_eq_zero_of_dvd this
set_option maxRecDepth 1000000 in
set_option maxHeartbeats 8000000 in
theorem law_crats (HSan : SanC) (A1 A2 : Option Addr) (n1 c1 n2 c2 : Nat) (s1 s2 : Bool) (xs ys : List Nat) (w : World) (ha : Lim w w.heap.size A1 n1 c1 xs) (hb : Lim w w.heap.size A2 n2 c2 ys) (hT : TabW w) (h5 : TabN w.heap.size) :
    Calls Tryd.prog 8 #[.agg #[.slice A1 n1 c1, .bool s1], .agg #[.slice A2 n2 c2, .bool s2]] w fun e w' => e = .returned (.bool true) ∧ Below w.heap.size w w' := by
  have a1 := (Below.refl w.heap.size w).alloc (Nat.le_refl _) (.cells #[.slice A1 n1 c1, .bool s1] 45)
  have B0 := a1.alloc a1.size (.cells #[.slice A2 n2 c2, .bool s2] 45)
  have X0 := (Slot2.new w (.slice A1 n1 c1) (.bool s1) 45).alloc (.cells #[.slice A2 n2 c2, .bool s2] 45)
  have Y0 := Slot2.new (w.alloc (.cells #[.slice A1 n1 c1, .bool s1] 45)) (.slice A2 n2 c2) (.bool s2) 45
  simp only [World.size_alloc] at Y0
  obtain ⟨a, hae⟩ : ∃ a, zOf s1 (val (xs.take 6)) = a := ⟨_, rfl⟩
  obtain ⟨b, hbe⟩ : ∃ b, zOf s2 (val (ys.take 6)) = b := ⟨_, rfl⟩
  have Sa : Sz 6 a := by rw [← hae]; exact sz_num s1 A1 n1 c1 6 xs w ha (by decide)
  have Sb : Sz 6 b := by rw [← hbe]; exact sz_num s2 A2 n2 c2 6 ys w hb (by decide)
  have HM1 : Hid (∀ V, Below w.heap.size w V → Calls Tryd.prog 21 #[.agg #[.slice A1 n1 c1, .bool s1], .int .i64 6] V (RetInt V a)) := fun V hV => by
    have := num_z A1 n1 c1 s1 xs 6 V ((ha.below hV).more hV.size) (by decide)
    rw [hae] at this; exact this
  have HM2 : Hid (∀ V, Below w.heap.size w V → Calls Tryd.prog 21 #[.agg #[.slice A2 n2 c2, .bool s2], .int .i64 6] V (RetInt V b)) := fun V hV => by
    have := num_z A2 n2 c2 s2 ys 6 V ((hb.below hV).more hV.size) (by decide)
    rw [hbe] at this; exact this
  have HSn := Lib.hid (HSan _ (hT.below B0 h5) (h5.le B0.size))
  clear HSan ha hb a1 hae hbe hT h5
  go_enter Tryd.func8, Tryd.ntmps8
  generalize hW : (w.alloc (.cells #[.slice A1 n1 c1, .bool s1] 45)).alloc (.cells #[.slice A2 n2 c2, .bool s2] 45) = W0 at *
  go_wp2_with fail
  try rw [hW]
  clear hW
  (with_reducible refine HSn.out.mono ?_)
  rintro e w1 ⟨rfl, b1⟩
  clear HSn
  replace X0 := X0.after b1
  replace Y0 := Y0.after b1
  replace B0 := B0.trans (b1.mono B0.size)
  clear b1
  go_upto_region 2 with (fail)
  have HX : Hid (∀ V, Below w1.heap.size w1 V → (V.cell? ⟨w.heap.size, 0, none⟩ = some (.slice A1 n1 c1) ∧ V.cell? ⟨w.heap.size, 1, none⟩ = some (.bool s1)) ∧ V.cell? ⟨w.heap.size + 1, 0, none⟩ = some (.slice A2 n2 c2) ∧ V.cell? ⟨w.heap.size + 1, 1, none⟩ = some (.bool s2)) := fun V hV => ⟨⟨(X0.after hV).1, (X0.after hV).2.1⟩, (Y0.after hV).1, (Y0.after hV).2.1⟩
  obtain ⟨m, hme⟩ : ∃ m : Int, ((b.natAbs : Nat) : Int) = m := ⟨_, rfl⟩
  have hm0 : 0 ≤ m := by omega
  have Sm : Sz 6 m := Sb.abs_le' (by omega)
  have HAb : Hid (∀ g A n c V, IsInt V g A n c b → Calls Tryd.prog 30 #[.agg #[.bool g, .slice A n c]] V (RetInt V m)) := fun g A n c V h => by
    have := rabs_z g A n c V h Sb
    rw [hme] at this; exact this
  clear hme
  go_cut [6, 7] (fun p6 p7 wx => ∃ g6 g7, p6 = .pointer (some ⟨g6, 0, none⟩) ∧ p7 = .pointer (some ⟨g7, 0, none⟩) ∧ IntAt wx g6 a ∧ IntAt wx g7 m ∧ Below w1.heap.size w1 wx)
  case first =>
    as_aux_lemma =>
      refine wp_region_ev (fun d a0 a' w' => ∃ u15 u16 u17 u18 u19 u6 u7 : Value, a' = (((((((a0.put (some 15) u15).put (some 16) u16).put (some 17) u17).put (some 18) u18).put (some 19) u19).put (some 6) u6).put (some 7) u7) ∧ Below w1.heap.size w1 w' ∧ (d 0 = true → u15 = .agg #[.slice A1 n1 c1, .bool s1]) ∧ (d 1 = true → IntV w' u16 (a)) ∧ (d 2 = true → u17 = .agg #[.slice A2 n2 c2, .bool s2]) ∧ (d 3 = true → IntV w' u18 (b)) ∧ (d 4 = true → IntV w' u19 (m)) ∧ (d 5 = true → OwnP w1.heap.size w' u6 (d 7) (a)) ∧ (d 6 = true → OwnP w1.heap.size w' u7 (d 8) (m)) ∧ (d 5 = true → d 6 = true → u6 ≠ u7) ∧ (d 7 = true → d 5 = true) ∧ (d 8 = true → d 6 = true)) (by kernel_rfl) (by kernel_rfl) ?_ ?_ ?_ ?_
      · intro d d' h a' w' hh
        obtain rfl : d = d' := funext h
        exact hh
      · exact ⟨_, _, _, _, _, _, _, (by simp only [Act.put, List.setIfInBounds_toArray, List.set_cons_zero, List.set_cons_succ]; rfl), (Below.refl _ _).drew, (fun h => by cases h), (fun h => by cases h), (fun h => by cases h), (fun h => by cases h), (fun h => by cases h), (fun h => by cases h), (fun h => by cases h), (fun h => by cases h), (fun h => by cases h), (fun h => by cases h)⟩
      · refine ⟨?_, ?_, ?_, ?_, ?_, ?_, ?_, ?_, ?_, trivial⟩
        · intro d a2 w2 hd hm ⟨u15, u16, u17, u18, u19, u6, u7, e, HB, f0, f1, f2, f3, f4, f5, f6, n01, t0, t1⟩ K hK
          subst e
          simp only [Act.put, List.setIfInBounds_toArray, List.set_cons_zero, List.set_cons_succ]
          obtain ⟨⟨q0, q1⟩, q2, q3⟩ := HX.out w2 HB
          go_simp
          exact hK.out _ _ ⟨.agg #[.slice A1 n1 c1, .bool s1], u16, u17, u18, u19, u6, u7, (by simp only [Act.put, List.setIfInBounds_toArray, List.set_cons_zero, List.set_cons_succ]), HB, (fun _ => rfl), (fun h => (f1 (by simpa using h))), (fun h => f2 (by simpa using h)), (fun h => (f3 (by simpa using h))), (fun h => (f4 (by simpa using h))), (fun h => by simpa using (f5 (by simpa using h))), (fun h => by simpa using (f6 (by simpa using h))), (fun h h' => n01 (by simpa using h) (by simpa using h')), (fun h => by simpa using t0 (by simpa using h)), (fun h => by simpa using t1 (by simpa using h))⟩
        · intro d a2 w2 hd hm ⟨u15, u16, u17, u18, u19, u6, u7, e, HB, f0, f1, f2, f3, f4, f5, f6, n01, t0, t1⟩ K hK
          subst e
          simp only [Act.put, List.setIfInBounds_toArray, List.set_cons_zero, List.set_cons_succ]
          obtain rfl := f0 (hm ⟨0, .data⟩ (by simp) rfl)
          clear f0
          go_simp
          (with_reducible refine (HM1.out _ (B0.trans ((HB).mono B0.size))).mono ?_)
          rintro e w3 ⟨gg, AA, nn, cc, rfl, hi, hb⟩
          have HB3 := HB.trans (hb.mono HB.size)
          go_wp2_with fail
          exact hK.out _ _ ⟨.agg #[.slice A1 n1 c1, .bool s1], .agg #[.bool gg, .slice AA nn cc], u17, u18, u19, u6, u7, (by simp only [Act.put, List.setIfInBounds_toArray, List.set_cons_zero, List.set_cons_succ]), HB3, (fun _ => rfl), (fun _ => ⟨_, _, _, _, rfl, hi⟩), (fun h => f2 (by simpa using h)), (fun h => (f3 (by simpa using h)).below hb), (fun h => (f4 (by simpa using h)).below hb), (fun h => by simpa using (f5 (by simpa using h)).below hb), (fun h => by simpa using (f6 (by simpa using h)).below hb), (fun h h' => n01 (by simpa using h) (by simpa using h')), (fun h => by simpa using t0 (by simpa using h)), (fun h => by simpa using t1 (by simpa using h))⟩
        · intro d a2 w2 hd hm ⟨u15, u16, u17, u18, u19, u6, u7, e, HB, f0, f1, f2, f3, f4, f5, f6, n01, t0, t1⟩ K hK
          subst e
          simp only [Act.put, List.setIfInBounds_toArray, List.set_cons_zero, List.set_cons_succ]
          obtain ⟨⟨q0, q1⟩, q2, q3⟩ := HX.out w2 HB
          go_simp
          exact hK.out _ _ ⟨u15, u16, .agg #[.slice A2 n2 c2, .bool s2], u18, u19, u6, u7, (by simp only [Act.put, List.setIfInBounds_toArray, List.set_cons_zero, List.set_cons_succ]), HB, (fun h => f0 (by simpa using h)), (fun h => (f1 (by simpa using h))), (fun _ => rfl), (fun h => (f3 (by simpa using h))), (fun h => (f4 (by simpa using h))), (fun h => by simpa using (f5 (by simpa using h))), (fun h => by simpa using (f6 (by simpa using h))), (fun h h' => n01 (by simpa using h) (by simpa using h')), (fun h => by simpa using t0 (by simpa using h)), (fun h => by simpa using t1 (by simpa using h))⟩
        · intro d a2 w2 hd hm ⟨u15, u16, u17, u18, u19, u6, u7, e, HB, f0, f1, f2, f3, f4, f5, f6, n01, t0, t1⟩ K hK
          subst e
          simp only [Act.put, List.setIfInBounds_toArray, List.set_cons_zero, List.set_cons_succ]
          obtain rfl := f2 (hm ⟨2, .data⟩ (by simp) rfl)
          clear f2
          go_simp
          (with_reducible refine (HM2.out _ (B0.trans ((HB).mono B0.size))).mono ?_)
          rintro e w3 ⟨gg, AA, nn, cc, rfl, hi, hb⟩
          have HB3 := HB.trans (hb.mono HB.size)
          go_wp2_with fail
          exact hK.out _ _ ⟨u15, u16, .agg #[.slice A2 n2 c2, .bool s2], .agg #[.bool gg, .slice AA nn cc], u19, u6, u7, (by simp only [Act.put, List.setIfInBounds_toArray, List.set_cons_zero, List.set_cons_succ]), HB3, (fun h => f0 (by simpa using h)), (fun h => (f1 (by simpa using h)).below hb), (fun _ => rfl), (fun _ => ⟨_, _, _, _, rfl, hi⟩), (fun h => (f4 (by simpa using h)).below hb), (fun h => by simpa using (f5 (by simpa using h)).below hb), (fun h => by simpa using (f6 (by simpa using h)).below hb), (fun h h' => n01 (by simpa using h) (by simpa using h')), (fun h => by simpa using t0 (by simpa using h)), (fun h => by simpa using t1 (by simpa using h))⟩
        · intro d a2 w2 hd hm ⟨u15, u16, u17, u18, u19, u6, u7, e, HB, f0, f1, f2, f3, f4, f5, f6, n01, t0, t1⟩ K hK
          subst e
          simp only [Act.put, List.setIfInBounds_toArray, List.set_cons_zero, List.set_cons_succ]
          obtain ⟨G3, A3, N3, C3, rfl, I3⟩ := f3 (hm ⟨3, .data⟩ (by simp) rfl)
          go_simp
          (with_reducible refine (HAb.out G3 A3 N3 C3 _ I3).mono ?_)
          rintro e w3 ⟨gg, AA, nn, cc, rfl, hi, hb⟩
          have HB3 := HB.trans (hb.mono HB.size)
          go_wp2_with fail
          exact hK.out _ _ ⟨u15, u16, u17, .agg #[.bool G3, .slice A3 N3 C3], .agg #[.bool gg, .slice AA nn cc], u6, u7, (by simp only [Act.put, List.setIfInBounds_toArray, List.set_cons_zero, List.set_cons_succ]), HB3, (fun h => f0 (by simpa using h)), (fun h => (f1 (by simpa using h)).below hb), (fun h => f2 (by simpa using h)), (fun h => (f3 (by simpa using h)).below hb), (fun _ => ⟨_, _, _, _, rfl, hi⟩), (fun h => by simpa using (f5 (by simpa using h)).below hb), (fun h => by simpa using (f6 (by simpa using h)).below hb), (fun h h' => n01 (by simpa using h) (by simpa using h')), (fun h => by simpa using t0 (by simpa using h)), (fun h => by simpa using t1 (by simpa using h))⟩
        · intro d a2 w2 hd hm ⟨u15, u16, u17, u18, u19, u6, u7, e, HB, f0, f1, f2, f3, f4, f5, f6, n01, t0, t1⟩ K hK
          subst e
          simp only [Act.put, List.setIfInBounds_toArray, List.set_cons_zero, List.set_cons_succ]
          have hb : Below w2.heap.size w2 (w2.alloc (.cells #[.bool false, .slice none 0 0] 28)) := (Below.refl _ _).alloc (Nat.le_refl _) _
          have HB3 := HB.trans (hb.mono HB.size)
          go_simp
          exact hK.out _ _ ⟨u15, u16, u17, u18, u19, .pointer (some ⟨w2.heap.size, 0, none⟩), u7, (by simp only [Act.put, List.setIfInBounds_toArray, List.set_cons_zero, List.set_cons_succ]), HB3, (fun h => f0 (by simpa using h)), (fun h => (f1 (by simpa using h)).below hb), (fun h => f2 (by simpa using h)), (fun h => (f3 (by simpa using h)).below hb), (fun h => (f4 (by simpa using h)).below hb), (fun _ => by have hs : d 7 = false := (by cases hq : d 7 with | false => rfl | true => (have hz := t0 hq; rw [hd] at hz; cases hz)); simpa [hs] using OwnP.new HB.size (a)), (fun h => by simpa using (f6 (by simpa using h)).below hb), (fun _ h' => ((f6 (by simpa using h')).lt).symm), (fun _ => by simp), (fun h => by simpa using t1 (by simpa using h))⟩
        · intro d a2 w2 hd hm ⟨u15, u16, u17, u18, u19, u6, u7, e, HB, f0, f1, f2, f3, f4, f5, f6, n01, t0, t1⟩ K hK
          subst e
          simp only [Act.put, List.setIfInBounds_toArray, List.set_cons_zero, List.set_cons_succ]
          have hb : Below w2.heap.size w2 (w2.alloc (.cells #[.bool false, .slice none 0 0] 28)) := (Below.refl _ _).alloc (Nat.le_refl _) _
          have HB3 := HB.trans (hb.mono HB.size)
          go_simp
          exact hK.out _ _ ⟨u15, u16, u17, u18, u19, u6, .pointer (some ⟨w2.heap.size, 0, none⟩), (by simp only [Act.put, List.setIfInBounds_toArray, List.set_cons_zero, List.set_cons_succ]), HB3, (fun h => f0 (by simpa using h)), (fun h => (f1 (by simpa using h)).below hb), (fun h => f2 (by simpa using h)), (fun h => (f3 (by simpa using h)).below hb), (fun h => (f4 (by simpa using h)).below hb), (fun h => by simpa using (f5 (by simpa using h)).below hb), (fun _ => by have hs : d 8 = false := (by cases hq : d 8 with | false => rfl | true => (have hz := t1 hq; rw [hd] at hz; cases hz)); simpa [hs] using OwnP.new HB.size (m)), (fun h _ => (f5 (by simpa using h)).lt), (fun h => by simpa using t0 (by simpa using h)), (fun _ => by simp)⟩
        · intro d a2 w2 hd hm ⟨u15, u16, u17, u18, u19, u6, u7, e, HB, f0, f1, f2, f3, f4, f5, f6, n01, t0, t1⟩ K hK
          subst e
          simp only [Act.put, List.setIfInBounds_toArray, List.set_cons_zero, List.set_cons_succ]
          obtain ⟨gg, AA, nn, cc, rfl, hi⟩ := f1 (hm ⟨1, .data⟩ (by simp) rfl)
          obtain ⟨g, rfl, hg, b0, b1, hs, n0, n1, _⟩ := f5 (hm ⟨5, .data⟩ (by simp) rfl)
          obtain ⟨k0, k1, k2, k3, k4⟩ := id hs
          go_simp
          exact hK.out _ _ ⟨u15, .agg #[.bool gg, .slice AA nn cc], u17, u18, u19, .pointer (some ⟨g, 0, none⟩), u7, (by simp only [Act.put, List.setIfInBounds_toArray, List.set_cons_zero, List.set_cons_succ]), Below.set2 HB hg _ _, (fun h => f0 (by simpa using h)), (fun h => (f1 (by simpa using h)).set2 hs n0 n1 _ _), (fun h => f2 (by simpa using h)), (fun h => (f3 (by simpa using h)).set2 hs n0 n1 _ _), (fun h => (f4 (by simpa using h)).set2 hs n0 n1 _ _), (fun _ => by simpa using OwnP.near hi hg hs n0 n1), (fun h => by simpa using (f6 (by simpa using h)).far ((n01 (hm ⟨5, .data⟩ (by simp) rfl) (by simpa using h)).symm) hs n0 n1 _ _), (fun h h' => n01 (by simpa using h) (by simpa using h')), (fun _ => by simpa using hm ⟨5, .data⟩ (by simp) rfl), (fun h => by simpa using t1 (by simpa using h))⟩
        · intro d a2 w2 hd hm ⟨u15, u16, u17, u18, u19, u6, u7, e, HB, f0, f1, f2, f3, f4, f5, f6, n01, t0, t1⟩ K hK
          subst e
          simp only [Act.put, List.setIfInBounds_toArray, List.set_cons_zero, List.set_cons_succ]
          obtain ⟨gg, AA, nn, cc, rfl, hi⟩ := f4 (hm ⟨4, .data⟩ (by simp) rfl)
          obtain ⟨g, rfl, hg, b0, b1, hs, n0, n1, _⟩ := f6 (hm ⟨6, .data⟩ (by simp) rfl)
          obtain ⟨k0, k1, k2, k3, k4⟩ := id hs
          go_simp
          exact hK.out _ _ ⟨u15, u16, u17, u18, .agg #[.bool gg, .slice AA nn cc], u6, .pointer (some ⟨g, 0, none⟩), (by simp only [Act.put, List.setIfInBounds_toArray, List.set_cons_zero, List.set_cons_succ]), Below.set2 HB hg _ _, (fun h => f0 (by simpa using h)), (fun h => (f1 (by simpa using h)).set2 hs n0 n1 _ _), (fun h => f2 (by simpa using h)), (fun h => (f3 (by simpa using h)).set2 hs n0 n1 _ _), (fun h => (f4 (by simpa using h)).set2 hs n0 n1 _ _), (fun h => by simpa using (f5 (by simpa using h)).far (n01 (by simpa using h) (hm ⟨6, .data⟩ (by simp) rfl)) hs n0 n1 _ _), (fun _ => by simpa using OwnP.near hi hg hs n0 n1), (fun h h' => n01 (by simpa using h) (by simpa using h')), (fun h => by simpa using t0 (by simpa using h)), (fun _ => by simpa using hm ⟨6, .data⟩ (by simp) rfl)⟩
      · intro d a2 w2 hall ⟨u15, u16, u17, u18, u19, u6, u7, e, HB, f0, f1, f2, f3, f4, f5, f6, n01, t0, t1⟩
        subst e
        simp only [Act.put, List.setIfInBounds_toArray, List.set_cons_zero, List.set_cons_succ]
        obtain rfl := f0 (hall _ (by decide))
        obtain rfl := f2 (hall _ (by decide))
        obtain ⟨g0, rfl, h0, b0⟩ := OwnP.intAtB (by have := f5 (hall _ (by decide)); rwa [hall 7 (by decide)] at this)
        obtain ⟨g1, rfl, h1, b1⟩ := OwnP.intAtB (by have := f6 (hall _ (by decide)); rwa [hall 8 (by decide)] at this)
        go_wp2_with fail
        go_meet
        exact ⟨g0, g1, rfl, rfl, h0, h1, HB⟩
  case rest =>
  obtain ⟨g6, g7, rfl, rfl, ⟨ga, Aa, na, ca, X, Ia⟩, ⟨gm, Am, nm, cm, Y, Im⟩, D⟩ := hcut
  obtain ⟨W2, rfl⟩ : ∃ x : World, x = wc := ⟨_, rfl⟩
  replace B0 := B0.trans (D.mono B0.size)
  clear HX HM1 HM2 HAb X0 Y0 D Sb
  have ⟨x0, x1, _, _, _⟩ := X
  have ⟨y0, y1, _, _, _⟩ := Y
  obtain ⟨t, ht⟩ : ∃ t, cmpN m 2 = t := ⟨_, rfl⟩
  have HT := Lib.hid ht
  rcases Int.lt_or_le m 2 with hlt | hle
  · have ht0 := cmpN_lt0 ht hlt
    have HC := Lib.hid (crat_small ga Aa na ca gm Am nm cm _ Ia Im Sa Sm (by decide) hlt)
    clear ht hlt
    go_wp2_with fail
    (with_reducible refine HC.out.mono ?_)
    rintro e w3 ⟨rfl, b3⟩
    have a3 := (Below.refl w3.heap.size w3).alloc (Nat.le_refl _) (.cells #[.bool false, .slice none 0 0, .bool false, .slice none 0 0] 57)
    replace b3 := b3.trans (a3.mono b3.size)
    replace Y := Y.after b3
    replace Im := Im.below b3
    replace B0 := B0.trans (b3.mono B0.size)
    clear x0 x1 y0 y1 X Ia HC b3 a3 Sa
    go_upto_region 4 with (fail)
    generalize w3.alloc (.cells #[.bool false, .slice none 0 0, .bool false, .slice none 0 0] 57) = W4 at *
    have S2 : Sz 1 (2 : Int) := Sz.of (by decide) (by decide)
    have HS : Hid (∀ V, Below W4.heap.size W4 V → (V.cell? ⟨g7, 0, none⟩ = some (.bool gm) ∧ V.cell? ⟨g7, 1, none⟩ = some (.slice Am nm cm))) := fun V hV => ⟨(Y.after hV).1, (Y.after hV).2.1⟩
    have Dr0 : Below W4.heap.size W4 W4.drew := (Below.refl _ _).drew
    refine wp_region_seq (.pre [(0, true), (1, false), (2, false), (3, true)] .done) (fun W => (W.cell? ⟨g7, 0, none⟩ = some (.bool gm) ∧ W.cell? ⟨g7, 1, none⟩ = some (.slice Am nm cm))) (by kernel_rfl) (by kernel_rfl) ?_ (by kernel_rfl) (HS.out _ Dr0) ?_
    · refine chk_pre _ _ _ (by as_aux_lemma => kernel_rfl) ?_
      exact (by as_aux_lemma => kernel_rfl)
    refine seq_take _ ?_ rfl (Or.inl ⟨by rfl, ?_⟩) ?_
    rotate_left
    · (intro w hSw; (try dsimp only at hSw); go_simp; (try with_reducible rfl))
    try simp only [Act.put, List.setIfInBounds_toArray, List.set_cons_zero, List.set_cons_succ]
    refine seq_one _ rfl fun K hK => ?_
    go_simp
    (with_reducible refine (rof_any 2 _ (by decide) (by decide)).mono ?_)
    rintro e vr1 ⟨gr1, Ar1, nr1, cr1, rfl, ir1, br1⟩
    have Dr1 : Below W4.heap.size W4 vr1 := Below.trans Dr0 (br1.mono (Below.size Dr0))
    go_wp2_with fail
    refine hK.out _ _ (HS.out _ Dr1) (fun hHeld => ?_)
    clear hK K hHeld
    try simp only [Act.put, List.setIfInBounds_toArray, List.set_cons_zero, List.set_cons_succ]
    refine seq_one _ rfl fun K hK => ?_
    go_simp
    (with_reducible refine (rcmp_z gm gr1 Am Ar1 nm cm nr1 cr1 _ t (Im.below Dr1) ir1 Sm S2 HT.out).mono ?_)
    rintro e vr2 ⟨rfl, br2⟩
    have Dr2 : Below W4.heap.size W4 vr2 := Below.trans Dr1 (br2.mono (Below.size Dr1))
    go_wp2_with fail
    refine hK.out _ _ (HS.out _ Dr2) (fun hHeld => ?_)
    clear hK K hHeld
    try simp only [Act.put, List.setIfInBounds_toArray, List.set_cons_zero, List.set_cons_succ]
    refine seq_take _ ?_ rfl (Or.inl ⟨by rfl, ?_⟩) ?_
    rotate_left
    · (intro w hSw; (try dsimp only at hSw); go_simp; (try with_reducible rfl))
    try simp only [Act.put, List.setIfInBounds_toArray, List.set_cons_zero, List.set_cons_succ]
    refine NoPanic.normal ?_
    go_wp2_with fail
    go_ret
    exact ⟨rfl, B0.trans (Dr2.mono B0.size)⟩
  have ht0 := cmpN_ge0 ht hle
  have HC := Lib.hid (crat_z ga Aa na ca gm Am nm cm _ Ia Im Sa Sm (by decide) hle)
  clear ht
  go_wp2_with fail
  (with_reducible refine HC.out.mono ?_)
  rintro e w3 ⟨r, hr, ⟨gN, AN, nN, cN, gD, AD, nD, cD, q, rfl, Iq, b3, hg⟩ | ⟨rfl, b3, _⟩⟩
  case' inr =>
    have a3 := (Below.refl w3.heap.size w3).alloc (Nat.le_refl _) (.cells #[.bool false, .slice none 0 0, .bool false, .slice none 0 0] 57)
    replace b3 := b3.trans (a3.mono b3.size)
    replace Y := Y.after b3
    replace Im := Im.below b3
    replace B0 := B0.trans (b3.mono B0.size)
    clear x0 x1 y0 y1 X Ia HC b3 a3 Sa
    go_upto_region 4 with (fail)
    generalize w3.alloc (.cells #[.bool false, .slice none 0 0, .bool false, .slice none 0 0] 57) = W4 at *
    have S2 : Sz 1 (2 : Int) := Sz.of (by decide) (by decide)
    have HS : Hid (∀ V, Below W4.heap.size W4 V → (V.cell? ⟨g7, 0, none⟩ = some (.bool gm) ∧ V.cell? ⟨g7, 1, none⟩ = some (.slice Am nm cm))) := fun V hV => ⟨(Y.after hV).1, (Y.after hV).2.1⟩
    have Dr0 : Below W4.heap.size W4 W4.drew := (Below.refl _ _).drew
    refine wp_region_seq (.pre [(0, true), (1, false), (2, false), (3, true)] .done) (fun W => (W.cell? ⟨g7, 0, none⟩ = some (.bool gm) ∧ W.cell? ⟨g7, 1, none⟩ = some (.slice Am nm cm))) (by kernel_rfl) (by kernel_rfl) ?_ (by kernel_rfl) (HS.out _ Dr0) ?_
    · refine chk_pre _ _ _ (by as_aux_lemma => kernel_rfl) ?_
      exact (by as_aux_lemma => kernel_rfl)
    refine seq_take _ ?_ rfl (Or.inl ⟨by rfl, ?_⟩) ?_
    rotate_left
    · (intro w hSw; (try dsimp only at hSw); go_simp; (try with_reducible rfl))
    try simp only [Act.put, List.setIfInBounds_toArray, List.set_cons_zero, List.set_cons_succ]
    refine seq_one _ rfl fun K hK => ?_
    go_simp
    (with_reducible refine (rof_any 2 _ (by decide) (by decide)).mono ?_)
    rintro e vr1 ⟨gr1, Ar1, nr1, cr1, rfl, ir1, br1⟩
    have Dr1 : Below W4.heap.size W4 vr1 := Below.trans Dr0 (br1.mono (Below.size Dr0))
    go_wp2_with fail
    refine hK.out _ _ (HS.out _ Dr1) (fun hHeld => ?_)
    clear hK K hHeld
    try simp only [Act.put, List.setIfInBounds_toArray, List.set_cons_zero, List.set_cons_succ]
    refine seq_one _ rfl fun K hK => ?_
    go_simp
    (with_reducible refine (rcmp_z gm gr1 Am Ar1 nm cm nr1 cr1 _ t (Im.below Dr1) ir1 Sm S2 HT.out).mono ?_)
    rintro e vr2 ⟨rfl, br2⟩
    have Dr2 : Below W4.heap.size W4 vr2 := Below.trans Dr1 (br2.mono (Below.size Dr1))
    go_wp2_with fail
    refine hK.out _ _ (HS.out _ Dr2) (fun hHeld => ?_)
    clear hK K hHeld
    try simp only [Act.put, List.setIfInBounds_toArray, List.set_cons_zero, List.set_cons_succ]
    refine seq_take _ ?_ rfl (Or.inl ⟨by rfl, ?_⟩) ?_
    rotate_left
    · (intro w hSw; (try dsimp only at hSw); go_simp; (try with_reducible rfl))
    try simp only [Act.put, List.setIfInBounds_toArray, List.set_cons_zero, List.set_cons_succ]
    refine NoPanic.normal ?_
    go_wp2_with fail
    go_ret
    exact ⟨rfl, B0.trans (Dr2.mono B0.size)⟩
  have a3 := (Below.refl w3.heap.size w3).alloc (Nat.le_refl _) (.cells #[.bool gN, .slice AN nN cN, .bool gD, .slice AD nD cD] 57)
  have Q := Slot4.new w3 (.bool gN) (.slice AN nN cN) (.bool gD) (.slice AD nD cD) 57
  replace Iq := Iq.below a3
  replace b3 := b3.trans (a3.mono b3.size)
  replace X := X.after b3
  replace Y := Y.after b3
  replace Ia := Ia.below b3
  replace Im := Im.below b3
  replace B0 := B0.trans (b3.mono B0.size)
  clear x0 x1 y0 y1 HC b3 a3
  obtain ⟨gq, hgq⟩ : ∃ gq, gq = w3.heap.size := ⟨_, rfl⟩
  go_upto_region 4 with (fail)
  generalize w3.alloc (.cells #[.bool gN, .slice AN nN cN, .bool gD, .slice AD nD cD] 57) = W4 at *
  rw [← hgq] at Q ⊢
  clear hgq
  have S2 : Sz 1 (2 : Int) := Sz.of (by decide) (by decide)
  have HS : Hid (∀ V, Below W4.heap.size W4 V → (V.cell? ⟨g7, 0, none⟩ = some (.bool gm) ∧ V.cell? ⟨g7, 1, none⟩ = some (.slice Am nm cm))) := fun V hV => ⟨(Y.after hV).1, (Y.after hV).2.1⟩
  have Dr0 : Below W4.heap.size W4 W4.drew := (Below.refl _ _).drew
  refine wp_region_seq (.pre [(0, true), (1, false), (2, false), (3, true)] .done) (fun W => (W.cell? ⟨g7, 0, none⟩ = some (.bool gm) ∧ W.cell? ⟨g7, 1, none⟩ = some (.slice Am nm cm))) (by kernel_rfl) (by kernel_rfl) ?_ (by kernel_rfl) (HS.out _ Dr0) ?_
  · refine chk_pre _ _ _ (by as_aux_lemma => kernel_rfl) ?_
    exact (by as_aux_lemma => kernel_rfl)
  refine seq_take _ ?_ rfl (Or.inl ⟨by rfl, ?_⟩) ?_
  rotate_left
  · (intro w hSw; (try dsimp only at hSw); go_simp; (try with_reducible rfl))
  try simp only [Act.put, List.setIfInBounds_toArray, List.set_cons_zero, List.set_cons_succ]
  refine seq_one _ rfl fun K hK => ?_
  go_simp
  (with_reducible refine (rof_any 2 _ (by decide) (by decide)).mono ?_)
  rintro e vr1 ⟨gr1, Ar1, nr1, cr1, rfl, ir1, br1⟩
  have Dr1 : Below W4.heap.size W4 vr1 := Below.trans Dr0 (br1.mono (Below.size Dr0))
  go_wp2_with fail
  refine hK.out _ _ (HS.out _ Dr1) (fun hHeld => ?_)
  clear hK K hHeld
  try simp only [Act.put, List.setIfInBounds_toArray, List.set_cons_zero, List.set_cons_succ]
  refine seq_one _ rfl fun K hK => ?_
  go_simp
  (with_reducible refine (rcmp_z gm gr1 Am Ar1 nm cm nr1 cr1 _ t (Im.below Dr1) ir1 Sm S2 HT.out).mono ?_)
  rintro e vr2 ⟨rfl, br2⟩
  have Dr2 : Below W4.heap.size W4 vr2 := Below.trans Dr1 (br2.mono (Below.size Dr1))
  go_wp2_with fail
  refine hK.out _ _ (HS.out _ Dr2) (fun hHeld => ?_)
  clear hK K hHeld
  try simp only [Act.put, List.setIfInBounds_toArray, List.set_cons_zero, List.set_cons_succ]
  refine seq_take _ ?_ rfl (Or.inl ⟨by rfl, ?_⟩) ?_
  rotate_left
  · (intro w hSw; (try dsimp only at hSw); go_simp; (try with_reducible rfl))
  try simp only [Act.put, List.setIfInBounds_toArray, List.set_cons_zero, List.set_cons_succ]
  refine NoPanic.normal ?_
  replace X := X.after Dr2
  replace Y := Y.after Dr2
  replace Ia := Ia.below Dr2
  replace Im := Im.below Dr2
  replace Q := Q.after Dr2
  replace Iq := Iq.below Dr2
  replace B0 := B0.trans (Dr2.mono B0.size)
  clear Dr0 Dr1 Dr2 br1 br2 ir1 HS S2 HT ht0
  have ⟨y0, y1, _, _, _⟩ := Y
  go_wp2_with fail
  (with_reducible refine (limit_z gm Am nm cm _ Im Sm (by decide) (by decide) (by omega)).mono ?_)
  rintro e w5 ⟨r', ⟨g10, A10, n10, c10, rfl, I10, b5⟩, hr'⟩
  obtain rfl := hr.out.uniq hr'.out
  have a5 := (Below.refl w5.heap.size w5).alloc (Nat.le_refl _) (.cells #[.bool g10, .slice A10 n10 c10] 28)
  have T := Slot2.new w5 (.bool g10) (.slice A10 n10 c10) 28
  replace I10 := I10.below a5
  replace b5 := b5.trans (a5.mono b5.size)
  replace X := X.after b5
  replace Y := Y.after b5
  replace Ia := Ia.below b5
  replace Im := Im.below b5
  replace Q := Q.after b5
  replace Iq := Iq.below b5
  replace B0 := B0.trans (b5.mono B0.size)
  clear y0 y1 b5 a5
  have hrm := (hr.out.lt hle).2
  have hrn := hr.out.nn
  have hq1 := hg.out.nlo
  have hq2 := hg.out.nhi
  have hq3 := hg.out.dhi
  have hq4 := hg.out.dpos
  have Sr : Sz 6 (r' : Int) := Sm.abs_le' (by omega)
  have Sn : Sz 6 q.num := Sm.abs_le' (by omega)
  have Sd : Sz 6 (q.den : Int) := Sm.abs_le' (by omega)
  have Sna : Sz 6 ((q.num.natAbs : Nat) : Int) := Sm.abs_le' (by omega)
  obtain ⟨t1, ht1⟩ : ∃ t, cmpN ((q.num.natAbs : Nat) : Int) (r' : Int) = t := ⟨_, rfl⟩
  obtain ⟨t2, ht2⟩ : ∃ t, cmpN (q.den : Int) (r' : Int) = t := ⟨_, rfl⟩
  have h1 := cmpN_le0 ht1 (by omega)
  have h2 := cmpN_le0 ht2 (by omega)
  have HT1 := Lib.hid ht1
  have HT2 := Lib.hid ht2
  have HG := Lib.hid (good_gcd hg.out)
  have HMd := Lib.hid (good_mod hg.out)
  clear ht1 ht2 hr hr' hg hrn hq1 hq2 hq3 hq4
  obtain ⟨g9, hg9⟩ : ∃ g9, g9 = w5.heap.size := ⟨_, rfl⟩
  go_upto_region 9 with (fail)
  generalize w5.alloc (.cells #[.bool g10, .slice A10 n10 c10] 28) = W9 at *
  rw [← hg9] at T ⊢
  clear hg9
  have HS : Hid (∀ V, Below W9.heap.size W9 V → (V.cell? ⟨gq, 0, none⟩ = some (.bool gN) ∧ V.cell? ⟨gq, 1, none⟩ = some (.slice AN nN cN) ∧ V.cell? ⟨gq, 2, none⟩ = some (.bool gD) ∧ V.cell? ⟨gq, 3, none⟩ = some (.slice AD nD cD)) ∧ (V.cell? ⟨g9, 0, none⟩ = some (.bool g10) ∧ V.cell? ⟨g9, 1, none⟩ = some (.slice A10 n10 c10))) := fun V hV => ⟨(Q.after hV).cells, (T.after hV).1, (T.after hV).2.1⟩
  have Ds0 : Below W9.heap.size W9 W9.drew := (Below.refl _ _).drew
  refine wp_region_seq (.pre [(0, true), (1, false), (2, true), (3, true), (4, true), (5, true), (7, true), (6, false), (8, false), (9, true), (10, true), (11, true), (12, true), (13, true), (14, true), (15, false), (16, true), (17, true)] .done) (fun W => (W.cell? ⟨gq, 0, none⟩ = some (.bool gN) ∧ W.cell? ⟨gq, 1, none⟩ = some (.slice AN nN cN) ∧ W.cell? ⟨gq, 2, none⟩ = some (.bool gD) ∧ W.cell? ⟨gq, 3, none⟩ = some (.slice AD nD cD)) ∧ (W.cell? ⟨g9, 0, none⟩ = some (.bool g10) ∧ W.cell? ⟨g9, 1, none⟩ = some (.slice A10 n10 c10))) (by kernel_rfl) (by kernel_rfl) ?_ (by kernel_rfl) (HS.out _ Ds0) ?_
  · refine chk_pre _ _ _ (by as_aux_lemma => kernel_rfl) ?_
    exact (by as_aux_lemma => kernel_rfl)
  refine seq_take _ ?_ rfl (Or.inl ⟨by rfl, ?_⟩) ?_
  rotate_left
  · (intro w hSw; (try dsimp only at hSw); go_simp; (try with_reducible rfl))
  try simp only [Act.put, List.setIfInBounds_toArray, List.set_cons_zero, List.set_cons_succ]
  refine seq_one _ rfl fun K hK => ?_
  go_simp
  (with_reducible refine (rqvalid_z gN AN nN cN gD AD nD cD _ (Iq.below Ds0) ⟨Sn, Sd⟩ (by decide)).mono ?_)
  rintro e vs1 ⟨rfl, bs1⟩
  have Ds1 : Below W9.heap.size W9 vs1 := Below.trans Ds0 (bs1.mono (Below.size Ds0))
  go_wp2_with fail
  refine hK.out _ _ (HS.out _ Ds1) (fun hHeld => ?_)
  clear hK K hHeld
  try simp only [Act.put, List.setIfInBounds_toArray, List.set_cons_zero, List.set_cons_succ]
  refine seq_take _ ?_ rfl (Or.inl ⟨by rfl, ?_⟩) ?_
  rotate_left
  · (intro w hSw; (try dsimp only at hSw); go_simp; (try with_reducible rfl))
  try simp only [Act.put, List.setIfInBounds_toArray, List.set_cons_zero, List.set_cons_succ]
  refine seq_take _ ?_ rfl (Or.inl ⟨by rfl, ?_⟩) ?_
  rotate_left
  · (intro w hSw; (try dsimp only at hSw); go_simp; (try with_reducible rfl))
  try simp only [Act.put, List.setIfInBounds_toArray, List.set_cons_zero, List.set_cons_succ]
  refine seq_take _ ?_ rfl (Or.inl ⟨by rfl, ?_⟩) ?_
  rotate_left
  · (intro w hSw; (try dsimp only at hSw); go_simp; (try with_reducible rfl))
  try simp only [Act.put, List.setIfInBounds_toArray, List.set_cons_zero, List.set_cons_succ]
  refine seq_take _ ?_ rfl (Or.inl ⟨by rfl, ?_⟩) ?_
  rotate_left
  · (intro w hSw; (try dsimp only at hSw); go_simp; (try with_reducible rfl))
  try simp only [Act.put, List.setIfInBounds_toArray, List.set_cons_zero, List.set_cons_succ]
  refine seq_take _ ?_ rfl (Or.inl ⟨by rfl, ?_⟩) ?_
  rotate_left
  · (intro w hSw; (try dsimp only at hSw); go_simp; (try with_reducible rfl))
  try simp only [Act.put, List.setIfInBounds_toArray, List.set_cons_zero, List.set_cons_succ]
  refine seq_one _ rfl fun K hK => ?_
  go_simp
  (with_reducible refine (rabs_z gN AN nN cN _ (Iq.num.below Ds1) Sn).mono ?_)
  rintro e vs2 ⟨gs2, As2, ns2, cs2, rfl, is2, bs2⟩
  have Ds2 : Below W9.heap.size W9 vs2 := Below.trans Ds1 (bs2.mono (Below.size Ds1))
  go_wp2_with fail
  refine hK.out _ _ (HS.out _ Ds2) (fun hHeld => ?_)
  clear hK K hHeld
  try simp only [Act.put, List.setIfInBounds_toArray, List.set_cons_zero, List.set_cons_succ]
  refine seq_one _ rfl fun K hK => ?_
  go_simp
  (with_reducible refine (rcmp_z gs2 g10 As2 A10 ns2 cs2 n10 c10 _ t1 is2 (I10.below Ds2) Sna Sr HT1.out).mono ?_)
  rintro e vs3 ⟨rfl, bs3⟩
  have Ds3 : Below W9.heap.size W9 vs3 := Below.trans Ds2 (bs3.mono (Below.size Ds2))
  go_wp2_with fail
  refine hK.out _ _ (HS.out _ Ds3) (fun hHeld => ?_)
  clear hK K hHeld
  try simp only [Act.put, List.setIfInBounds_toArray, List.set_cons_zero, List.set_cons_succ]
  refine seq_take _ ?_ rfl (Or.inl ⟨by rfl, ?_⟩) ?_
  rotate_left
  · (intro w hSw; (try dsimp only at hSw); go_simp; (try with_reducible rfl))
  try simp only [Act.put, List.setIfInBounds_toArray, List.set_cons_zero, List.set_cons_succ]
  refine seq_take _ ?_ rfl (Or.inl ⟨by rfl, ?_⟩) ?_
  rotate_left
  · (intro w hSw; (try dsimp only at hSw); go_simp; (try with_reducible rfl))
  try simp only [Act.put, List.setIfInBounds_toArray, List.set_cons_zero, List.set_cons_succ]
  refine seq_take _ ?_ rfl (Or.inl ⟨by rfl, ?_⟩) ?_
  rotate_left
  · (intro w hSw; (try dsimp only at hSw); go_simp; (try with_reducible rfl))
  try simp only [Act.put, List.setIfInBounds_toArray, List.set_cons_zero, List.set_cons_succ]
  refine seq_take _ ?_ rfl (Or.inl ⟨by rfl, ?_⟩) ?_
  rotate_left
  · (intro w hSw; (try dsimp only at hSw); go_simp; (try with_reducible rfl))
  try simp only [Act.put, List.setIfInBounds_toArray, List.set_cons_zero, List.set_cons_succ]
  refine seq_take _ ?_ rfl (Or.inl ⟨by rfl, ?_⟩) ?_
  rotate_left
  · (intro w hSw; (try dsimp only at hSw); go_simp; (try with_reducible rfl))
  try simp only [Act.put, List.setIfInBounds_toArray, List.set_cons_zero, List.set_cons_succ]
  refine seq_take _ ?_ rfl (Or.inl ⟨by rfl, ?_⟩) ?_
  rotate_left
  · (intro w hSw; (try dsimp only at hSw); go_simp; (try with_reducible rfl))
  try simp only [Act.put, List.setIfInBounds_toArray, List.set_cons_zero, List.set_cons_succ]
  refine seq_one _ rfl fun K hK => ?_
  go_simp
  (with_reducible refine (rcmp_z gD g10 AD A10 nD cD n10 c10 _ t2 (Iq.den.below Ds3) (I10.below Ds3) Sd Sr HT2.out).mono ?_)
  rintro e vs4 ⟨rfl, bs4⟩
  have Ds4 : Below W9.heap.size W9 vs4 := Below.trans Ds3 (bs4.mono (Below.size Ds3))
  go_wp2_with fail
  refine hK.out _ _ (HS.out _ Ds4) (fun hHeld => ?_)
  clear hK K hHeld
  try simp only [Act.put, List.setIfInBounds_toArray, List.set_cons_zero, List.set_cons_succ]
  refine seq_take _ ?_ rfl (Or.inl ⟨by rfl, ?_⟩) ?_
  rotate_left
  · (intro w hSw; (try dsimp only at hSw); go_simp; (try with_reducible rfl))
  try simp only [Act.put, List.setIfInBounds_toArray, List.set_cons_zero, List.set_cons_succ]
  refine seq_take _ ?_ rfl (Or.inl ⟨by rfl, ?_⟩) ?_
  rotate_left
  · (intro w hSw; (try dsimp only at hSw); go_simp; (try with_reducible rfl))
  try simp only [Act.put, List.setIfInBounds_toArray, List.set_cons_zero, List.set_cons_succ]
  refine NoPanic.normal ?_
  replace X := X.after Ds4
  replace Y := Y.after Ds4
  replace Ia := Ia.below Ds4
  replace Im := Im.below Ds4
  replace Q := Q.after Ds4
  replace Iq := Iq.below Ds4
  replace B0 := B0.trans (Ds4.mono B0.size)
  clear Ds0 Ds1 Ds2 Ds3 Ds4 bs1 bs2 bs3 bs4 is2 HS HT1 HT2 h1 h2 T I10
  go_upto_region 11 with (fail)
  generalize vs4 = W11 at *
  have Sad := Sa.mul Sd (by decide)
  have Snad := (Sn.mono (l := 12) (by decide) (by decide)).sub Sad (by decide)
  have HX : Hid (∀ V, Below W11.heap.size W11 V → ((V.cell? ⟨g6, 0, none⟩ = some (.bool ga) ∧ V.cell? ⟨g6, 1, none⟩ = some (.slice Aa na ca)) ∧ (V.cell? ⟨g7, 0, none⟩ = some (.bool gm) ∧ V.cell? ⟨g7, 1, none⟩ = some (.slice Am nm cm))) ∧ (V.cell? ⟨gq, 0, none⟩ = some (.bool gN) ∧ V.cell? ⟨gq, 1, none⟩ = some (.slice AN nN cN) ∧ V.cell? ⟨gq, 2, none⟩ = some (.bool gD) ∧ V.cell? ⟨gq, 3, none⟩ = some (.slice AD nD cD))) := fun V hV => ⟨⟨⟨(X.after hV).1, (X.after hV).2.1⟩, (Y.after hV).1, (Y.after hV).2.1⟩, (Q.after hV).cells⟩
  have HI : Hid (∀ V, Below W11.heap.size W11 V → IsInt V ga Aa na ca a ∧ IsInt V gm Am nm cm m ∧ IsRat V gN AN nN cN gD AD nD cD q) := fun V hV => ⟨Ia.below hV, Im.below hV, Iq.below hV⟩
  go_cut [11, 12] (fun p11 p12 wx => ∃ g11 g12, p11 = .pointer (some ⟨g11, 0, none⟩) ∧ p12 = .pointer (some ⟨g12, 0, none⟩) ∧ IntAt wx g12 ((q.num - a * q.den) % m) ∧ Below W11.heap.size W11 wx)
  case first =>
    as_aux_lemma =>
      refine wp_region_ev (fun d a0 a' w' => ∃ u63 u64 u65 u66 u67 u68 u69 u70 u71 u62 u72 u73 u74 u11 u12 u13 : Value, a' = ((((((((((((((((a0.put (some 63) u63).put (some 64) u64).put (some 65) u65).put (some 66) u66).put (some 67) u67).put (some 68) u68).put (some 69) u69).put (some 70) u70).put (some 71) u71).put (some 62) u62).put (some 72) u72).put (some 73) u73).put (some 74) u74).put (some 11) u11).put (some 12) u12).put (some 13) u13) ∧ Below W11.heap.size W11 w' ∧ (d 0 = true → u63 = .pointer (some ⟨gq, 0, none⟩)) ∧ (d 1 = true → u64 = .agg #[.bool gN, .slice AN nN cN]) ∧ (d 2 = true → u65 = .agg #[.bool ga, .slice Aa na ca]) ∧ (d 3 = true → u66 = .pointer (some ⟨gq, 2, none⟩)) ∧ (d 4 = true → u67 = .agg #[.bool gD, .slice AD nD cD]) ∧ (d 5 = true → IntV w' u68 (a * q.den)) ∧ (d 6 = true → IntV w' u69 (q.num - a * q.den)) ∧ (d 7 = true → u70 = .agg #[.bool gm, .slice Am nm cm]) ∧ (d 8 = true → TupV w' u71 ((q.num - a * q.den) / m) ((q.num - a * q.den) % m) (0)) ∧ (d 9 = true → TupV w' u62 ((q.num - a * q.den) / m) ((q.num - a * q.den) % m) (0)) ∧ (d 10 = true → IntV w' u72 ((q.num - a * q.den) / m)) ∧ (d 11 = true → IntV w' u73 ((q.num - a * q.den) % m)) ∧ (d 12 = true → u74 = .int .i64 (0)) ∧ (d 17 = true → u13 = .int .i64 (0)) ∧ (d 13 = true → OwnP W11.heap.size w' u11 (d 15) ((q.num - a * q.den) / m)) ∧ (d 14 = true → OwnP W11.heap.size w' u12 (d 16) ((q.num - a * q.den) % m)) ∧ (d 13 = true → d 14 = true → u11 ≠ u12) ∧ (d 15 = true → d 13 = true) ∧ (d 16 = true → d 14 = true)) (by kernel_rfl) (by kernel_rfl) ?_ ?_ ?_ ?_
      · intro d d' h a' w' hh
        obtain rfl : d = d' := funext h
        exact hh
      · exact ⟨_, _, _, _, _, _, _, _, _, _, _, _, _, _, _, _, (by simp only [Act.put, List.setIfInBounds_toArray, List.set_cons_zero, List.set_cons_succ]; rfl), (Below.refl _ _).drew, (fun h => by cases h), (fun h => by cases h), (fun h => by cases h), (fun h => by cases h), (fun h => by cases h), (fun h => by cases h), (fun h => by cases h), (fun h => by cases h), (fun h => by cases h), (fun h => by cases h), (fun h => by cases h), (fun h => by cases h), (fun h => by cases h), (fun h => by cases h), (fun h => by cases h), (fun h => by cases h), (fun h => by cases h), (fun h => by cases h), (fun h => by cases h)⟩
      · refine ⟨?_, ?_, ?_, ?_, ?_, ?_, ?_, ?_, ?_, ?_, ?_, ?_, ?_, ?_, ?_, ?_, ?_, ?_, trivial⟩
        · intro d a2 w2 hd hm ⟨u63, u64, u65, u66, u67, u68, u69, u70, u71, u62, u72, u73, u74, u11, u12, u13, e, HB, f0, f1, f2, f3, f4, f5, f6, f7, f8, f9, f10, f11, f12, f17, f13, f14, n01, t0, t1⟩ K hK
          subst e
          simp only [Act.put, List.setIfInBounds_toArray, List.set_cons_zero, List.set_cons_succ]
          go_simp
          exact hK.out _ _ ⟨.pointer (some ⟨gq, 0, none⟩), u64, u65, u66, u67, u68, u69, u70, u71, u62, u72, u73, u74, u11, u12, u13, (by simp only [Act.put, List.setIfInBounds_toArray, List.set_cons_zero, List.set_cons_succ]), HB, (fun _ => rfl), (fun h => f1 (by simpa using h)), (fun h => f2 (by simpa using h)), (fun h => f3 (by simpa using h)), (fun h => f4 (by simpa using h)), (fun h => (f5 (by simpa using h))), (fun h => (f6 (by simpa using h))), (fun h => f7 (by simpa using h)), (fun h => (f8 (by simpa using h))), (fun h => (f9 (by simpa using h))), (fun h => (f10 (by simpa using h))), (fun h => (f11 (by simpa using h))), (fun h => f12 (by simpa using h)), (fun h => f17 (by simpa using h)), (fun h => by simpa using (f13 (by simpa using h))), (fun h => by simpa using (f14 (by simpa using h))), (fun h h' => n01 (by simpa using h) (by simpa using h')), (fun h => by simpa using t0 (by simpa using h)), (fun h => by simpa using t1 (by simpa using h))⟩
        · intro d a2 w2 hd hm ⟨u63, u64, u65, u66, u67, u68, u69, u70, u71, u62, u72, u73, u74, u11, u12, u13, e, HB, f0, f1, f2, f3, f4, f5, f6, f7, f8, f9, f10, f11, f12, f17, f13, f14, n01, t0, t1⟩ K hK
          subst e
          simp only [Act.put, List.setIfInBounds_toArray, List.set_cons_zero, List.set_cons_succ]
          obtain rfl := f0 (hm ⟨0, .data⟩ (by simp) rfl)
          clear f0
          obtain ⟨⟨⟨q0, q1⟩, q2, q3⟩, q4, q5, q6, q7⟩ := HX.out w2 HB
          go_simp
          exact hK.out _ _ ⟨.pointer (some ⟨gq, 0, none⟩), .agg #[.bool gN, .slice AN nN cN], u65, u66, u67, u68, u69, u70, u71, u62, u72, u73, u74, u11, u12, u13, (by simp only [Act.put, List.setIfInBounds_toArray, List.set_cons_zero, List.set_cons_succ]), HB, (fun _ => rfl), (fun _ => rfl), (fun h => f2 (by simpa using h)), (fun h => f3 (by simpa using h)), (fun h => f4 (by simpa using h)), (fun h => (f5 (by simpa using h))), (fun h => (f6 (by simpa using h))), (fun h => f7 (by simpa using h)), (fun h => (f8 (by simpa using h))), (fun h => (f9 (by simpa using h))), (fun h => (f10 (by simpa using h))), (fun h => (f11 (by simpa using h))), (fun h => f12 (by simpa using h)), (fun h => f17 (by simpa using h)), (fun h => by simpa using (f13 (by simpa using h))), (fun h => by simpa using (f14 (by simpa using h))), (fun h h' => n01 (by simpa using h) (by simpa using h')), (fun h => by simpa using t0 (by simpa using h)), (fun h => by simpa using t1 (by simpa using h))⟩
        · intro d a2 w2 hd hm ⟨u63, u64, u65, u66, u67, u68, u69, u70, u71, u62, u72, u73, u74, u11, u12, u13, e, HB, f0, f1, f2, f3, f4, f5, f6, f7, f8, f9, f10, f11, f12, f17, f13, f14, n01, t0, t1⟩ K hK
          subst e
          simp only [Act.put, List.setIfInBounds_toArray, List.set_cons_zero, List.set_cons_succ]
          obtain ⟨⟨⟨q0, q1⟩, q2, q3⟩, q4, q5, q6, q7⟩ := HX.out w2 HB
          go_simp
          exact hK.out _ _ ⟨u63, u64, .agg #[.bool ga, .slice Aa na ca], u66, u67, u68, u69, u70, u71, u62, u72, u73, u74, u11, u12, u13, (by simp only [Act.put, List.setIfInBounds_toArray, List.set_cons_zero, List.set_cons_succ]), HB, (fun h => f0 (by simpa using h)), (fun h => f1 (by simpa using h)), (fun _ => rfl), (fun h => f3 (by simpa using h)), (fun h => f4 (by simpa using h)), (fun h => (f5 (by simpa using h))), (fun h => (f6 (by simpa using h))), (fun h => f7 (by simpa using h)), (fun h => (f8 (by simpa using h))), (fun h => (f9 (by simpa using h))), (fun h => (f10 (by simpa using h))), (fun h => (f11 (by simpa using h))), (fun h => f12 (by simpa using h)), (fun h => f17 (by simpa using h)), (fun h => by simpa using (f13 (by simpa using h))), (fun h => by simpa using (f14 (by simpa using h))), (fun h h' => n01 (by simpa using h) (by simpa using h')), (fun h => by simpa using t0 (by simpa using h)), (fun h => by simpa using t1 (by simpa using h))⟩
        · intro d a2 w2 hd hm ⟨u63, u64, u65, u66, u67, u68, u69, u70, u71, u62, u72, u73, u74, u11, u12, u13, e, HB, f0, f1, f2, f3, f4, f5, f6, f7, f8, f9, f10, f11, f12, f17, f13, f14, n01, t0, t1⟩ K hK
          subst e
          simp only [Act.put, List.setIfInBounds_toArray, List.set_cons_zero, List.set_cons_succ]
          go_simp
          exact hK.out _ _ ⟨u63, u64, u65, .pointer (some ⟨gq, 2, none⟩), u67, u68, u69, u70, u71, u62, u72, u73, u74, u11, u12, u13, (by simp only [Act.put, List.setIfInBounds_toArray, List.set_cons_zero, List.set_cons_succ]), HB, (fun h => f0 (by simpa using h)), (fun h => f1 (by simpa using h)), (fun h => f2 (by simpa using h)), (fun _ => rfl), (fun h => f4 (by simpa using h)), (fun h => (f5 (by simpa using h))), (fun h => (f6 (by simpa using h))), (fun h => f7 (by simpa using h)), (fun h => (f8 (by simpa using h))), (fun h => (f9 (by simpa using h))), (fun h => (f10 (by simpa using h))), (fun h => (f11 (by simpa using h))), (fun h => f12 (by simpa using h)), (fun h => f17 (by simpa using h)), (fun h => by simpa using (f13 (by simpa using h))), (fun h => by simpa using (f14 (by simpa using h))), (fun h h' => n01 (by simpa using h) (by simpa using h')), (fun h => by simpa using t0 (by simpa using h)), (fun h => by simpa using t1 (by simpa using h))⟩
        · intro d a2 w2 hd hm ⟨u63, u64, u65, u66, u67, u68, u69, u70, u71, u62, u72, u73, u74, u11, u12, u13, e, HB, f0, f1, f2, f3, f4, f5, f6, f7, f8, f9, f10, f11, f12, f17, f13, f14, n01, t0, t1⟩ K hK
          subst e
          simp only [Act.put, List.setIfInBounds_toArray, List.set_cons_zero, List.set_cons_succ]
          obtain rfl := f3 (hm ⟨3, .data⟩ (by simp) rfl)
          clear f3
          obtain ⟨⟨⟨q0, q1⟩, q2, q3⟩, q4, q5, q6, q7⟩ := HX.out w2 HB
          go_simp
          exact hK.out _ _ ⟨u63, u64, u65, .pointer (some ⟨gq, 2, none⟩), .agg #[.bool gD, .slice AD nD cD], u68, u69, u70, u71, u62, u72, u73, u74, u11, u12, u13, (by simp only [Act.put, List.setIfInBounds_toArray, List.set_cons_zero, List.set_cons_succ]), HB, (fun h => f0 (by simpa using h)), (fun h => f1 (by simpa using h)), (fun h => f2 (by simpa using h)), (fun _ => rfl), (fun _ => rfl), (fun h => (f5 (by simpa using h))), (fun h => (f6 (by simpa using h))), (fun h => f7 (by simpa using h)), (fun h => (f8 (by simpa using h))), (fun h => (f9 (by simpa using h))), (fun h => (f10 (by simpa using h))), (fun h => (f11 (by simpa using h))), (fun h => f12 (by simpa using h)), (fun h => f17 (by simpa using h)), (fun h => by simpa using (f13 (by simpa using h))), (fun h => by simpa using (f14 (by simpa using h))), (fun h h' => n01 (by simpa using h) (by simpa using h')), (fun h => by simpa using t0 (by simpa using h)), (fun h => by simpa using t1 (by simpa using h))⟩
        · intro d a2 w2 hd hm ⟨u63, u64, u65, u66, u67, u68, u69, u70, u71, u62, u72, u73, u74, u11, u12, u13, e, HB, f0, f1, f2, f3, f4, f5, f6, f7, f8, f9, f10, f11, f12, f17, f13, f14, n01, t0, t1⟩ K hK
          subst e
          simp only [Act.put, List.setIfInBounds_toArray, List.set_cons_zero, List.set_cons_succ]
          obtain rfl := f2 (hm ⟨2, .data⟩ (by simp) rfl)
          clear f2
          obtain rfl := f4 (hm ⟨4, .data⟩ (by simp) rfl)
          clear f4
          go_simp
          (with_reducible refine (rmul_z ga gD Aa AD na ca nD cD _ (HI.out _ HB).1 (HI.out _ HB).2.2.den Sa Sd).mono ?_)
          rintro e w3 ⟨gg, AA, nn, cc, rfl, hi, hb⟩
          have HB3 := HB.trans (hb.mono HB.size)
          go_wp2_with fail
          exact hK.out _ _ ⟨u63, u64, .agg #[.bool ga, .slice Aa na ca], u66, .agg #[.bool gD, .slice AD nD cD], .agg #[.bool gg, .slice AA nn cc], u69, u70, u71, u62, u72, u73, u74, u11, u12, u13, (by simp only [Act.put, List.setIfInBounds_toArray, List.set_cons_zero, List.set_cons_succ]), HB3, (fun h => f0 (by simpa using h)), (fun h => f1 (by simpa using h)), (fun _ => rfl), (fun h => f3 (by simpa using h)), (fun _ => rfl), (fun _ => ⟨_, _, _, _, rfl, hi⟩), (fun h => (f6 (by simpa using h)).below hb), (fun h => f7 (by simpa using h)), (fun h => (f8 (by simpa using h)).below hb), (fun h => (f9 (by simpa using h)).below hb), (fun h => (f10 (by simpa using h)).below hb), (fun h => (f11 (by simpa using h)).below hb), (fun h => f12 (by simpa using h)), (fun h => f17 (by simpa using h)), (fun h => by simpa using (f13 (by simpa using h)).below hb), (fun h => by simpa using (f14 (by simpa using h)).below hb), (fun h h' => n01 (by simpa using h) (by simpa using h')), (fun h => by simpa using t0 (by simpa using h)), (fun h => by simpa using t1 (by simpa using h))⟩
        · intro d a2 w2 hd hm ⟨u63, u64, u65, u66, u67, u68, u69, u70, u71, u62, u72, u73, u74, u11, u12, u13, e, HB, f0, f1, f2, f3, f4, f5, f6, f7, f8, f9, f10, f11, f12, f17, f13, f14, n01, t0, t1⟩ K hK
          subst e
          simp only [Act.put, List.setIfInBounds_toArray, List.set_cons_zero, List.set_cons_succ]
          obtain rfl := f1 (hm ⟨1, .data⟩ (by simp) rfl)
          clear f1
          obtain ⟨G5, A5, N5, C5, rfl, I5⟩ := f5 (hm ⟨5, .data⟩ (by simp) rfl)
          go_simp
          (with_reducible refine (rsub_z gN G5 AN A5 nN cN N5 C5 _ (HI.out _ HB).2.2.num I5 Sn Sad).mono ?_)
          rintro e w3 ⟨gg, AA, nn, cc, rfl, hi, hb⟩
          have HB3 := HB.trans (hb.mono HB.size)
          go_wp2_with fail
          exact hK.out _ _ ⟨u63, .agg #[.bool gN, .slice AN nN cN], u65, u66, u67, .agg #[.bool G5, .slice A5 N5 C5], .agg #[.bool gg, .slice AA nn cc], u70, u71, u62, u72, u73, u74, u11, u12, u13, (by simp only [Act.put, List.setIfInBounds_toArray, List.set_cons_zero, List.set_cons_succ]), HB3, (fun h => f0 (by simpa using h)), (fun _ => rfl), (fun h => f2 (by simpa using h)), (fun h => f3 (by simpa using h)), (fun h => f4 (by simpa using h)), (fun h => (f5 (by simpa using h)).below hb), (fun _ => ⟨_, _, _, _, rfl, hi⟩), (fun h => f7 (by simpa using h)), (fun h => (f8 (by simpa using h)).below hb), (fun h => (f9 (by simpa using h)).below hb), (fun h => (f10 (by simpa using h)).below hb), (fun h => (f11 (by simpa using h)).below hb), (fun h => f12 (by simpa using h)), (fun h => f17 (by simpa using h)), (fun h => by simpa using (f13 (by simpa using h)).below hb), (fun h => by simpa using (f14 (by simpa using h)).below hb), (fun h h' => n01 (by simpa using h) (by simpa using h')), (fun h => by simpa using t0 (by simpa using h)), (fun h => by simpa using t1 (by simpa using h))⟩
        · intro d a2 w2 hd hm ⟨u63, u64, u65, u66, u67, u68, u69, u70, u71, u62, u72, u73, u74, u11, u12, u13, e, HB, f0, f1, f2, f3, f4, f5, f6, f7, f8, f9, f10, f11, f12, f17, f13, f14, n01, t0, t1⟩ K hK
          subst e
          simp only [Act.put, List.setIfInBounds_toArray, List.set_cons_zero, List.set_cons_succ]
          obtain ⟨⟨⟨q0, q1⟩, q2, q3⟩, q4, q5, q6, q7⟩ := HX.out w2 HB
          go_simp
          exact hK.out _ _ ⟨u63, u64, u65, u66, u67, u68, u69, .agg #[.bool gm, .slice Am nm cm], u71, u62, u72, u73, u74, u11, u12, u13, (by simp only [Act.put, List.setIfInBounds_toArray, List.set_cons_zero, List.set_cons_succ]), HB, (fun h => f0 (by simpa using h)), (fun h => f1 (by simpa using h)), (fun h => f2 (by simpa using h)), (fun h => f3 (by simpa using h)), (fun h => f4 (by simpa using h)), (fun h => (f5 (by simpa using h))), (fun h => (f6 (by simpa using h))), (fun _ => rfl), (fun h => (f8 (by simpa using h))), (fun h => (f9 (by simpa using h))), (fun h => (f10 (by simpa using h))), (fun h => (f11 (by simpa using h))), (fun h => f12 (by simpa using h)), (fun h => f17 (by simpa using h)), (fun h => by simpa using (f13 (by simpa using h))), (fun h => by simpa using (f14 (by simpa using h))), (fun h h' => n01 (by simpa using h) (by simpa using h')), (fun h => by simpa using t0 (by simpa using h)), (fun h => by simpa using t1 (by simpa using h))⟩
        · intro d a2 w2 hd hm ⟨u63, u64, u65, u66, u67, u68, u69, u70, u71, u62, u72, u73, u74, u11, u12, u13, e, HB, f0, f1, f2, f3, f4, f5, f6, f7, f8, f9, f10, f11, f12, f17, f13, f14, n01, t0, t1⟩ K hK
          subst e
          simp only [Act.put, List.setIfInBounds_toArray, List.set_cons_zero, List.set_cons_succ]
          obtain ⟨G6, A6, N6, C6, rfl, I6⟩ := f6 (hm ⟨6, .data⟩ (by simp) rfl)
          obtain rfl := f7 (hm ⟨7, .data⟩ (by simp) rfl)
          clear f7
          go_simp
          (with_reducible refine (rdm_z G6 gm A6 Am N6 C6 nm cm _ I6 (HI.out _ HB).2.1 Snad Sm (by omega) (by decide)).mono ?_)
          rintro e w3 ⟨g1, A1', n1', c1', g2, A2', n2', c2', rfl, hi1, hi2, hb⟩
          have HB3 := HB.trans (hb.mono HB.size)
          go_wp2_with fail
          exact hK.out _ _ ⟨u63, u64, u65, u66, u67, u68, .agg #[.bool G6, .slice A6 N6 C6], .agg #[.bool gm, .slice Am nm cm], .tuple #[.agg #[.bool g1, .slice A1' n1' c1'], .agg #[.bool g2, .slice A2' n2' c2'], .int .i64 (0)], u62, u72, u73, u74, u11, u12, u13, (by simp only [Act.put, List.setIfInBounds_toArray, List.set_cons_zero, List.set_cons_succ]), HB3, (fun h => f0 (by simpa using h)), (fun h => f1 (by simpa using h)), (fun h => f2 (by simpa using h)), (fun h => f3 (by simpa using h)), (fun h => f4 (by simpa using h)), (fun h => (f5 (by simpa using h)).below hb), (fun h => (f6 (by simpa using h)).below hb), (fun _ => rfl), (fun _ => ⟨_, _, rfl, ⟨_, _, _, _, rfl, hi1⟩, ⟨_, _, _, _, rfl, hi2⟩⟩), (fun h => (f9 (by simpa using h)).below hb), (fun h => (f10 (by simpa using h)).below hb), (fun h => (f11 (by simpa using h)).below hb), (fun h => f12 (by simpa using h)), (fun h => f17 (by simpa using h)), (fun h => by simpa using (f13 (by simpa using h)).below hb), (fun h => by simpa using (f14 (by simpa using h)).below hb), (fun h h' => n01 (by simpa using h) (by simpa using h')), (fun h => by simpa using t0 (by simpa using h)), (fun h => by simpa using t1 (by simpa using h))⟩
        · intro d a2 w2 hd hm ⟨u63, u64, u65, u66, u67, u68, u69, u70, u71, u62, u72, u73, u74, u11, u12, u13, e, HB, f0, f1, f2, f3, f4, f5, f6, f7, f8, f9, f10, f11, f12, f17, f13, f14, n01, t0, t1⟩ K hK
          subst e
          simp only [Act.put, List.setIfInBounds_toArray, List.set_cons_zero, List.set_cons_succ]
          obtain ⟨V8, U8, rfl, I8, J8⟩ := f8 (hm ⟨8, .data⟩ (by simp) rfl)
          go_simp
          exact hK.out _ _ ⟨u63, u64, u65, u66, u67, u68, u69, u70, .tuple #[V8, U8, .int .i64 (0)], .tuple #[V8, U8, .int .i64 (0)], u72, u73, u74, u11, u12, u13, (by simp only [Act.put, List.setIfInBounds_toArray, List.set_cons_zero, List.set_cons_succ]), HB, (fun h => f0 (by simpa using h)), (fun h => f1 (by simpa using h)), (fun h => f2 (by simpa using h)), (fun h => f3 (by simpa using h)), (fun h => f4 (by simpa using h)), (fun h => (f5 (by simpa using h))), (fun h => (f6 (by simpa using h))), (fun h => f7 (by simpa using h)), (fun h => (f8 (by simpa using h))), (fun _ => ⟨V8, U8, rfl, I8, J8⟩), (fun h => (f10 (by simpa using h))), (fun h => (f11 (by simpa using h))), (fun h => f12 (by simpa using h)), (fun h => f17 (by simpa using h)), (fun h => by simpa using (f13 (by simpa using h))), (fun h => by simpa using (f14 (by simpa using h))), (fun h h' => n01 (by simpa using h) (by simpa using h')), (fun h => by simpa using t0 (by simpa using h)), (fun h => by simpa using t1 (by simpa using h))⟩
        · intro d a2 w2 hd hm ⟨u63, u64, u65, u66, u67, u68, u69, u70, u71, u62, u72, u73, u74, u11, u12, u13, e, HB, f0, f1, f2, f3, f4, f5, f6, f7, f8, f9, f10, f11, f12, f17, f13, f14, n01, t0, t1⟩ K hK
          subst e
          simp only [Act.put, List.setIfInBounds_toArray, List.set_cons_zero, List.set_cons_succ]
          obtain ⟨V9, U9, rfl, I9, J9⟩ := f9 (hm ⟨9, .data⟩ (by simp) rfl)
          go_simp
          exact hK.out _ _ ⟨u63, u64, u65, u66, u67, u68, u69, u70, u71, .tuple #[V9, U9, .int .i64 (0)], V9, u73, u74, u11, u12, u13, (by simp only [Act.put, List.setIfInBounds_toArray, List.set_cons_zero, List.set_cons_succ]), HB, (fun h => f0 (by simpa using h)), (fun h => f1 (by simpa using h)), (fun h => f2 (by simpa using h)), (fun h => f3 (by simpa using h)), (fun h => f4 (by simpa using h)), (fun h => (f5 (by simpa using h))), (fun h => (f6 (by simpa using h))), (fun h => f7 (by simpa using h)), (fun h => (f8 (by simpa using h))), (fun h => (f9 (by simpa using h))), (fun _ => I9), (fun h => (f11 (by simpa using h))), (fun h => f12 (by simpa using h)), (fun h => f17 (by simpa using h)), (fun h => by simpa using (f13 (by simpa using h))), (fun h => by simpa using (f14 (by simpa using h))), (fun h h' => n01 (by simpa using h) (by simpa using h')), (fun h => by simpa using t0 (by simpa using h)), (fun h => by simpa using t1 (by simpa using h))⟩
        · intro d a2 w2 hd hm ⟨u63, u64, u65, u66, u67, u68, u69, u70, u71, u62, u72, u73, u74, u11, u12, u13, e, HB, f0, f1, f2, f3, f4, f5, f6, f7, f8, f9, f10, f11, f12, f17, f13, f14, n01, t0, t1⟩ K hK
          subst e
          simp only [Act.put, List.setIfInBounds_toArray, List.set_cons_zero, List.set_cons_succ]
          obtain ⟨V9, U9, rfl, I9, J9⟩ := f9 (hm ⟨9, .data⟩ (by simp) rfl)
          go_simp
          exact hK.out _ _ ⟨u63, u64, u65, u66, u67, u68, u69, u70, u71, .tuple #[V9, U9, .int .i64 (0)], u72, U9, u74, u11, u12, u13, (by simp only [Act.put, List.setIfInBounds_toArray, List.set_cons_zero, List.set_cons_succ]), HB, (fun h => f0 (by simpa using h)), (fun h => f1 (by simpa using h)), (fun h => f2 (by simpa using h)), (fun h => f3 (by simpa using h)), (fun h => f4 (by simpa using h)), (fun h => (f5 (by simpa using h))), (fun h => (f6 (by simpa using h))), (fun h => f7 (by simpa using h)), (fun h => (f8 (by simpa using h))), (fun h => (f9 (by simpa using h))), (fun h => (f10 (by simpa using h))), (fun _ => J9), (fun h => f12 (by simpa using h)), (fun h => f17 (by simpa using h)), (fun h => by simpa using (f13 (by simpa using h))), (fun h => by simpa using (f14 (by simpa using h))), (fun h h' => n01 (by simpa using h) (by simpa using h')), (fun h => by simpa using t0 (by simpa using h)), (fun h => by simpa using t1 (by simpa using h))⟩
        · intro d a2 w2 hd hm ⟨u63, u64, u65, u66, u67, u68, u69, u70, u71, u62, u72, u73, u74, u11, u12, u13, e, HB, f0, f1, f2, f3, f4, f5, f6, f7, f8, f9, f10, f11, f12, f17, f13, f14, n01, t0, t1⟩ K hK
          subst e
          simp only [Act.put, List.setIfInBounds_toArray, List.set_cons_zero, List.set_cons_succ]
          obtain ⟨V9, U9, rfl, I9, J9⟩ := f9 (hm ⟨9, .data⟩ (by simp) rfl)
          go_simp
          exact hK.out _ _ ⟨u63, u64, u65, u66, u67, u68, u69, u70, u71, .tuple #[V9, U9, .int .i64 (0)], u72, u73, .int .i64 (0), u11, u12, u13, (by simp only [Act.put, List.setIfInBounds_toArray, List.set_cons_zero, List.set_cons_succ]), HB, (fun h => f0 (by simpa using h)), (fun h => f1 (by simpa using h)), (fun h => f2 (by simpa using h)), (fun h => f3 (by simpa using h)), (fun h => f4 (by simpa using h)), (fun h => (f5 (by simpa using h))), (fun h => (f6 (by simpa using h))), (fun h => f7 (by simpa using h)), (fun h => (f8 (by simpa using h))), (fun h => (f9 (by simpa using h))), (fun h => (f10 (by simpa using h))), (fun h => (f11 (by simpa using h))), (fun _ => rfl), (fun h => f17 (by simpa using h)), (fun h => by simpa using (f13 (by simpa using h))), (fun h => by simpa using (f14 (by simpa using h))), (fun h h' => n01 (by simpa using h) (by simpa using h')), (fun h => by simpa using t0 (by simpa using h)), (fun h => by simpa using t1 (by simpa using h))⟩
        · intro d a2 w2 hd hm ⟨u63, u64, u65, u66, u67, u68, u69, u70, u71, u62, u72, u73, u74, u11, u12, u13, e, HB, f0, f1, f2, f3, f4, f5, f6, f7, f8, f9, f10, f11, f12, f17, f13, f14, n01, t0, t1⟩ K hK
          subst e
          simp only [Act.put, List.setIfInBounds_toArray, List.set_cons_zero, List.set_cons_succ]
          have hb : Below w2.heap.size w2 (w2.alloc (.cells #[.bool false, .slice none 0 0] 28)) := (Below.refl _ _).alloc (Nat.le_refl _) _
          have HB3 := HB.trans (hb.mono HB.size)
          go_simp
          exact hK.out _ _ ⟨u63, u64, u65, u66, u67, u68, u69, u70, u71, u62, u72, u73, u74, .pointer (some ⟨w2.heap.size, 0, none⟩), u12, u13, (by simp only [Act.put, List.setIfInBounds_toArray, List.set_cons_zero, List.set_cons_succ]), HB3, (fun h => f0 (by simpa using h)), (fun h => f1 (by simpa using h)), (fun h => f2 (by simpa using h)), (fun h => f3 (by simpa using h)), (fun h => f4 (by simpa using h)), (fun h => (f5 (by simpa using h)).below hb), (fun h => (f6 (by simpa using h)).below hb), (fun h => f7 (by simpa using h)), (fun h => (f8 (by simpa using h)).below hb), (fun h => (f9 (by simpa using h)).below hb), (fun h => (f10 (by simpa using h)).below hb), (fun h => (f11 (by simpa using h)).below hb), (fun h => f12 (by simpa using h)), (fun h => f17 (by simpa using h)), (fun _ => by have hs : d 15 = false := (by cases hq : d 15 with | false => rfl | true => (have hz := t0 hq; rw [hd] at hz; cases hz)); simpa [hs] using OwnP.new HB.size ((q.num - a * q.den) / m)), (fun h => by simpa using (f14 (by simpa using h)).below hb), (fun _ h' => ((f14 (by simpa using h')).lt).symm), (fun _ => by simp), (fun h => by simpa using t1 (by simpa using h))⟩
        · intro d a2 w2 hd hm ⟨u63, u64, u65, u66, u67, u68, u69, u70, u71, u62, u72, u73, u74, u11, u12, u13, e, HB, f0, f1, f2, f3, f4, f5, f6, f7, f8, f9, f10, f11, f12, f17, f13, f14, n01, t0, t1⟩ K hK
          subst e
          simp only [Act.put, List.setIfInBounds_toArray, List.set_cons_zero, List.set_cons_succ]
          have hb : Below w2.heap.size w2 (w2.alloc (.cells #[.bool false, .slice none 0 0] 28)) := (Below.refl _ _).alloc (Nat.le_refl _) _
          have HB3 := HB.trans (hb.mono HB.size)
          go_simp
          exact hK.out _ _ ⟨u63, u64, u65, u66, u67, u68, u69, u70, u71, u62, u72, u73, u74, u11, .pointer (some ⟨w2.heap.size, 0, none⟩), u13, (by simp only [Act.put, List.setIfInBounds_toArray, List.set_cons_zero, List.set_cons_succ]), HB3, (fun h => f0 (by simpa using h)), (fun h => f1 (by simpa using h)), (fun h => f2 (by simpa using h)), (fun h => f3 (by simpa using h)), (fun h => f4 (by simpa using h)), (fun h => (f5 (by simpa using h)).below hb), (fun h => (f6 (by simpa using h)).below hb), (fun h => f7 (by simpa using h)), (fun h => (f8 (by simpa using h)).below hb), (fun h => (f9 (by simpa using h)).below hb), (fun h => (f10 (by simpa using h)).below hb), (fun h => (f11 (by simpa using h)).below hb), (fun h => f12 (by simpa using h)), (fun h => f17 (by simpa using h)), (fun h => by simpa using (f13 (by simpa using h)).below hb), (fun _ => by have hs : d 16 = false := (by cases hq : d 16 with | false => rfl | true => (have hz := t1 hq; rw [hd] at hz; cases hz)); simpa [hs] using OwnP.new HB.size ((q.num - a * q.den) % m)), (fun h _ => (f13 (by simpa using h)).lt), (fun h => by simpa using t0 (by simpa using h)), (fun _ => by simp)⟩
        · intro d a2 w2 hd hm ⟨u63, u64, u65, u66, u67, u68, u69, u70, u71, u62, u72, u73, u74, u11, u12, u13, e, HB, f0, f1, f2, f3, f4, f5, f6, f7, f8, f9, f10, f11, f12, f17, f13, f14, n01, t0, t1⟩ K hK
          subst e
          simp only [Act.put, List.setIfInBounds_toArray, List.set_cons_zero, List.set_cons_succ]
          obtain ⟨gg, AA, nn, cc, rfl, hi⟩ := f10 (hm ⟨10, .data⟩ (by simp) rfl)
          obtain ⟨g, rfl, hg, b0, b1, hs, n0, n1, _⟩ := f13 (hm ⟨13, .data⟩ (by simp) rfl)
          obtain ⟨k0, k1, k2, k3, k4⟩ := id hs
          go_simp
          exact hK.out _ _ ⟨u63, u64, u65, u66, u67, u68, u69, u70, u71, u62, .agg #[.bool gg, .slice AA nn cc], u73, u74, .pointer (some ⟨g, 0, none⟩), u12, u13, (by simp only [Act.put, List.setIfInBounds_toArray, List.set_cons_zero, List.set_cons_succ]), Below.set2 HB hg _ _, (fun h => f0 (by simpa using h)), (fun h => f1 (by simpa using h)), (fun h => f2 (by simpa using h)), (fun h => f3 (by simpa using h)), (fun h => f4 (by simpa using h)), (fun h => (f5 (by simpa using h)).set2 hs n0 n1 _ _), (fun h => (f6 (by simpa using h)).set2 hs n0 n1 _ _), (fun h => f7 (by simpa using h)), (fun h => (f8 (by simpa using h)).set2 hs n0 n1 _ _), (fun h => (f9 (by simpa using h)).set2 hs n0 n1 _ _), (fun h => (f10 (by simpa using h)).set2 hs n0 n1 _ _), (fun h => (f11 (by simpa using h)).set2 hs n0 n1 _ _), (fun h => f12 (by simpa using h)), (fun h => f17 (by simpa using h)), (fun _ => by simpa using OwnP.near hi hg hs n0 n1), (fun h => by simpa using (f14 (by simpa using h)).far ((n01 (hm ⟨13, .data⟩ (by simp) rfl) (by simpa using h)).symm) hs n0 n1 _ _), (fun h h' => n01 (by simpa using h) (by simpa using h')), (fun _ => by simpa using hm ⟨13, .data⟩ (by simp) rfl), (fun h => by simpa using t1 (by simpa using h))⟩
        · intro d a2 w2 hd hm ⟨u63, u64, u65, u66, u67, u68, u69, u70, u71, u62, u72, u73, u74, u11, u12, u13, e, HB, f0, f1, f2, f3, f4, f5, f6, f7, f8, f9, f10, f11, f12, f17, f13, f14, n01, t0, t1⟩ K hK
          subst e
          simp only [Act.put, List.setIfInBounds_toArray, List.set_cons_zero, List.set_cons_succ]
          obtain ⟨gg, AA, nn, cc, rfl, hi⟩ := f11 (hm ⟨11, .data⟩ (by simp) rfl)
          obtain ⟨g, rfl, hg, b0, b1, hs, n0, n1, _⟩ := f14 (hm ⟨14, .data⟩ (by simp) rfl)
          obtain ⟨k0, k1, k2, k3, k4⟩ := id hs
          go_simp
          exact hK.out _ _ ⟨u63, u64, u65, u66, u67, u68, u69, u70, u71, u62, u72, .agg #[.bool gg, .slice AA nn cc], u74, u11, .pointer (some ⟨g, 0, none⟩), u13, (by simp only [Act.put, List.setIfInBounds_toArray, List.set_cons_zero, List.set_cons_succ]), Below.set2 HB hg _ _, (fun h => f0 (by simpa using h)), (fun h => f1 (by simpa using h)), (fun h => f2 (by simpa using h)), (fun h => f3 (by simpa using h)), (fun h => f4 (by simpa using h)), (fun h => (f5 (by simpa using h)).set2 hs n0 n1 _ _), (fun h => (f6 (by simpa using h)).set2 hs n0 n1 _ _), (fun h => f7 (by simpa using h)), (fun h => (f8 (by simpa using h)).set2 hs n0 n1 _ _), (fun h => (f9 (by simpa using h)).set2 hs n0 n1 _ _), (fun h => (f10 (by simpa using h)).set2 hs n0 n1 _ _), (fun h => (f11 (by simpa using h)).set2 hs n0 n1 _ _), (fun h => f12 (by simpa using h)), (fun h => f17 (by simpa using h)), (fun h => by simpa using (f13 (by simpa using h)).far (n01 (by simpa using h) (hm ⟨14, .data⟩ (by simp) rfl)) hs n0 n1 _ _), (fun _ => by simpa using OwnP.near hi hg hs n0 n1), (fun h h' => n01 (by simpa using h) (by simpa using h')), (fun h => by simpa using t0 (by simpa using h)), (fun _ => by simpa using hm ⟨14, .data⟩ (by simp) rfl)⟩
        · intro d a2 w2 hd hm ⟨u63, u64, u65, u66, u67, u68, u69, u70, u71, u62, u72, u73, u74, u11, u12, u13, e, HB, f0, f1, f2, f3, f4, f5, f6, f7, f8, f9, f10, f11, f12, f17, f13, f14, n01, t0, t1⟩ K hK
          subst e
          simp only [Act.put, List.setIfInBounds_toArray, List.set_cons_zero, List.set_cons_succ]
          obtain rfl := f12 (hm ⟨12, .data⟩ (by simp) rfl)
          clear f12
          go_simp
          exact hK.out _ _ ⟨u63, u64, u65, u66, u67, u68, u69, u70, u71, u62, u72, u73, .int .i64 (0), u11, u12, .int .i64 (0), (by simp only [Act.put, List.setIfInBounds_toArray, List.set_cons_zero, List.set_cons_succ]), HB, (fun h => f0 (by simpa using h)), (fun h => f1 (by simpa using h)), (fun h => f2 (by simpa using h)), (fun h => f3 (by simpa using h)), (fun h => f4 (by simpa using h)), (fun h => (f5 (by simpa using h))), (fun h => (f6 (by simpa using h))), (fun h => f7 (by simpa using h)), (fun h => (f8 (by simpa using h))), (fun h => (f9 (by simpa using h))), (fun h => (f10 (by simpa using h))), (fun h => (f11 (by simpa using h))), (fun _ => rfl), (fun _ => rfl), (fun h => by simpa using (f13 (by simpa using h))), (fun h => by simpa using (f14 (by simpa using h))), (fun h h' => n01 (by simpa using h) (by simpa using h')), (fun h => by simpa using t0 (by simpa using h)), (fun h => by simpa using t1 (by simpa using h))⟩
      · intro d a2 w2 hall ⟨u63, u64, u65, u66, u67, u68, u69, u70, u71, u62, u72, u73, u74, u11, u12, u13, e, HB, f0, f1, f2, f3, f4, f5, f6, f7, f8, f9, f10, f11, f12, f17, f13, f14, n01, t0, t1⟩
        subst e
        simp only [Act.put, List.setIfInBounds_toArray, List.set_cons_zero, List.set_cons_succ]
        obtain rfl := f0 (hall _ (by decide))
        obtain rfl := f1 (hall _ (by decide))
        obtain rfl := f2 (hall _ (by decide))
        obtain rfl := f3 (hall _ (by decide))
        obtain rfl := f4 (hall _ (by decide))
        obtain rfl := f7 (hall _ (by decide))
        obtain rfl := f12 (hall _ (by decide))
        obtain rfl := f17 (hall _ (by decide))
        obtain ⟨g0, rfl, h0, b0⟩ := OwnP.intAtB (by have := f13 (hall _ (by decide)); rwa [hall 15 (by decide)] at this)
        obtain ⟨g1, rfl, h1, b1⟩ := OwnP.intAtB (by have := f14 (hall _ (by decide)); rwa [hall 16 (by decide)] at this)
        go_wp2_with fail
        go_meet
        exact ⟨g0, g1, rfl, rfl, h1, HB⟩
  case rest =>
  obtain ⟨g11, g12, rfl, rfl, ⟨gz, Az, nz, cz, T, It⟩, D⟩ := hcut
  obtain ⟨W12, rfl⟩ : ∃ x : World, x = wc := ⟨_, rfl⟩
  rw [HMd.out] at It
  replace Y := Y.after D
  replace Im := Im.below D
  replace Q := Q.after D
  replace Iq := Iq.below D
  replace B0 := B0.trans (D.mono B0.size)
  clear HX HI D X Ia
  have ⟨t0, t1', _, _, _⟩ := T
  go_wp2_with fail
  (with_reducible refine (rsign_z gz Az nz cz _ 0 It rfl).mono ?_)
  rintro e w6 ⟨rfl, b6⟩
  replace Y := Y.after b6
  replace Im := Im.below b6
  replace Q := Q.after b6
  replace Iq := Iq.below b6
  replace B0 := B0.trans (b6.mono B0.size)
  clear t0 t1' T It b6
  have ⟨y0, y1, _, _, _⟩ := Y
  have ⟨q0, q1, q2, q3, _⟩ := Q
  go_wp2_with fail
  (with_reducible refine (rgcd_z gD gm AD Am nD cD nm cm _ Iq.den Im Sd Sm (by decide)).mono ?_)
  rintro e w7 ⟨g7', A7, n7, c7, rfl, I7, b7⟩
  replace B0 := B0.trans (b7.mono B0.size)
  clear y0 y1 q0 q1 q2 q3 Y Q Im Iq b7
  rw [HG.out] at I7
  go_wp2_with fail
  (with_reducible refine (rof_any 1 _ (by decide) (by decide)).mono ?_)
  rintro e w8 ⟨g8, A8, n8, c8, rfl, I8, b8⟩
  replace B0 := B0.trans (b8.mono B0.size)
  replace I7 := I7.below b8
  clear b8
  go_wp2_with fail
  (with_reducible refine (same_z g7' g8 A7 A8 n7 c7 n8 c8 _ I7 I8 rfl).mono ?_)
  rintro e w9 ⟨rfl, b9⟩
  go_wp2_with fail
  go_ret
  exact ⟨rfl, B0.trans (b9.mono B0.size)⟩
end Go.Proofs.YtclmenpclkmfeaaDoor
