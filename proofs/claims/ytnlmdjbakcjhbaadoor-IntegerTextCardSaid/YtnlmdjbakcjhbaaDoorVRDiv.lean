/- Contract of torsionref01.divide for a divisor of more than one limb. -/
import Derived.Test.YtnlmdjbakcjhbaaDoorVG6AddB
import Derived.Test.YtnlmdjbakcjhbaaDoorVEst
import Derived.Test.YtnlmdjbakcjhbaaDoorVG24Sz
import Derived.Test.YtnlmdjbakcjhbaaDoorVG2TextA
import Derived.Test.YtnlmdjbakcjhbaaDoorVG3Made
import Derived.Test.YtnlmdjbakcjhbaaDoorVG1Int
import Derived.Deep.DeepCutAuto
namespace Go.Proofs.YtnlmdjbakcjhbaaDoor
open Go.RowKit
theorem getD_ltR {xs : List Nat} (hL : Limbs xs) (k : Nat) : xs.getD k 0 < 4294967296 := by
  rw [List.getD_eq_getElem?_getD]
  rcases Nat.lt_or_ge k xs.length with h | h
  · rw [List.getElem?_eq_getElem h]; exact hL _ (List.getElem_mem _)
  · rw [List.getElem?_eq_none h]; exact Nat.zero_lt_succ _
theorem isInt_zeroR (w : World) : IsInt w false none 0 0 0 := ⟨by simp, by simpa [digs_zero] using Lim.none_ (by omega)⟩
theorem mulS_z (g g' : Bool) (A A' : Option Addr) (n c m d : Nat) (w : World) {a S : Nat} (ha : IsInt w g A n c (a : Int)) (hb : IsInt w g' A' m d (S : Int)) (h : (digs a).length ≤ 90000 ∧ (digs S).length ≤ 1) :
    Calls Tryd.prog 12 #[.agg #[.bool g, .slice A n c], .agg #[.bool g', .slice A' m d]] w (RetInt w ((a * S : Nat) : Int)) := by
  have h1 : n ≤ 90000 := ha.len_le (by rw [Int.natAbs_natCast]; exact h.1)
  have h2 : m ≤ 1 := hb.len_le (by rw [Int.natAbs_natCast]; exact h.2)
  have := rmul_any g g' A A' n c m d a S w ha hb (by omega) (by omega)
  rwa [← Int.natCast_mul] at this
theorem est_all (A A' : Option Addr) (n m c d r dd : Nat) (w : World) (ha : Lim w w.heap.size A n c (digs r)) (hb : Lim w w.heap.size A' m d (digs dd)) (hn : n ≤ 100000) (_hm : m ≤ 100000) (h0 : 0 < dd) (hle : dd ≤ r) :
    Calls Tryd.prog 96 #[.slice A n c, .slice A' m d] w (RetEst w r dd) := by
  have h1 : m ≤ n := by rw [← ha.len, ← hb.len]; exact digs_len_mono hle
  have h2 : 0 < m := by rw [← hb.len]; exact digs_len_pos h0
  obtain ⟨k, rfl⟩ : ∃ k, m = k + 1 := ⟨m - 1, by omega⟩
  rcases Nat.lt_or_ge (k + 1) n with h3 | h3
  · obtain ⟨l, rfl⟩ : ∃ l, n = k + 1 + (l + 1) := ⟨n - k - 2, by omega⟩
    exact est_gt A A' k l c d r dd w ha hb (by omega)
  · obtain rfl : n = k + 1 := by omega
    exact est_eq A A' k c d r dd w ha hb (by omega) hle
set_option maxRecDepth 1000000 in
set_option maxHeartbeats 4000000 in
theorem rdiv_more (A A' : Option Addr) (n c m dc a b : Nat) (w : World) (ha : Lim w w.heap.size A n c (digs a)) (hb : Lim w w.heap.size A' m dc (digs b)) (hn : n ≤ 80000) (hm : m ≤ 80000) (h2 : 2 ≤ m) :
    Calls Tryd.prog 62 #[.slice A n c, .slice A' m dc] w (RetII w ((a / b : Nat) : Int) ((a % b : Nat) : Int)) := by
  have hb0 : 0 < b := by
    rcases Nat.eq_zero_or_pos b with h | h
    · exfalso; subst h; have := hb.len; rw [digs_zero] at this; simp at this; omega
    · exact h
  obtain ⟨j, hj⟩ : ∃ j, m = j + 1 := ⟨m - 1, by omega⟩
  have htop := (digs_top (k := j) (by rw [hb.len, hj])).2
  have htl := getD_ltR (limbs_digs b) j
  obtain ⟨t, ht⟩ : ∃ t, t = (digs b).getD j 0 := ⟨_, rfl⟩
  rw [← ht] at htop htl
  have HC : ∀ W, Below w.heap.size w W → ∃ ad : Addr, A' = some ad ∧ W.cell? (ad.add (m - 1)) = some (.int .u32 (t : Int)) := fun W hW => by
    obtain ⟨ad, e, _, x, hx, _, hc⟩ := (hb.below hW).at_ (k := m - 1) (by omega)
    have hx' := hx.out
    rw [show m - 1 = j by omega, ← ht] at hx'
    subst hx'
    exact ⟨ad, e, hc⟩
  obtain ⟨HB, P0, P1⟩ := frame02 w
  obtain ⟨ad, rfl, hct⟩ := HC _ HB
  have b1 : ((m : Int) == 1) = false := by simp; omega
  have i1 : IntKind.i64.wrap ((m : Int) - 1) = (m : Int) - 1 := by rw [IntKind.wrap_i64]; omega
  clear HC
  have HT := Lib.hid ht
  clear ht
  have HJ := Lib.hid hj
  clear hj
  go_enter Tryd.func62, Tryd.ntmps62
  go_wp2
  go_loop [8] (fun s8 => ∃ S : Nat, s8 = .int .u32 S ∧ 1 ≤ S ∧ S < 4294967296) (fun s8 => (4294967296 - intOf s8).toNat)
  case atStart => exact ⟨1, by go_num, by omega, by omega⟩
  case round =>
    obtain ⟨S, rfl, hS1, hS2⟩ := hrel
    obtain ⟨p, hp⟩ : ∃ p, p = t * S := ⟨_, rfl⟩
    have hpl : p ≤ 4294967295 * 4294967295 := by rw [hp]; exact Nat.mul_le_mul (by omega) (by omega)
    have hpe : (t : Int) * (S : Int) = (p : Int) := by rw [hp]; exact (Int.natCast_mul t S).symm
    have hps : S ≤ p := by rw [hp]; exact Nat.le_mul_of_pos_left _ (by omega)
    have HP := Lib.hid hp
    clear hp
    by_cases hlt : p < 2147483648
    · have hlt' : (p : Int) < 2147483648 := by omega
      go_wp2
      exact ⟨⟨2 * S, by go_num, by omega, by omega⟩, by simp [intOf]; omega⟩
    · have hlt' : ¬ (p : Int) < 2147483648 := by omega
      have hl0 := (row_new ((w.alloc (.cells #[.bool false, .slice none 0 0] 27)).alloc (.cells #[.bool false, .slice none 0 0] 27)) [S] #[.int .u32 (S : Int)] (by simp [ints])).len_lim (by intro z hz; simp at hz; omega) 1 rfl (by omega)
      rw [show ((w.alloc (.cells #[.bool false, .slice none 0 0] 27)).alloc (.cells #[.bool false, .slice none 0 0] 27)).heap.size = w.heap.size + 1 + 1 by simp] at hl0
      have D0 := (Below.refl ((w.alloc (.cells #[.bool false, .slice none 0 0] 27)).alloc (.cells #[.bool false, .slice none 0 0] 27)).heap.size _).alloc (Nat.le_refl _) (.cells #[.int .u32 (S : Int)] 67)
      go_wp2_with fail
      (with_reducible refine (made_val false _ _ _ S (S : Int) [S] _ hl0 (by simp) (val_one _) rfl).mono ?_)
      rintro e w4 ⟨gF, AF, nF, cF, rfl, iF, bF⟩
      have E0 := Below.trans D0 (bF.mono D0.size)
      have P0' := P0.after E0
      have P1' := P1.after E0
      have B4 := HB.trans (E0.mono HB.size)
      have SF := Slot2.new w4 (.bool gF) (.slice AF nF cF) 27
      have DF := (Below.refl w4.heap.size w4).alloc (Nat.le_refl _) (.cells #[.bool gF, .slice AF nF cF] 27)
      have IF := iF.below DF
      have P0F := P0'.after DF
      have P1F := P1'.after DF
      have BF := B4.trans (DF.mono B4.size)
      have MA := fun W (hW : Below w.heap.size w W) => Made_any false A n c w.heap.size (digs a) W (ha.below hW) hW.size (by omega)
      have MB := fun W (hW : Below w.heap.size w W) => Made_any false (some ad) m dc w.heap.size (digs b) W (hb.below hW) hW.size (by omega)
      have za : zOf false a = (a : Int) := rfl
      have zb : zOf false b = (b : Int) := rfl
      simp only [val_digs, za, zb] at MA MB
      have LA : (digs a).length ≤ 90000 ∧ (digs S).length ≤ 1 := ⟨by rw [ha.len]; omega, digs_len_le (by omega)⟩
      have LB : (digs b).length ≤ 90000 ∧ (digs S).length ≤ 1 := ⟨by rw [hb.len]; omega, digs_len_le (by omega)⟩
      have hal := lt_digs_len a
      rw [ha.len] at hal
      clear hl0 D0 bF E0 P0 P1 hct P0' P1' B4 DF iF za zb ha hb HT
      go_wp2_with fail
      generalize w4.alloc (.cells #[.bool gF, .slice AF nF cF] 27) = wF at *
      go_cut [10, 11, 12] (fun p10 p11 p12 wx => ∃ g0 g1 g2 : Nat, p10 = .pointer (some ⟨g0, 0, none⟩) ∧ p11 = .pointer (some ⟨g1, 0, none⟩) ∧ p12 = .pointer (some ⟨g2, 0, none⟩) ∧ IntAt wx g0 ((a * S : Nat) : Int) ∧ IntAt wx g1 ((b * S : Nat) : Int) ∧ IntAt wx g2 0 ∧ g0 ≠ g1 ∧ g0 ≠ g2 ∧ g1 ≠ g2 ∧ wF.heap.size ≤ g0 ∧ wF.heap.size ≤ g1 ∧ wF.heap.size ≤ g2 ∧ Below wF.heap.size wF wx)
      case first =>
        as_aux_lemma =>
          have HXF : Hid (∀ W, Below wF.heap.size wF W → Slot2 W w4.heap.size (.bool gF) (.slice AF nF cF)) := fun W hW => SF.after hW
          have HMA : Hid (∀ W, Below wF.heap.size wF W → Calls Tryd.prog 16 #[.slice A n c, .bool false] W (RetInt W (a : Int))) := fun W hW => MA W (BF.trans (hW.mono BF.size))
          have HMB : Hid (∀ W, Below wF.heap.size wF W → Calls Tryd.prog 16 #[.slice (some ad) m dc, .bool false] W (RetInt W (b : Int))) := fun W hW => MB W (BF.trans (hW.mono BF.size))
          have HAS := Lib.hid LA
          have HBS := Lib.hid LB
          clear SF MA MB LA LB
          refine wp_region_ev (fun d a0 a' w' => ∃ u48 u49 u50 u51 u52 u53 u54 u55 u56 u10 u11 u12 : Value, a' = ((((((((((((a0.put (some 48) u48).put (some 49) u49).put (some 50) u50).put (some 51) u51).put (some 52) u52).put (some 53) u53).put (some 54) u54).put (some 55) u55).put (some 56) u56).put (some 10) u10).put (some 11) u11).put (some 12) u12) ∧ Below wF.heap.size wF w' ∧ (d 0 = true → u48 = .slice A n c) ∧ (d 1 = true → IntV w' u49 ((a : Int))) ∧ (d 2 = true → u50 = .agg #[.bool gF, .slice AF nF cF]) ∧ (d 3 = true → IntV w' u51 (((a * S : Nat) : Int))) ∧ (d 4 = true → u52 = .slice (some ad) m dc) ∧ (d 5 = true → IntV w' u53 ((b : Int))) ∧ (d 6 = true → u54 = .agg #[.bool gF, .slice AF nF cF]) ∧ (d 7 = true → IntV w' u55 (((b * S : Nat) : Int))) ∧ (d 8 = true → IntV w' u56 (0)) ∧ (d 9 = true → OwnP wF.heap.size w' u10 (d 12) (((a * S : Nat) : Int))) ∧ (d 10 = true → OwnP wF.heap.size w' u11 (d 13) (((b * S : Nat) : Int))) ∧ (d 11 = true → OwnP wF.heap.size w' u12 (d 14) (0)) ∧ (d 9 = true → d 10 = true → u10 ≠ u11) ∧ (d 9 = true → d 11 = true → u10 ≠ u12) ∧ (d 10 = true → d 11 = true → u11 ≠ u12) ∧ (d 12 = true → d 9 = true) ∧ (d 13 = true → d 10 = true) ∧ (d 14 = true → d 11 = true)) (by kernel_rfl) (by kernel_rfl) ?_ ?_ ?_ ?_
          · intro d d' h a' w' hh
            obtain rfl : d = d' := funext h
            exact hh
          · exact ⟨_, _, _, _, _, _, _, _, _, _, _, _, (by simp only [Act.put, List.setIfInBounds_toArray, List.set_cons_zero, List.set_cons_succ]; rfl), (Below.refl _ _).drew, (fun h => by cases h), (fun h => by cases h), (fun h => by cases h), (fun h => by cases h), (fun h => by cases h), (fun h => by cases h), (fun h => by cases h), (fun h => by cases h), (fun h => by cases h), (fun h => by cases h), (fun h => by cases h), (fun h => by cases h), (fun h => by cases h), (fun h => by cases h), (fun h => by cases h), (fun h => by cases h), (fun h => by cases h), (fun h => by cases h)⟩
          · refine ⟨?_, ?_, ?_, ?_, ?_, ?_, ?_, ?_, ?_, ?_, ?_, ?_, ?_, ?_, ?_, trivial⟩
            · intro d a2 w2 hd hm ⟨u48, u49, u50, u51, u52, u53, u54, u55, u56, u10, u11, u12, e, HB, f0, f1, f2, f3, f4, f5, f6, f7, f8, f9, f10, f11, n01, n02, n12, t0, t1, t2⟩ K hK
              subst e
              simp only [Act.put, List.setIfInBounds_toArray, List.set_cons_zero, List.set_cons_succ]
              go_simp
              exact hK.out _ _ ⟨.slice A n c, u49, u50, u51, u52, u53, u54, u55, u56, u10, u11, u12, (by simp only [Act.put, List.setIfInBounds_toArray, List.set_cons_zero, List.set_cons_succ]), HB, (fun _ => rfl), (fun h => (f1 (by simpa using h))), (fun h => f2 (by simpa using h)), (fun h => (f3 (by simpa using h))), (fun h => f4 (by simpa using h)), (fun h => (f5 (by simpa using h))), (fun h => f6 (by simpa using h)), (fun h => (f7 (by simpa using h))), (fun h => (f8 (by simpa using h))), (fun h => by simpa using (f9 (by simpa using h))), (fun h => by simpa using (f10 (by simpa using h))), (fun h => by simpa using (f11 (by simpa using h))), (fun h h' => n01 (by simpa using h) (by simpa using h')), (fun h h' => n02 (by simpa using h) (by simpa using h')), (fun h h' => n12 (by simpa using h) (by simpa using h')), (fun h => by simpa using t0 (by simpa using h)), (fun h => by simpa using t1 (by simpa using h)), (fun h => by simpa using t2 (by simpa using h))⟩
            · intro d a2 w2 hd hm ⟨u48, u49, u50, u51, u52, u53, u54, u55, u56, u10, u11, u12, e, HB, f0, f1, f2, f3, f4, f5, f6, f7, f8, f9, f10, f11, n01, n02, n12, t0, t1, t2⟩ K hK
              subst e
              simp only [Act.put, List.setIfInBounds_toArray, List.set_cons_zero, List.set_cons_succ]
              obtain rfl := f0 (hm ⟨0, .data⟩ (by simp) rfl)
              clear f0
              go_simp
              (with_reducible refine (HMA.out _ HB).mono ?_)
              rintro e w3 ⟨gg, AA, nn, cc, rfl, hi, hb⟩
              have HB3 := HB.trans (hb.mono HB.size)
              go_wp2_with fail
              exact hK.out _ _ ⟨.slice A n c, .agg #[.bool gg, .slice AA nn cc], u50, u51, u52, u53, u54, u55, u56, u10, u11, u12, (by simp only [Act.put, List.setIfInBounds_toArray, List.set_cons_zero, List.set_cons_succ]), HB3, (fun _ => rfl), (fun _ => ⟨_, _, _, _, rfl, hi⟩), (fun h => f2 (by simpa using h)), (fun h => (f3 (by simpa using h)).below hb), (fun h => f4 (by simpa using h)), (fun h => (f5 (by simpa using h)).below hb), (fun h => f6 (by simpa using h)), (fun h => (f7 (by simpa using h)).below hb), (fun h => (f8 (by simpa using h)).below hb), (fun h => by simpa using (f9 (by simpa using h)).below hb), (fun h => by simpa using (f10 (by simpa using h)).below hb), (fun h => by simpa using (f11 (by simpa using h)).below hb), (fun h h' => n01 (by simpa using h) (by simpa using h')), (fun h h' => n02 (by simpa using h) (by simpa using h')), (fun h h' => n12 (by simpa using h) (by simpa using h')), (fun h => by simpa using t0 (by simpa using h)), (fun h => by simpa using t1 (by simpa using h)), (fun h => by simpa using t2 (by simpa using h))⟩
            · intro d a2 w2 hd hm ⟨u48, u49, u50, u51, u52, u53, u54, u55, u56, u10, u11, u12, e, HB, f0, f1, f2, f3, f4, f5, f6, f7, f8, f9, f10, f11, n01, n02, n12, t0, t1, t2⟩ K hK
              subst e
              simp only [Act.put, List.setIfInBounds_toArray, List.set_cons_zero, List.set_cons_succ]
              obtain ⟨q0, q1, _, _, _⟩ := HXF.out w2 HB
              go_simp
              exact hK.out _ _ ⟨u48, u49, .agg #[.bool gF, .slice AF nF cF], u51, u52, u53, u54, u55, u56, u10, u11, u12, (by simp only [Act.put, List.setIfInBounds_toArray, List.set_cons_zero, List.set_cons_succ]), HB, (fun h => f0 (by simpa using h)), (fun h => (f1 (by simpa using h))), (fun _ => rfl), (fun h => (f3 (by simpa using h))), (fun h => f4 (by simpa using h)), (fun h => (f5 (by simpa using h))), (fun h => f6 (by simpa using h)), (fun h => (f7 (by simpa using h))), (fun h => (f8 (by simpa using h))), (fun h => by simpa using (f9 (by simpa using h))), (fun h => by simpa using (f10 (by simpa using h))), (fun h => by simpa using (f11 (by simpa using h))), (fun h h' => n01 (by simpa using h) (by simpa using h')), (fun h h' => n02 (by simpa using h) (by simpa using h')), (fun h h' => n12 (by simpa using h) (by simpa using h')), (fun h => by simpa using t0 (by simpa using h)), (fun h => by simpa using t1 (by simpa using h)), (fun h => by simpa using t2 (by simpa using h))⟩
            · intro d a2 w2 hd hm ⟨u48, u49, u50, u51, u52, u53, u54, u55, u56, u10, u11, u12, e, HB, f0, f1, f2, f3, f4, f5, f6, f7, f8, f9, f10, f11, n01, n02, n12, t0, t1, t2⟩ K hK
              subst e
              simp only [Act.put, List.setIfInBounds_toArray, List.set_cons_zero, List.set_cons_succ]
              obtain ⟨G1, A1, N1, C1, rfl, I1⟩ := f1 (hm ⟨1, .data⟩ (by simp) rfl)
              obtain rfl := f2 (hm ⟨2, .data⟩ (by simp) rfl)
              clear f2
              go_simp
              (with_reducible refine (mulS_z _ _ _ _ _ _ _ _ _ I1 (IF.below HB) HAS.out).mono ?_)
              rintro e w3 ⟨gg, AA, nn, cc, rfl, hi, hb⟩
              have HB3 := HB.trans (hb.mono HB.size)
              go_wp2_with fail
              exact hK.out _ _ ⟨u48, .agg #[.bool G1, .slice A1 N1 C1], .agg #[.bool gF, .slice AF nF cF], .agg #[.bool gg, .slice AA nn cc], u52, u53, u54, u55, u56, u10, u11, u12, (by simp only [Act.put, List.setIfInBounds_toArray, List.set_cons_zero, List.set_cons_succ]), HB3, (fun h => f0 (by simpa using h)), (fun h => (f1 (by simpa using h)).below hb), (fun _ => rfl), (fun _ => ⟨_, _, _, _, rfl, hi⟩), (fun h => f4 (by simpa using h)), (fun h => (f5 (by simpa using h)).below hb), (fun h => f6 (by simpa using h)), (fun h => (f7 (by simpa using h)).below hb), (fun h => (f8 (by simpa using h)).below hb), (fun h => by simpa using (f9 (by simpa using h)).below hb), (fun h => by simpa using (f10 (by simpa using h)).below hb), (fun h => by simpa using (f11 (by simpa using h)).below hb), (fun h h' => n01 (by simpa using h) (by simpa using h')), (fun h h' => n02 (by simpa using h) (by simpa using h')), (fun h h' => n12 (by simpa using h) (by simpa using h')), (fun h => by simpa using t0 (by simpa using h)), (fun h => by simpa using t1 (by simpa using h)), (fun h => by simpa using t2 (by simpa using h))⟩
            · intro d a2 w2 hd hm ⟨u48, u49, u50, u51, u52, u53, u54, u55, u56, u10, u11, u12, e, HB, f0, f1, f2, f3, f4, f5, f6, f7, f8, f9, f10, f11, n01, n02, n12, t0, t1, t2⟩ K hK
              subst e
              simp only [Act.put, List.setIfInBounds_toArray, List.set_cons_zero, List.set_cons_succ]
              go_simp
              exact hK.out _ _ ⟨u48, u49, u50, u51, .slice (some ad) m dc, u53, u54, u55, u56, u10, u11, u12, (by simp only [Act.put, List.setIfInBounds_toArray, List.set_cons_zero, List.set_cons_succ]), HB, (fun h => f0 (by simpa using h)), (fun h => (f1 (by simpa using h))), (fun h => f2 (by simpa using h)), (fun h => (f3 (by simpa using h))), (fun _ => rfl), (fun h => (f5 (by simpa using h))), (fun h => f6 (by simpa using h)), (fun h => (f7 (by simpa using h))), (fun h => (f8 (by simpa using h))), (fun h => by simpa using (f9 (by simpa using h))), (fun h => by simpa using (f10 (by simpa using h))), (fun h => by simpa using (f11 (by simpa using h))), (fun h h' => n01 (by simpa using h) (by simpa using h')), (fun h h' => n02 (by simpa using h) (by simpa using h')), (fun h h' => n12 (by simpa using h) (by simpa using h')), (fun h => by simpa using t0 (by simpa using h)), (fun h => by simpa using t1 (by simpa using h)), (fun h => by simpa using t2 (by simpa using h))⟩
            · intro d a2 w2 hd hm ⟨u48, u49, u50, u51, u52, u53, u54, u55, u56, u10, u11, u12, e, HB, f0, f1, f2, f3, f4, f5, f6, f7, f8, f9, f10, f11, n01, n02, n12, t0, t1, t2⟩ K hK
              subst e
              simp only [Act.put, List.setIfInBounds_toArray, List.set_cons_zero, List.set_cons_succ]
              obtain rfl := f4 (hm ⟨4, .data⟩ (by simp) rfl)
              clear f4
              go_simp
              (with_reducible refine (HMB.out _ HB).mono ?_)
              rintro e w3 ⟨gg, AA, nn, cc, rfl, hi, hb⟩
              have HB3 := HB.trans (hb.mono HB.size)
              go_wp2_with fail
              exact hK.out _ _ ⟨u48, u49, u50, u51, .slice (some ad) m dc, .agg #[.bool gg, .slice AA nn cc], u54, u55, u56, u10, u11, u12, (by simp only [Act.put, List.setIfInBounds_toArray, List.set_cons_zero, List.set_cons_succ]), HB3, (fun h => f0 (by simpa using h)), (fun h => (f1 (by simpa using h)).below hb), (fun h => f2 (by simpa using h)), (fun h => (f3 (by simpa using h)).below hb), (fun _ => rfl), (fun _ => ⟨_, _, _, _, rfl, hi⟩), (fun h => f6 (by simpa using h)), (fun h => (f7 (by simpa using h)).below hb), (fun h => (f8 (by simpa using h)).below hb), (fun h => by simpa using (f9 (by simpa using h)).below hb), (fun h => by simpa using (f10 (by simpa using h)).below hb), (fun h => by simpa using (f11 (by simpa using h)).below hb), (fun h h' => n01 (by simpa using h) (by simpa using h')), (fun h h' => n02 (by simpa using h) (by simpa using h')), (fun h h' => n12 (by simpa using h) (by simpa using h')), (fun h => by simpa using t0 (by simpa using h)), (fun h => by simpa using t1 (by simpa using h)), (fun h => by simpa using t2 (by simpa using h))⟩
            · intro d a2 w2 hd hm ⟨u48, u49, u50, u51, u52, u53, u54, u55, u56, u10, u11, u12, e, HB, f0, f1, f2, f3, f4, f5, f6, f7, f8, f9, f10, f11, n01, n02, n12, t0, t1, t2⟩ K hK
              subst e
              simp only [Act.put, List.setIfInBounds_toArray, List.set_cons_zero, List.set_cons_succ]
              obtain ⟨q0, q1, _, _, _⟩ := HXF.out w2 HB
              go_simp
              exact hK.out _ _ ⟨u48, u49, u50, u51, u52, u53, .agg #[.bool gF, .slice AF nF cF], u55, u56, u10, u11, u12, (by simp only [Act.put, List.setIfInBounds_toArray, List.set_cons_zero, List.set_cons_succ]), HB, (fun h => f0 (by simpa using h)), (fun h => (f1 (by simpa using h))), (fun h => f2 (by simpa using h)), (fun h => (f3 (by simpa using h))), (fun h => f4 (by simpa using h)), (fun h => (f5 (by simpa using h))), (fun _ => rfl), (fun h => (f7 (by simpa using h))), (fun h => (f8 (by simpa using h))), (fun h => by simpa using (f9 (by simpa using h))), (fun h => by simpa using (f10 (by simpa using h))), (fun h => by simpa using (f11 (by simpa using h))), (fun h h' => n01 (by simpa using h) (by simpa using h')), (fun h h' => n02 (by simpa using h) (by simpa using h')), (fun h h' => n12 (by simpa using h) (by simpa using h')), (fun h => by simpa using t0 (by simpa using h)), (fun h => by simpa using t1 (by simpa using h)), (fun h => by simpa using t2 (by simpa using h))⟩
            · intro d a2 w2 hd hm ⟨u48, u49, u50, u51, u52, u53, u54, u55, u56, u10, u11, u12, e, HB, f0, f1, f2, f3, f4, f5, f6, f7, f8, f9, f10, f11, n01, n02, n12, t0, t1, t2⟩ K hK
              subst e
              simp only [Act.put, List.setIfInBounds_toArray, List.set_cons_zero, List.set_cons_succ]
              obtain ⟨G5, A5, N5, C5, rfl, I5⟩ := f5 (hm ⟨5, .data⟩ (by simp) rfl)
              obtain rfl := f6 (hm ⟨6, .data⟩ (by simp) rfl)
              clear f6
              go_simp
              (with_reducible refine (mulS_z _ _ _ _ _ _ _ _ _ I5 (IF.below HB) HBS.out).mono ?_)
              rintro e w3 ⟨gg, AA, nn, cc, rfl, hi, hb⟩
              have HB3 := HB.trans (hb.mono HB.size)
              go_wp2_with fail
              exact hK.out _ _ ⟨u48, u49, u50, u51, u52, .agg #[.bool G5, .slice A5 N5 C5], .agg #[.bool gF, .slice AF nF cF], .agg #[.bool gg, .slice AA nn cc], u56, u10, u11, u12, (by simp only [Act.put, List.setIfInBounds_toArray, List.set_cons_zero, List.set_cons_succ]), HB3, (fun h => f0 (by simpa using h)), (fun h => (f1 (by simpa using h)).below hb), (fun h => f2 (by simpa using h)), (fun h => (f3 (by simpa using h)).below hb), (fun h => f4 (by simpa using h)), (fun h => (f5 (by simpa using h)).below hb), (fun _ => rfl), (fun _ => ⟨_, _, _, _, rfl, hi⟩), (fun h => (f8 (by simpa using h)).below hb), (fun h => by simpa using (f9 (by simpa using h)).below hb), (fun h => by simpa using (f10 (by simpa using h)).below hb), (fun h => by simpa using (f11 (by simpa using h)).below hb), (fun h h' => n01 (by simpa using h) (by simpa using h')), (fun h h' => n02 (by simpa using h) (by simpa using h')), (fun h h' => n12 (by simpa using h) (by simpa using h')), (fun h => by simpa using t0 (by simpa using h)), (fun h => by simpa using t1 (by simpa using h)), (fun h => by simpa using t2 (by simpa using h))⟩
            · intro d a2 w2 hd hm ⟨u48, u49, u50, u51, u52, u53, u54, u55, u56, u10, u11, u12, e, HB, f0, f1, f2, f3, f4, f5, f6, f7, f8, f9, f10, f11, n01, n02, n12, t0, t1, t2⟩ K hK
              subst e
              simp only [Act.put, List.setIfInBounds_toArray, List.set_cons_zero, List.set_cons_succ]
              go_simp
              exact hK.out _ _ ⟨u48, u49, u50, u51, u52, u53, u54, u55, .agg #[.bool false, .slice none 0 0], u10, u11, u12, (by simp only [Act.put, List.setIfInBounds_toArray, List.set_cons_zero, List.set_cons_succ]), HB, (fun h => f0 (by simpa using h)), (fun h => (f1 (by simpa using h))), (fun h => f2 (by simpa using h)), (fun h => (f3 (by simpa using h))), (fun h => f4 (by simpa using h)), (fun h => (f5 (by simpa using h))), (fun h => f6 (by simpa using h)), (fun h => (f7 (by simpa using h))), (fun _ => ⟨_, _, _, _, rfl, isInt_zeroR _⟩), (fun h => by simpa using (f9 (by simpa using h))), (fun h => by simpa using (f10 (by simpa using h))), (fun h => by simpa using (f11 (by simpa using h))), (fun h h' => n01 (by simpa using h) (by simpa using h')), (fun h h' => n02 (by simpa using h) (by simpa using h')), (fun h h' => n12 (by simpa using h) (by simpa using h')), (fun h => by simpa using t0 (by simpa using h)), (fun h => by simpa using t1 (by simpa using h)), (fun h => by simpa using t2 (by simpa using h))⟩
            · intro d a2 w2 hd hm ⟨u48, u49, u50, u51, u52, u53, u54, u55, u56, u10, u11, u12, e, HB, f0, f1, f2, f3, f4, f5, f6, f7, f8, f9, f10, f11, n01, n02, n12, t0, t1, t2⟩ K hK
              subst e
              simp only [Act.put, List.setIfInBounds_toArray, List.set_cons_zero, List.set_cons_succ]
              have hb : Below w2.heap.size w2 (w2.alloc (.cells #[.bool false, .slice none 0 0] 27)) := (Below.refl _ _).alloc (Nat.le_refl _) _
              have HB3 := HB.trans (hb.mono HB.size)
              go_simp
              exact hK.out _ _ ⟨u48, u49, u50, u51, u52, u53, u54, u55, u56, .pointer (some ⟨w2.heap.size, 0, none⟩), u11, u12, (by simp only [Act.put, List.setIfInBounds_toArray, List.set_cons_zero, List.set_cons_succ]), HB3, (fun h => f0 (by simpa using h)), (fun h => (f1 (by simpa using h)).below hb), (fun h => f2 (by simpa using h)), (fun h => (f3 (by simpa using h)).below hb), (fun h => f4 (by simpa using h)), (fun h => (f5 (by simpa using h)).below hb), (fun h => f6 (by simpa using h)), (fun h => (f7 (by simpa using h)).below hb), (fun h => (f8 (by simpa using h)).below hb), (fun _ => by have hs : d 12 = false := (by cases hq : d 12 with | false => rfl | true => (have hz := t0 hq; rw [hd] at hz; cases hz)); simpa [hs] using OwnP.new HB.size (((a * S : Nat) : Int))), (fun h => by simpa using (f10 (by simpa using h)).below hb), (fun h => by simpa using (f11 (by simpa using h)).below hb), (fun _ h' => ((f10 (by simpa using h')).lt).symm), (fun _ h' => ((f11 (by simpa using h')).lt).symm), (fun h h' => n12 (by simpa using h) (by simpa using h')), (fun _ => by simp), (fun h => by simpa using t1 (by simpa using h)), (fun h => by simpa using t2 (by simpa using h))⟩
            · intro d a2 w2 hd hm ⟨u48, u49, u50, u51, u52, u53, u54, u55, u56, u10, u11, u12, e, HB, f0, f1, f2, f3, f4, f5, f6, f7, f8, f9, f10, f11, n01, n02, n12, t0, t1, t2⟩ K hK
              subst e
              simp only [Act.put, List.setIfInBounds_toArray, List.set_cons_zero, List.set_cons_succ]
              have hb : Below w2.heap.size w2 (w2.alloc (.cells #[.bool false, .slice none 0 0] 27)) := (Below.refl _ _).alloc (Nat.le_refl _) _
              have HB3 := HB.trans (hb.mono HB.size)
              go_simp
              exact hK.out _ _ ⟨u48, u49, u50, u51, u52, u53, u54, u55, u56, u10, .pointer (some ⟨w2.heap.size, 0, none⟩), u12, (by simp only [Act.put, List.setIfInBounds_toArray, List.set_cons_zero, List.set_cons_succ]), HB3, (fun h => f0 (by simpa using h)), (fun h => (f1 (by simpa using h)).below hb), (fun h => f2 (by simpa using h)), (fun h => (f3 (by simpa using h)).below hb), (fun h => f4 (by simpa using h)), (fun h => (f5 (by simpa using h)).below hb), (fun h => f6 (by simpa using h)), (fun h => (f7 (by simpa using h)).below hb), (fun h => (f8 (by simpa using h)).below hb), (fun h => by simpa using (f9 (by simpa using h)).below hb), (fun _ => by have hs : d 13 = false := (by cases hq : d 13 with | false => rfl | true => (have hz := t1 hq; rw [hd] at hz; cases hz)); simpa [hs] using OwnP.new HB.size (((b * S : Nat) : Int))), (fun h => by simpa using (f11 (by simpa using h)).below hb), (fun h _ => (f9 (by simpa using h)).lt), (fun h h' => n02 (by simpa using h) (by simpa using h')), (fun _ h' => ((f11 (by simpa using h')).lt).symm), (fun h => by simpa using t0 (by simpa using h)), (fun _ => by simp), (fun h => by simpa using t2 (by simpa using h))⟩
            · intro d a2 w2 hd hm ⟨u48, u49, u50, u51, u52, u53, u54, u55, u56, u10, u11, u12, e, HB, f0, f1, f2, f3, f4, f5, f6, f7, f8, f9, f10, f11, n01, n02, n12, t0, t1, t2⟩ K hK
              subst e
              simp only [Act.put, List.setIfInBounds_toArray, List.set_cons_zero, List.set_cons_succ]
              have hb : Below w2.heap.size w2 (w2.alloc (.cells #[.bool false, .slice none 0 0] 27)) := (Below.refl _ _).alloc (Nat.le_refl _) _
              have HB3 := HB.trans (hb.mono HB.size)
              go_simp
              exact hK.out _ _ ⟨u48, u49, u50, u51, u52, u53, u54, u55, u56, u10, u11, .pointer (some ⟨w2.heap.size, 0, none⟩), (by simp only [Act.put, List.setIfInBounds_toArray, List.set_cons_zero, List.set_cons_succ]), HB3, (fun h => f0 (by simpa using h)), (fun h => (f1 (by simpa using h)).below hb), (fun h => f2 (by simpa using h)), (fun h => (f3 (by simpa using h)).below hb), (fun h => f4 (by simpa using h)), (fun h => (f5 (by simpa using h)).below hb), (fun h => f6 (by simpa using h)), (fun h => (f7 (by simpa using h)).below hb), (fun h => (f8 (by simpa using h)).below hb), (fun h => by simpa using (f9 (by simpa using h)).below hb), (fun h => by simpa using (f10 (by simpa using h)).below hb), (fun _ => by have hs : d 14 = false := (by cases hq : d 14 with | false => rfl | true => (have hz := t2 hq; rw [hd] at hz; cases hz)); simpa [hs] using OwnP.new HB.size (0)), (fun h h' => n01 (by simpa using h) (by simpa using h')), (fun h _ => (f9 (by simpa using h)).lt), (fun h _ => (f10 (by simpa using h)).lt), (fun h => by simpa using t0 (by simpa using h)), (fun h => by simpa using t1 (by simpa using h)), (fun _ => by simp)⟩
            · intro d a2 w2 hd hm ⟨u48, u49, u50, u51, u52, u53, u54, u55, u56, u10, u11, u12, e, HB, f0, f1, f2, f3, f4, f5, f6, f7, f8, f9, f10, f11, n01, n02, n12, t0, t1, t2⟩ K hK
              subst e
              simp only [Act.put, List.setIfInBounds_toArray, List.set_cons_zero, List.set_cons_succ]
              obtain ⟨gg, AA, nn, cc, rfl, hi⟩ := f3 (hm ⟨3, .data⟩ (by simp) rfl)
              obtain ⟨g, rfl, hg, b0, b1, hs, n0, n1, _⟩ := f9 (hm ⟨9, .data⟩ (by simp) rfl)
              obtain ⟨k0, k1, k2, k3, k4⟩ := id hs
              go_simp
              exact hK.out _ _ ⟨u48, u49, u50, .agg #[.bool gg, .slice AA nn cc], u52, u53, u54, u55, u56, .pointer (some ⟨g, 0, none⟩), u11, u12, (by simp only [Act.put, List.setIfInBounds_toArray, List.set_cons_zero, List.set_cons_succ]), Below.set2 HB hg _ _, (fun h => f0 (by simpa using h)), (fun h => (f1 (by simpa using h)).set2 hs n0 n1 _ _), (fun h => f2 (by simpa using h)), (fun h => (f3 (by simpa using h)).set2 hs n0 n1 _ _), (fun h => f4 (by simpa using h)), (fun h => (f5 (by simpa using h)).set2 hs n0 n1 _ _), (fun h => f6 (by simpa using h)), (fun h => (f7 (by simpa using h)).set2 hs n0 n1 _ _), (fun h => (f8 (by simpa using h)).set2 hs n0 n1 _ _), (fun _ => by simpa using OwnP.near hi hg hs n0 n1), (fun h => by simpa using (f10 (by simpa using h)).far ((n01 (hm ⟨9, .data⟩ (by simp) rfl) (by simpa using h)).symm) hs n0 n1 _ _), (fun h => by simpa using (f11 (by simpa using h)).far ((n02 (hm ⟨9, .data⟩ (by simp) rfl) (by simpa using h)).symm) hs n0 n1 _ _), (fun h h' => n01 (by simpa using h) (by simpa using h')), (fun h h' => n02 (by simpa using h) (by simpa using h')), (fun h h' => n12 (by simpa using h) (by simpa using h')), (fun _ => by simpa using hm ⟨9, .data⟩ (by simp) rfl), (fun h => by simpa using t1 (by simpa using h)), (fun h => by simpa using t2 (by simpa using h))⟩
            · intro d a2 w2 hd hm ⟨u48, u49, u50, u51, u52, u53, u54, u55, u56, u10, u11, u12, e, HB, f0, f1, f2, f3, f4, f5, f6, f7, f8, f9, f10, f11, n01, n02, n12, t0, t1, t2⟩ K hK
              subst e
              simp only [Act.put, List.setIfInBounds_toArray, List.set_cons_zero, List.set_cons_succ]
              obtain ⟨gg, AA, nn, cc, rfl, hi⟩ := f7 (hm ⟨7, .data⟩ (by simp) rfl)
              obtain ⟨g, rfl, hg, b0, b1, hs, n0, n1, _⟩ := f10 (hm ⟨10, .data⟩ (by simp) rfl)
              obtain ⟨k0, k1, k2, k3, k4⟩ := id hs
              go_simp
              exact hK.out _ _ ⟨u48, u49, u50, u51, u52, u53, u54, .agg #[.bool gg, .slice AA nn cc], u56, u10, .pointer (some ⟨g, 0, none⟩), u12, (by simp only [Act.put, List.setIfInBounds_toArray, List.set_cons_zero, List.set_cons_succ]), Below.set2 HB hg _ _, (fun h => f0 (by simpa using h)), (fun h => (f1 (by simpa using h)).set2 hs n0 n1 _ _), (fun h => f2 (by simpa using h)), (fun h => (f3 (by simpa using h)).set2 hs n0 n1 _ _), (fun h => f4 (by simpa using h)), (fun h => (f5 (by simpa using h)).set2 hs n0 n1 _ _), (fun h => f6 (by simpa using h)), (fun h => (f7 (by simpa using h)).set2 hs n0 n1 _ _), (fun h => (f8 (by simpa using h)).set2 hs n0 n1 _ _), (fun h => by simpa using (f9 (by simpa using h)).far (n01 (by simpa using h) (hm ⟨10, .data⟩ (by simp) rfl)) hs n0 n1 _ _), (fun _ => by simpa using OwnP.near hi hg hs n0 n1), (fun h => by simpa using (f11 (by simpa using h)).far ((n12 (hm ⟨10, .data⟩ (by simp) rfl) (by simpa using h)).symm) hs n0 n1 _ _), (fun h h' => n01 (by simpa using h) (by simpa using h')), (fun h h' => n02 (by simpa using h) (by simpa using h')), (fun h h' => n12 (by simpa using h) (by simpa using h')), (fun h => by simpa using t0 (by simpa using h)), (fun _ => by simpa using hm ⟨10, .data⟩ (by simp) rfl), (fun h => by simpa using t2 (by simpa using h))⟩
            · intro d a2 w2 hd hm ⟨u48, u49, u50, u51, u52, u53, u54, u55, u56, u10, u11, u12, e, HB, f0, f1, f2, f3, f4, f5, f6, f7, f8, f9, f10, f11, n01, n02, n12, t0, t1, t2⟩ K hK
              subst e
              simp only [Act.put, List.setIfInBounds_toArray, List.set_cons_zero, List.set_cons_succ]
              obtain ⟨gg, AA, nn, cc, rfl, hi⟩ := f8 (hm ⟨8, .data⟩ (by simp) rfl)
              obtain ⟨g, rfl, hg, b0, b1, hs, n0, n1, _⟩ := f11 (hm ⟨11, .data⟩ (by simp) rfl)
              obtain ⟨k0, k1, k2, k3, k4⟩ := id hs
              go_simp
              exact hK.out _ _ ⟨u48, u49, u50, u51, u52, u53, u54, u55, .agg #[.bool gg, .slice AA nn cc], u10, u11, .pointer (some ⟨g, 0, none⟩), (by simp only [Act.put, List.setIfInBounds_toArray, List.set_cons_zero, List.set_cons_succ]), Below.set2 HB hg _ _, (fun h => f0 (by simpa using h)), (fun h => (f1 (by simpa using h)).set2 hs n0 n1 _ _), (fun h => f2 (by simpa using h)), (fun h => (f3 (by simpa using h)).set2 hs n0 n1 _ _), (fun h => f4 (by simpa using h)), (fun h => (f5 (by simpa using h)).set2 hs n0 n1 _ _), (fun h => f6 (by simpa using h)), (fun h => (f7 (by simpa using h)).set2 hs n0 n1 _ _), (fun h => (f8 (by simpa using h)).set2 hs n0 n1 _ _), (fun h => by simpa using (f9 (by simpa using h)).far (n02 (by simpa using h) (hm ⟨11, .data⟩ (by simp) rfl)) hs n0 n1 _ _), (fun h => by simpa using (f10 (by simpa using h)).far (n12 (by simpa using h) (hm ⟨11, .data⟩ (by simp) rfl)) hs n0 n1 _ _), (fun _ => by simpa using OwnP.near hi hg hs n0 n1), (fun h h' => n01 (by simpa using h) (by simpa using h')), (fun h h' => n02 (by simpa using h) (by simpa using h')), (fun h h' => n12 (by simpa using h) (by simpa using h')), (fun h => by simpa using t0 (by simpa using h)), (fun h => by simpa using t1 (by simpa using h)), (fun _ => by simpa using hm ⟨11, .data⟩ (by simp) rfl)⟩
          · intro d a2 w2 hall ⟨u48, u49, u50, u51, u52, u53, u54, u55, u56, u10, u11, u12, e, HB, f0, f1, f2, f3, f4, f5, f6, f7, f8, f9, f10, f11, n01, n02, n12, t0, t1, t2⟩
            subst e
            simp only [Act.put, List.setIfInBounds_toArray, List.set_cons_zero, List.set_cons_succ]
            obtain rfl := f0 (hall _ (by decide))
            obtain rfl := f2 (hall _ (by decide))
            obtain rfl := f4 (hall _ (by decide))
            obtain rfl := f6 (hall _ (by decide))
            have x01 := n01 (hall _ (by decide)) (hall _ (by decide))
            have x02 := n02 (hall _ (by decide)) (hall _ (by decide))
            have x12 := n12 (hall _ (by decide)) (hall _ (by decide))
            obtain ⟨g0, rfl, h0, b0⟩ := OwnP.intAtB (by have := f9 (hall _ (by decide)); rwa [hall 12 (by decide)] at this)
            obtain ⟨g1, rfl, h1, b1⟩ := OwnP.intAtB (by have := f10 (hall _ (by decide)); rwa [hall 13 (by decide)] at this)
            obtain ⟨g2, rfl, h2, b2⟩ := OwnP.intAtB (by have := f11 (hall _ (by decide)); rwa [hall 14 (by decide)] at this)
            have e01 : g0 ≠ g1 := fun h => x01 (by rw [h])
            have e02 : g0 ≠ g2 := fun h => x02 (by rw [h])
            have e12 : g1 ≠ g2 := fun h => x12 (by rw [h])
            go_wp2_with fail
            go_meet
            exact ⟨g0, g1, g2, rfl, rfl, rfl, h0, h1, h2, e01, e02, e12, b0, b1, b2, HB⟩
      obtain ⟨g0, g1, g2, rfl, rfl, rfl, h0, h1, h2', e01, e02, e12, b0, b1', b2, BX⟩ := hcut
      have BW := BF.trans (BX.mono BF.size)
      have P0X := P0F.after BX
      have P1X := P1F.after BX
      have hwF := BF.size
      have hsz : w.heap.size + 2 ≤ wF.heap.size := P1F.2.2.2.2
      clear SF MA MB P0F P1F IF HB BX BF
      have HLA := Lib.hid LA
      have HLB := Lib.hid LB
      have HAL := Lib.hid hal
      clear LA LB hal
      obtain ⟨T, hT⟩ : ∃ T, T = b * S := ⟨_, rfl⟩
      obtain ⟨X, hX⟩ : ∃ X, X = a * S := ⟨_, rfl⟩
      rw [← hT] at h1
      rw [← hX] at h0
      have hT0 : 0 < T := by rw [hT]; exact Nat.mul_pos hb0 hS1
      have HTD := Lib.hid hT
      have HXD := Lib.hid hX
      clear hT hX
      go_wp2_with fail
      have HLEN : Hid (∀ {v : Nat} {W : World} {g : Bool} {B : Option Addr} {l k : Nat}, v ≤ X → IsInt W g B l k (v : Int) → l ≤ 90000) := fun hv hi => hi.len_le (Nat.le_trans (digs_len_mono hv) (by
        rw [HXD.out]
        have h1 := digs_len_mul a S
        have h2 := HLA.out
        have h3 : (digs a).length ≤ 80000 := Nat.le_trans (digs_len_le HAL.out) hn
        omega))
      have HLENT : Hid (∀ {W : World} {g : Bool} {B : Option Addr} {l k : Nat}, IsInt W g B l k (T : Int) → l ≤ 90001) := fun hi => hi.len_le (by
        rw [Int.natAbs_natCast, HTD.out]
        have h1 := digs_len_mul b S
        have h2 := HLB.out
        omega)
      go_loopg [13] X (fun r _ wr => ∃ q : Nat, IntAt wr g0 (r : Int) ∧ IntAt wr g1 (T : Int) ∧ IntAt wr g2 (q : Int) ∧ Hid (r + q * T = X) ∧ Below w.heap.size w wr ∧ Slot2 wr w.heap.size (.bool false) (.slice none 0 0) ∧ Slot2 wr (w.heap.size + 1) (.bool false) (.slice none 0 0))
      case atStart => exact ⟨0, h0, h1, h2', by simp [Hid], BW, P0X, P1X⟩
      case round =>
        obtain ⟨q, i0, i1', i2, hrq, BR, P0, P1⟩ := hrel
        obtain ⟨gr, Ar, nr, cr, Sr, Ir⟩ := i0
        obtain ⟨gt, At, nt, ct, St, It⟩ := i1'
        obtain ⟨gq, Aq, nq, cq, Sq, Iq⟩ := i2
        have hless := less_any Ar At nr cr nt ct _ _ _ _ wr Ir.lim It.lim
        rw [Int.natAbs_natCast, Int.natAbs_natCast, lessV_digs] at hless
        have ⟨k0, k1, _, _, _⟩ := Sr
        have ⟨k2, k3, _, _, _⟩ := St
        have hrx : gk ≤ X := by have := hrq.out; omega
        have hqx : q ≤ X := Nat.le_trans (Nat.le_mul_of_pos_right q hT0) (by have := hrq.out; omega)
        have hnr := HLEN.out hrx Ir
        have hnq := HLEN.out hqx Iq
        have hnt := HLENT.out It
        by_cases hlt : gk < T
        · rw [decide_eq_true hlt] at hless
          have HLESS := Lib.hid hless
          clear hless
          go_wp2_with fail
          refine HLESS.out.mono ?_
          rintro e w5 ⟨rfl, hd⟩
          have D5 := hd.below wr.heap.size
          have ⟨k4, k5, _, _, _⟩ := Sr.after D5
          have hsh := short_any Ar nr cr w5.heap.size S (digs gk) w5 (((Ir.below D5).lim)) (Nat.le_refl _) (by omega) (by omega) hS2
          rw [val_digs] at hsh
          have HSH := Lib.hid hsh
          clear hsh k0 k1 k2 k3
          go_wp2_with fail
          refine HSH.out.mono ?_
          rintro e w6 ⟨A6, zs, rfl, hl6, hv6, hb6⟩
          have hq6 := long_end (a := a) (b := b) (S := S) (v := gk) (q := q) hS1 hb0 (by rw [← HTD.out, ← HXD.out, Nat.mul_comm T]; exact hrq.out) (by rw [← HTD.out]; exact hlt)
          have HMD := fun W (hW : Below w6.heap.size w6 W) => made_val false A6 nr nr (a % b) ((a % b : Nat) : Int) zs W ((hl6.below hW).more hW.size) (by rw [hl6.len]; omega) (by rw [hv6, hq6.2]) rfl
          have D6 := D5.trans (hb6.mono D5.size)
          have I6 := Iq.below D6
          have S6 := Sq.after D6
          have P06 := P0.after D6
          have P16 := P1.after D6
          have B6 := BR.trans (D6.mono BR.size)
          rw [hq6.1] at I6
          have HMD' := Lib.hid HMD
          clear HMD hv6 hq6 k4 k5
          go_wp2_with fail
          have ⟨x0, x1, _, _, _⟩ := S6
          have ⟨y0, y1, y2, y3, _⟩ := P06
          have ⟨z0, z1, z2, z3, _⟩ := P16
          have hne : w.heap.size ≠ g2 := by omega
          go_region_with (go_at_call 16; (with_reducible refine (HMD'.out _ (by first | exact (Below.refl _ _).drew | exact Below.refl _ _)).mono ?_); rintro e w7 ⟨g7, A7, n7, c7, rfl, i7, b7⟩; have B7 : Below w6.heap.size w6 w7 := (by first | exact b7 | exact (Below.refl _ _).drew.trans b7); have ⟨x2, x3, _, _, _⟩ := S6.after B7; have ⟨y4, y5, y6, y7, _⟩ := P06.after B7; have ⟨z4, z5, z6, z7, _⟩ := P16.after B7)
          all_goals go_wp2
          all_goals refine bodyPost_ret (v := .tuple #[.agg #[.bool gq, .slice Aq nq cq], .agg #[.bool g7, .slice A7 n7 c7]]) ?_ rfl ?_
          any_goals exact RetII.stored I6 i7 B7 B6 (Below.refl _ _) (Nat.le_refl _) (P06.after B7) (P16.after B7)
          all_goals simp [results, Tryd.results62, go_sem, y4, y5, z4, z5]
        · rw [decide_eq_false hlt] at hless
          have HLESS := Lib.hid hless
          clear hless
          go_wp2_with fail
          refine HLESS.out.mono ?_
          rintro e w5 ⟨rfl, hd⟩
          have D5 := hd.below wr.heap.size
          have Sr5 := Sr.after D5
          have St5 := St.after D5
          have Sq5 := Sq.after D5
          have Ir5 := Ir.below D5
          have It5 := It.below D5
          have Iq5 := Iq.below D5
          have B5 := BR.trans (D5.mono BR.size)
          have P05 := P0.after D5
          have P15 := P1.after D5
          have hest := est_all Ar At nr nt cr ct gk T w5 Ir5.lim It5.lim (by omega) (by omega) hT0 (by omega)
          have HEST := Lib.hid hest
          clear hest Sr St Sq Ir It Iq D5 BR P0 P1 k0 k1 k2 k3
          have ⟨k0, k1, _, _, _⟩ := Sr5
          have ⟨k2, k3, _, _, _⟩ := St5
          go_wp2_with fail
          refine HEST.out.mono ?_
          rintro e w6 ⟨s, ⟨gs, As, ns, cs, rfl, is6, b6⟩, hs1, hs2⟩
          clear k0 k1 k2 k3
          have DA := (Below.refl w6.heap.size w6).alloc (Nat.le_refl _) (.cells #[.bool gs, .slice As ns cs] 27)
          have Ss7 := Slot2.new w6 (.bool gs) (.slice As ns cs) 27
          have Is7 := is6.below DA
          have D7 := b6.trans (DA.mono b6.size)
          have Sr7 := Sr5.after D7
          have St7 := St5.after D7
          have Sq7 := Sq5.after D7
          have Ir7 := Ir5.below D7
          have It7 := It5.below D7
          have Iq7 := Iq5.below D7
          have B7 := B5.trans (D7.mono B5.size)
          have P07 := P05.after D7
          have P17 := P15.after D7
          have hsx : s ≤ X := Nat.le_trans (Nat.le_mul_of_pos_right s hT0) (by omega)
          have hns := HLEN.out hsx is6
          have hg0l := (Sr5.after b6).2.2.2.2
          have hg1l := (St5.after b6).2.2.2.2
          have hg2l := (Sq5.after b6).2.2.2.2
          clear Sr5 St5 Sq5 Ir5 It5 Iq5 B5 P05 P15 is6 b6 DA D7 HLESS HEST
          have ⟨x0, x1, _, _, _⟩ := Sq7
          have ⟨y0, y1, _, _, _⟩ := Ss7
          go_wp2_with fail
          generalize w6.alloc (.cells #[.bool gs, .slice As ns cs] 27) = w7 at *
          generalize w6.heap.size = g3 at *
          have HADD := Lib.hid (radd_any gq gs Aq As nq cq ns cs (q : Int) (s : Int) w7 Iq7 Is7 (by omega) (by omega))
          refine HADD.out.mono ?_
          rintro e w8 ⟨g8, A8, n8, c8, rfl, i8, b8⟩
          have Sq8 := Sq7.after b8
          have ⟨u0, u1, u2, u3, _⟩ := Sq8
          have Sr9 := (Sr7.after b8).far2 e02 (.bool g8) (.slice A8 n8 c8)
          have St9 := (St7.after b8).far2 e12 (.bool g8) (.slice A8 n8 c8)
          have Ss9 := (Ss7.after b8).far2 (show g3 ≠ g2 by omega) (.bool g8) (.slice A8 n8 c8)
          have Iq9 := IntAt.near2 i8 Sq8 rfl rfl
          have Ir9 := (Ir7.below b8).set2 Sq8 rfl rfl (.bool g8) (.slice A8 n8 c8)
          have It9 := (It7.below b8).set2 Sq8 rfl rfl (.bool g8) (.slice A8 n8 c8)
          have Is9 := (Is7.below b8).set2 Sq8 rfl rfl (.bool g8) (.slice A8 n8 c8)
          have P09 := (P07.after b8).far2 (show w.heap.size ≠ g2 by omega) (.bool g8) (.slice A8 n8 c8)
          have P19 := (P17.after b8).far2 (show w.heap.size + 1 ≠ g2 by omega) (.bool g8) (.slice A8 n8 c8)
          have B9 := Below.set2 (B7.trans (b8.mono B7.size)) (show w.heap.size ≤ g2 by omega) (.bool g8) (.slice A8 n8 c8)
          clear x0 x1 y0 y1 Sr7 St7 Sq7 Ss7 Ir7 It7 Iq7 Is7 B7 P07 P17 b8 i8 HADD
          go_wp2_with fail
          clear u0 u1 u2 u3 Sq8
          generalize (w8.setCell ⟨g2, 0, none⟩ (.bool g8)).setCell ⟨g2, 1, none⟩ (.slice A8 n8 c8) = w9 at *
          have ⟨x0, x1, _, _, _⟩ := Sr9
          have ⟨x2, x3, _, _, _⟩ := St9
          have ⟨x4, x5, _, _, _⟩ := Ss9
          have HMUL : Hid (∀ W, Below w9.heap.size w9 W → Calls Tryd.prog 12 #[.agg #[.bool gs, .slice As ns cs], .agg #[.bool gt, .slice At nt ct]] W (RetInt W ((s : Int) * (T : Int)))) := fun W hW => rmul_any gs gt As At ns cs nt ct (s : Int) (T : Int) W (Is9.below hW) (It9.below hW) (by omega) (by omega)
          have HSUB : Hid (∀ W gm Am nm cm, Below w9.heap.size w9 W → IsInt W gm Am nm cm ((s : Int) * (T : Int)) → Calls Tryd.prog 63 #[.agg #[.bool gr, .slice Ar nr cr], .agg #[.bool gm, .slice Am nm cm]] W (RetInt W ((gk : Int) - (s : Int) * (T : Int)))) := fun W gm Am nm cm hW hi => rsub_any gr gm Ar Am nr cr nm cm (gk : Int) _ W (Ir9.below hW) hi (by omega) (by
            have h1 : ((s : Int) * (T : Int)) = ((s * T : Nat) : Int) := (Int.natCast_mul s T).symm
            rw [h1] at hi
            have := HLEN.out (v := s * T) (by omega) hi
            omega)
          have ITA : IntAt w9 g1 (T : Int) := ⟨gt, At, nt, ct, St9, It9⟩
          have hsT : 0 < s * T := Nat.mul_pos hs1 hT0
          have eR : ((gk : Int) - (s : Int) * (T : Int)) = ((gk - s * T : Nat) : Int) := by rw [Int.natCast_sub hs2, Int.natCast_mul]
          have eQ : ((q : Int) + (s : Int)) = ((q + s : Nat) : Int) := rfl
          rw [eQ] at Iq9
          have HER := Lib.hid eR
          clear eR eQ
          clear HLEN HLENT Ir9 It9 Is9
          go_region_with (first | (go_at_call 63; (with_reducible refine (HSUB.out _ _ _ _ _ B10 i10).mono ?_); rintro e w11 ⟨g11, A11, n11, c11, rfl, i11, b11⟩; have B11 := (B10.trans (b11.mono B10.size)); have ⟨v0, v1, v2, v3, _⟩ := Sr9.after B11) | (go_at_call 12; (with_reducible refine (HMUL.out _ (by first | exact (Below.refl _ _).drew | exact Below.refl _ _)).mono ?_); rintro e w10 ⟨g10, A10, n10, c10, rfl, i10, b10⟩; have B10 : Below w9.heap.size w9 w10 := (by first | exact b10 | exact (Below.refl _ _).drew.trans b10); have ⟨v4, v5, _, _, _⟩ := Sr9.after B10))
          all_goals go_wp2_with fail
          all_goals (
            rw [HER.out] at i11
            have Sr11 := Sr9.after B11
            have B12 := B9.trans (B11.mono B9.size)
            go_roundg (gk - s * T)
            case measure => omega
            case rel => exact ⟨q + s, IntAt.near2 i11 Sr11 rfl rfl, (ITA.after B11).far2 e01.symm Sr11 rfl rfl _ _, (Iq9.after B11).far2 e02.symm Sr11 rfl rfl _ _, by rw [Hid, Nat.add_mul]; have := hrq.out; omega, Below.set2 B12 (by omega) _ _, (P09.after B11).far2 (by omega) _ _, (P19.after B11).far2 (by omega) _ _⟩)
end Go.Proofs.YtnlmdjbakcjhbaaDoor
