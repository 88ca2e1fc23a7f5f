/- The walk of the law CrtCombines, given what its fixed examples return. -/
import Derived.Test.YtclmenpclkmfeaaDoorVCrtSan
import Derived.Test.YtclmenpclkmfeaaDoorVCrtMd
import Derived.Test.YtclmenpclkmfeaaDoorVCrtQ
namespace Go.Proofs.YtclmenpclkmfeaaDoor
open Go.RowKit Go.Maps
theorem Cmb.cons {L : List (Nat × Nat)} {z : Int} (h : Cmb L z) (hok : OkR L) : Cons L z := ⟨hok, fun k hk => by
  have hm := getD_mem hk
  have h1 := h.res _ hm
  have h2 := hok.bound _ hm
  obtain ⟨c, hc⟩ := h1
  generalize (L.getD k (0, 0)).1 = p at *
  generalize (L.getD k (0, 0)).2 = v at *
  have e : z = (v : Int) + (p : Int) * c := by omega
  rw [e, Int.add_mul_emod_self_left]
  exact Int.emod_eq_of_lt (by omega) (by omega)⟩
theorem Cmb.sz {L : List (Nat × Nat)} {z : Int} (h : Cmb L z) (hp : PrL L) (hl : L.length ≤ 1000) : Sz (L.length + 1) z ∧ Sz (L.length + 1) ((prodP L : Nat) : Int) := by
  have h1 := prodP_sz hp.lt (Nat.le_refl L.length) hl
  rw [List.take_length] at h1
  have h2 := h.rg
  exact ⟨h1.abs_le' (by omega), h1⟩
theorem rcons_t (A : Option Addr) (n c : Nat) (L : List (Nat × Nat)) (ga : Bool) (Aa : Option Addr) (na ca : Nat) {k0 : Nat} {z : Int} (v : Bool) (w : World) (h : ResL w A n L) (ha : IsInt w ga Aa na ca z) (hn : n ≤ 1000) (hp : PrL L) (hok : OkR L) (sa : Sz k0 z) (hk0 : k0 ≤ 9000) (hv : v = true ↔ Cons L z) :
    Calls Tryd.prog 16 #[.slice A n c, .agg #[.bool ga, .slice Aa na ca]] w fun e w' => e = .returned (.bool v) ∧ Below w.heap.size w w' := by
  refine (rcons_z A n c L ga Aa na ca w h ha hn hp hok sa hk0).mono ?_
  rintro e w' ⟨u, rfl, hb, hu⟩
  have hu' := hu.out
  have huv : u = v := by
    cases u <;> cases v
    · rfl
    · have := hu'.2 (hv.1 rfl); cases this
    · have := hv.2 (hu'.1 rfl); cases this
    · rfl
  subst huv
  exact ⟨rfl, hb⟩
/-- Combine at a valid list of known primes. -/
theorem comb_pr (A : Option Addr) (n c : Nat) (L : List (Nat × Nat)) (w : World) (h : ResL w A n L) (hn : n ≤ 1000) (hT : TabW w) (h5 : TabN w.heap.size) (hok : OkR L) (hp : PrL L) :
    Calls Tryd.prog 12 #[.slice A n c] w fun e w' => ∃ g A n c z, e = .returned (.tuple #[.agg #[.bool g, .slice A n c], .int .i64 0]) ∧ IsInt w' g A n c z ∧ Below w.heap.size w w' ∧ Hid (Cmb L z) := by
  refine (comb_z A n c L w h hn hT h5 (fun _ x hx => (hp x hx).1)).mono ?_
  rintro e w' ⟨hb, ⟨_, g, A', n', c', z, rfl, hi, hz'⟩ | ⟨hno, _⟩⟩
  · exact ⟨g, A', n', c', z, rfl, hi, hb, hz'⟩
  · exact absurd hok hno.out
theorem OkR.lt2 {L : List (Nat × Nat)} (h : OkR L) (hp : PrL L) : ∀ x ∈ L, x.1 < 18446744073709551616 ∧ x.2 < 18446744073709551616 := hp.bd fun x hx => (h.bound x hx).1
set_option maxRecDepth 1000000 in
set_option maxHeartbeats 8000000 in
theorem law_ccomb (HSan : SanC) (A0 : Option Addr) (n0 c0 : Nat) (w : World) (ha : RawsL w A0 n0) (hT : TabW w) (h5 : TabN w.heap.size) :
    Calls Tryd.prog 3 #[.slice A0 n0 c0] w fun e w' => e = .returned (.bool true) ∧ Below w.heap.size w w' := by
  have HSn := Lib.hid (HSan w hT h5)
  have B := Below.refl w.heap.size w
  clear HSan
  go_enter Tryd.func3, Tryd.ntmps3
  go_wp2_with fail
  (with_reducible refine HSn.out.mono ?_)
  rintro e w1 ⟨rfl, b1⟩
  replace B := B.trans (b1.mono B.size)
  have HM : Hid (Calls Tryd.prog 11 #[.slice A0 n0 c0, .int .i64 10] w1 (RetMd w1 10)) := rmade_z A0 n0 c0 10 w1 (ha.below b1) (by decide)
  clear HSn b1 ha
  go_wp2_with fail
  (with_reducible refine HM.out.mono ?_)
  rintro e w2 ⟨g, n, c, L, rfl, O, hn, b2, hL⟩
  replace B := B.trans (b2.mono B.size)
  have hok := hL.out.1
  have hpr := hL.out.2
  have HC := Lib.hid (comb_pr (some ⟨g, 0, none⟩) n c L w2 (O.resL (hok.lt2 hpr)) (by omega) (hT.below B h5) (h5.le B.size) hok hpr)
  clear HM b2 hT h5
  go_wp2_with fail
  (with_reducible refine HC.out.mono ?_)
  rintro e w3 ⟨ga, Aa, na, ca, z, rfl, Ia, b3, hz⟩
  have a3 := (Below.refl w3.heap.size w3).alloc (Nat.le_refl _) (.cells #[.bool ga, .slice Aa na ca] 28)
  have X := Slot2.new w3 (.bool ga) (.slice Aa na ca) 28
  replace Ia := Ia.below a3
  replace b3 := b3.trans (a3.mono b3.size)
  replace O := O.keep b3
  replace B := B.trans (b3.mono B.size)
  clear b3 a3 HC
  have ⟨x0, x1, _, _, _⟩ := X
  obtain ⟨gx, hgx⟩ : ∃ gx, gx = w3.heap.size := ⟨_, rfl⟩
  go_upto_region 4 with (fail)
  generalize w3.alloc (.cells #[.bool ga, .slice Aa na ca] 28) = W3 at *
  rw [← hgx] at X x0 x1 ⊢
  clear hgx
  go_wp2_with fail
  (with_reducible refine (rvalid_z ga Aa na ca _ Ia).mono ?_)
  rintro e w4 ⟨rfl, b4⟩
  replace X := X.after b4
  replace Ia := Ia.below b4
  replace O := O.keep b4
  replace B := B.trans (b4.mono B.size)
  clear x0 x1 b4
  have hln : L.length = n := (O.resL (hok.lt2 hpr)).len
  have hsz := hz.out.sz hpr (by omega)
  rw [hln] at hsz
  obtain ⟨M, hM⟩ : ∃ M : Int, ((prodP L : Nat) : Int) = M := ⟨_, rfl⟩
  have Zz := hsz.1
  have SM := hsz.2
  have hrg := hz.out.rg
  rw [hM] at SM hrg
  have HCons := Lib.hid (hz.out.cons hok)
  go_upto_region 6 with (fail)
  have HX : Hid (∀ V, Below w4.heap.size w4 V → (V.cell? ⟨gx, 0, none⟩ = some (.bool ga) ∧ V.cell? ⟨gx, 1, none⟩ = some (.slice Aa na ca))) := fun V hV => ⟨(X.after hV).1, (X.after hV).2.1⟩
  have HI : Hid (∀ V, Below w4.heap.size w4 V → IsInt V ga Aa na ca z) := fun V hV => Ia.below hV
  have HP : Hid (∀ V, Below w4.heap.size w4 V → Calls Tryd.prog 14 #[.slice (some ⟨g, 0, none⟩) n c] V (RetInt V M)) := fun V hV => by
    have := rprod_z (some ⟨g, 0, none⟩) n c L V ((O.keep hV).resL (hok.lt2 hpr)) (by omega) hpr
    rw [hM] at this; exact this
  have Szz := Zz.add Zz (by omega)
  go_cut [7, 8] (fun p7 p8 wx => ∃ g7 g8, p7 = .pointer (some ⟨g7, 0, none⟩) ∧ p8 = .pointer (some ⟨g8, 0, none⟩) ∧ IntAt wx g7 M ∧ IntAt wx g8 (z + z) ∧ Below w4.heap.size w4 wx)
  case first =>
    as_aux_lemma =>
      refine wp_region_ev (fun d a0 a' w' => ∃ u24 u25 u26 u27 u28 u7 u8 : Value, a' = (((((((a0.put (some 24) u24).put (some 25) u25).put (some 26) u26).put (some 27) u27).put (some 28) u28).put (some 7) u7).put (some 8) u8) ∧ Below w4.heap.size w4 w' ∧ (d 0 = true → u24 = .slice (some ⟨g, 0, none⟩) n c) ∧ (d 1 = true → IntV w' u25 (M)) ∧ (d 2 = true → u26 = .agg #[.bool ga, .slice Aa na ca]) ∧ (d 3 = true → u27 = .agg #[.bool ga, .slice Aa na ca]) ∧ (d 4 = true → IntV w' u28 (z + z)) ∧ (d 5 = true → OwnP w4.heap.size w' u7 (d 7) (M)) ∧ (d 6 = true → OwnP w4.heap.size w' u8 (d 8) (z + z)) ∧ (d 5 = true → d 6 = true → u7 ≠ u8) ∧ (d 7 = true → d 5 = true) ∧ (d 8 = true → d 6 = true)) (by kernel_rfl) (by kernel_rfl) ?_ ?_ ?_ ?_
      · intro d d' h a' w' hh
        obtain rfl : d = d' := funext h
        exact hh
      · exact ⟨_, _, _, _, _, _, _, (by simp only [Act.put, List.setIfInBounds_toArray, List.set_cons_zero, List.set_cons_succ]; rfl), (Below.refl _ _).drew, (fun h => by cases h), (fun h => by cases h), (fun h => by cases h), (fun h => by cases h), (fun h => by cases h), (fun h => by cases h), (fun h => by cases h), (fun h => by cases h), (fun h => by cases h), (fun h => by cases h)⟩
      · refine ⟨?_, ?_, ?_, ?_, ?_, ?_, ?_, ?_, ?_, trivial⟩
        · intro d a2 w2 hd hm ⟨u24, u25, u26, u27, u28, u7, u8, e, HB, f0, f1, f2, f3, f4, f5, f6, n01, t0, t1⟩ K hK
          subst e
          simp only [Act.put, List.setIfInBounds_toArray, List.set_cons_zero, List.set_cons_succ]
          go_simp
          exact hK.out _ _ ⟨.slice (some ⟨g, 0, none⟩) n c, u25, u26, u27, u28, u7, u8, (by simp only [Act.put, List.setIfInBounds_toArray, List.set_cons_zero, List.set_cons_succ]), HB, (fun _ => rfl), (fun h => (f1 (by simpa using h))), (fun h => f2 (by simpa using h)), (fun h => f3 (by simpa using h)), (fun h => (f4 (by simpa using h))), (fun h => by simpa using (f5 (by simpa using h))), (fun h => by simpa using (f6 (by simpa using h))), (fun h h' => n01 (by simpa using h) (by simpa using h')), (fun h => by simpa using t0 (by simpa using h)), (fun h => by simpa using t1 (by simpa using h))⟩
        · intro d a2 w2 hd hm ⟨u24, u25, u26, u27, u28, u7, u8, e, HB, f0, f1, f2, f3, f4, f5, f6, n01, t0, t1⟩ K hK
          subst e
          simp only [Act.put, List.setIfInBounds_toArray, List.set_cons_zero, List.set_cons_succ]
          obtain rfl := f0 (hm ⟨0, .data⟩ (by simp) rfl)
          clear f0
          go_simp
          (with_reducible refine (HP.out _ HB).mono ?_)
          rintro e w3 ⟨gg, AA, nn, cc, rfl, hi, hb⟩
          have HB3 := HB.trans (hb.mono HB.size)
          go_wp2_with fail
          exact hK.out _ _ ⟨.slice (some ⟨g, 0, none⟩) n c, .agg #[.bool gg, .slice AA nn cc], u26, u27, u28, u7, u8, (by simp only [Act.put, List.setIfInBounds_toArray, List.set_cons_zero, List.set_cons_succ]), HB3, (fun _ => rfl), (fun _ => ⟨_, _, _, _, rfl, hi⟩), (fun h => f2 (by simpa using h)), (fun h => f3 (by simpa using h)), (fun h => (f4 (by simpa using h)).below hb), (fun h => by simpa using (f5 (by simpa using h)).below hb), (fun h => by simpa using (f6 (by simpa using h)).below hb), (fun h h' => n01 (by simpa using h) (by simpa using h')), (fun h => by simpa using t0 (by simpa using h)), (fun h => by simpa using t1 (by simpa using h))⟩
        · intro d a2 w2 hd hm ⟨u24, u25, u26, u27, u28, u7, u8, e, HB, f0, f1, f2, f3, f4, f5, f6, n01, t0, t1⟩ K hK
          subst e
          simp only [Act.put, List.setIfInBounds_toArray, List.set_cons_zero, List.set_cons_succ]
          obtain ⟨q0, q1⟩ := HX.out w2 HB
          go_simp
          exact hK.out _ _ ⟨u24, u25, .agg #[.bool ga, .slice Aa na ca], u27, u28, u7, u8, (by simp only [Act.put, List.setIfInBounds_toArray, List.set_cons_zero, List.set_cons_succ]), HB, (fun h => f0 (by simpa using h)), (fun h => (f1 (by simpa using h))), (fun _ => rfl), (fun h => f3 (by simpa using h)), (fun h => (f4 (by simpa using h))), (fun h => by simpa using (f5 (by simpa using h))), (fun h => by simpa using (f6 (by simpa using h))), (fun h h' => n01 (by simpa using h) (by simpa using h')), (fun h => by simpa using t0 (by simpa using h)), (fun h => by simpa using t1 (by simpa using h))⟩
        · intro d a2 w2 hd hm ⟨u24, u25, u26, u27, u28, u7, u8, e, HB, f0, f1, f2, f3, f4, f5, f6, n01, t0, t1⟩ K hK
          subst e
          simp only [Act.put, List.setIfInBounds_toArray, List.set_cons_zero, List.set_cons_succ]
          obtain ⟨q0, q1⟩ := HX.out w2 HB
          go_simp
          exact hK.out _ _ ⟨u24, u25, u26, .agg #[.bool ga, .slice Aa na ca], u28, u7, u8, (by simp only [Act.put, List.setIfInBounds_toArray, List.set_cons_zero, List.set_cons_succ]), HB, (fun h => f0 (by simpa using h)), (fun h => (f1 (by simpa using h))), (fun h => f2 (by simpa using h)), (fun _ => rfl), (fun h => (f4 (by simpa using h))), (fun h => by simpa using (f5 (by simpa using h))), (fun h => by simpa using (f6 (by simpa using h))), (fun h h' => n01 (by simpa using h) (by simpa using h')), (fun h => by simpa using t0 (by simpa using h)), (fun h => by simpa using t1 (by simpa using h))⟩
        · intro d a2 w2 hd hm ⟨u24, u25, u26, u27, u28, u7, u8, e, HB, f0, f1, f2, f3, f4, f5, f6, n01, t0, t1⟩ K hK
          subst e
          simp only [Act.put, List.setIfInBounds_toArray, List.set_cons_zero, List.set_cons_succ]
          obtain rfl := f2 (hm ⟨2, .data⟩ (by simp) rfl)
          clear f2
          obtain rfl := f3 (hm ⟨3, .data⟩ (by simp) rfl)
          clear f3
          go_simp
          (with_reducible refine (radd_z ga ga Aa Aa na ca na ca _ (HI.out _ HB) (HI.out _ HB) Zz Zz).mono ?_)
          rintro e w3 ⟨gg, AA, nn, cc, rfl, hi, hb⟩
          have HB3 := HB.trans (hb.mono HB.size)
          go_wp2_with fail
          exact hK.out _ _ ⟨u24, u25, .agg #[.bool ga, .slice Aa na ca], .agg #[.bool ga, .slice Aa na ca], .agg #[.bool gg, .slice AA nn cc], u7, u8, (by simp only [Act.put, List.setIfInBounds_toArray, List.set_cons_zero, List.set_cons_succ]), HB3, (fun h => f0 (by simpa using h)), (fun h => (f1 (by simpa using h)).below hb), (fun _ => rfl), (fun _ => rfl), (fun _ => ⟨_, _, _, _, rfl, hi⟩), (fun h => by simpa using (f5 (by simpa using h)).below hb), (fun h => by simpa using (f6 (by simpa using h)).below hb), (fun h h' => n01 (by simpa using h) (by simpa using h')), (fun h => by simpa using t0 (by simpa using h)), (fun h => by simpa using t1 (by simpa using h))⟩
        · intro d a2 w2 hd hm ⟨u24, u25, u26, u27, u28, u7, u8, e, HB, f0, f1, f2, f3, f4, f5, f6, n01, t0, t1⟩ K hK
          subst e
          simp only [Act.put, List.setIfInBounds_toArray, List.set_cons_zero, List.set_cons_succ]
          have hb : Below w2.heap.size w2 (w2.alloc (.cells #[.bool false, .slice none 0 0] 28)) := (Below.refl _ _).alloc (Nat.le_refl _) _
          have HB3 := HB.trans (hb.mono HB.size)
          go_simp
          exact hK.out _ _ ⟨u24, u25, u26, u27, u28, .pointer (some ⟨w2.heap.size, 0, none⟩), u8, (by simp only [Act.put, List.setIfInBounds_toArray, List.set_cons_zero, List.set_cons_succ]), HB3, (fun h => f0 (by simpa using h)), (fun h => (f1 (by simpa using h)).below hb), (fun h => f2 (by simpa using h)), (fun h => f3 (by simpa using h)), (fun h => (f4 (by simpa using h)).below hb), (fun _ => by have hs : d 7 = false := (by cases hq : d 7 with | false => rfl | true => (have hz := t0 hq; rw [hd] at hz; cases hz)); simpa [hs] using OwnP.new HB.size (M)), (fun h => by simpa using (f6 (by simpa using h)).below hb), (fun _ h' => ((f6 (by simpa using h')).lt).symm), (fun _ => by simp), (fun h => by simpa using t1 (by simpa using h))⟩
        · intro d a2 w2 hd hm ⟨u24, u25, u26, u27, u28, u7, u8, e, HB, f0, f1, f2, f3, f4, f5, f6, n01, t0, t1⟩ K hK
          subst e
          simp only [Act.put, List.setIfInBounds_toArray, List.set_cons_zero, List.set_cons_succ]
          have hb : Below w2.heap.size w2 (w2.alloc (.cells #[.bool false, .slice none 0 0] 28)) := (Below.refl _ _).alloc (Nat.le_refl _) _
          have HB3 := HB.trans (hb.mono HB.size)
          go_simp
          exact hK.out _ _ ⟨u24, u25, u26, u27, u28, u7, .pointer (some ⟨w2.heap.size, 0, none⟩), (by simp only [Act.put, List.setIfInBounds_toArray, List.set_cons_zero, List.set_cons_succ]), HB3, (fun h => f0 (by simpa using h)), (fun h => (f1 (by simpa using h)).below hb), (fun h => f2 (by simpa using h)), (fun h => f3 (by simpa using h)), (fun h => (f4 (by simpa using h)).below hb), (fun h => by simpa using (f5 (by simpa using h)).below hb), (fun _ => by have hs : d 8 = false := (by cases hq : d 8 with | false => rfl | true => (have hz := t1 hq; rw [hd] at hz; cases hz)); simpa [hs] using OwnP.new HB.size (z + z)), (fun h _ => (f5 (by simpa using h)).lt), (fun h => by simpa using t0 (by simpa using h)), (fun _ => by simp)⟩
        · intro d a2 w2 hd hm ⟨u24, u25, u26, u27, u28, u7, u8, e, HB, f0, f1, f2, f3, f4, f5, f6, n01, t0, t1⟩ K hK
          subst e
          simp only [Act.put, List.setIfInBounds_toArray, List.set_cons_zero, List.set_cons_succ]
          obtain ⟨gg, AA, nn, cc, rfl, hi⟩ := f1 (hm ⟨1, .data⟩ (by simp) rfl)
          obtain ⟨g, rfl, hg, b0, b1, hs, n0, n1, _⟩ := f5 (hm ⟨5, .data⟩ (by simp) rfl)
          obtain ⟨k0, k1, k2, k3, k4⟩ := id hs
          go_simp
          exact hK.out _ _ ⟨u24, .agg #[.bool gg, .slice AA nn cc], u26, u27, u28, .pointer (some ⟨g, 0, none⟩), u8, (by simp only [Act.put, List.setIfInBounds_toArray, List.set_cons_zero, List.set_cons_succ]), Below.set2 HB hg _ _, (fun h => f0 (by simpa using h)), (fun h => (f1 (by simpa using h)).set2 hs n0 n1 _ _), (fun h => f2 (by simpa using h)), (fun h => f3 (by simpa using h)), (fun h => (f4 (by simpa using h)).set2 hs n0 n1 _ _), (fun _ => by simpa using OwnP.near hi hg hs n0 n1), (fun h => by simpa using (f6 (by simpa using h)).far ((n01 (hm ⟨5, .data⟩ (by simp) rfl) (by simpa using h)).symm) hs n0 n1 _ _), (fun h h' => n01 (by simpa using h) (by simpa using h')), (fun _ => by simpa using hm ⟨5, .data⟩ (by simp) rfl), (fun h => by simpa using t1 (by simpa using h))⟩
        · intro d a2 w2 hd hm ⟨u24, u25, u26, u27, u28, u7, u8, e, HB, f0, f1, f2, f3, f4, f5, f6, n01, t0, t1⟩ K hK
          subst e
          simp only [Act.put, List.setIfInBounds_toArray, List.set_cons_zero, List.set_cons_succ]
          obtain ⟨gg, AA, nn, cc, rfl, hi⟩ := f4 (hm ⟨4, .data⟩ (by simp) rfl)
          obtain ⟨g, rfl, hg, b0, b1, hs, n0, n1, _⟩ := f6 (hm ⟨6, .data⟩ (by simp) rfl)
          obtain ⟨k0, k1, k2, k3, k4⟩ := id hs
          go_simp
          exact hK.out _ _ ⟨u24, u25, u26, u27, .agg #[.bool gg, .slice AA nn cc], u7, .pointer (some ⟨g, 0, none⟩), (by simp only [Act.put, List.setIfInBounds_toArray, List.set_cons_zero, List.set_cons_succ]), Below.set2 HB hg _ _, (fun h => f0 (by simpa using h)), (fun h => (f1 (by simpa using h)).set2 hs n0 n1 _ _), (fun h => f2 (by simpa using h)), (fun h => f3 (by simpa using h)), (fun h => (f4 (by simpa using h)).set2 hs n0 n1 _ _), (fun h => by simpa using (f5 (by simpa using h)).far (n01 (by simpa using h) (hm ⟨6, .data⟩ (by simp) rfl)) hs n0 n1 _ _), (fun _ => by simpa using OwnP.near hi hg hs n0 n1), (fun h h' => n01 (by simpa using h) (by simpa using h')), (fun h => by simpa using t0 (by simpa using h)), (fun _ => by simpa using hm ⟨6, .data⟩ (by simp) rfl)⟩
      · intro d a2 w2 hall ⟨u24, u25, u26, u27, u28, u7, u8, e, HB, f0, f1, f2, f3, f4, f5, f6, n01, t0, t1⟩
        subst e
        simp only [Act.put, List.setIfInBounds_toArray, List.set_cons_zero, List.set_cons_succ]
        obtain rfl := f0 (hall _ (by decide))
        obtain rfl := f2 (hall _ (by decide))
        obtain rfl := f3 (hall _ (by decide))
        obtain ⟨g0, rfl, h0, b0⟩ := OwnP.intAtB (by have := f5 (hall _ (by decide)); rwa [hall 7 (by decide)] at this)
        obtain ⟨g1, rfl, h1, b1⟩ := OwnP.intAtB (by have := f6 (hall _ (by decide)); rwa [hall 8 (by decide)] at this)
        go_wp2_with fail
        go_meet
        exact ⟨g0, g1, rfl, rfl, h0, h1, HB⟩
  case rest =>
  obtain ⟨g7, g8, rfl, rfl, ⟨gm, Am, nm, cm, Y, Im⟩, ⟨gt, At, nt, ct, T, It⟩, D⟩ := hcut
  obtain ⟨W5, rfl⟩ : ∃ x : World, x = wc := ⟨_, rfl⟩
  replace X := X.after D
  replace Ia := Ia.below D
  replace O := O.keep D
  replace B := B.trans (D.mono B.size)
  clear HX HI HP D
  obtain ⟨t1, ht1⟩ : ∃ t, cmpN (z + z) M = t := ⟨_, rfl⟩
  obtain ⟨t2, ht2⟩ : ∃ t, cmpN (z + z) (-M) = t := ⟨_, rfl⟩
  have h1 : decide (t1 ≤ 0) = true := by
    rw [← ht1]
    rcases Int.lt_or_eq_of_le (show z + z ≤ M by omega) with h | h
    · rw [cmpN_lt h]; decide
    · rw [h, cmpN_eq]; decide
  have h2 := cmpN_gt0 ht2 (by omega)
  have HT1 := Lib.hid ht1
  have HT2 := Lib.hid ht2
  have SMn := SM.neg
  clear ht1 ht2 hM hrg
  go_upto_region 7 with (fail)
  have HR : Hid (∀ V, Below W5.heap.size W5 V → ResL V (some ⟨g, 0, none⟩) n L) := fun V hV => (O.keep hV).resL (hok.lt2 hpr)
  have HS : Hid (∀ V, Below W5.heap.size W5 V → (V.cell? ⟨gx, 0, none⟩ = some (.bool ga) ∧ V.cell? ⟨gx, 1, none⟩ = some (.slice Aa na ca)) ∧ (V.cell? ⟨g7, 0, none⟩ = some (.bool gm) ∧ V.cell? ⟨g7, 1, none⟩ = some (.slice Am nm cm)) ∧ (V.cell? ⟨g8, 0, none⟩ = some (.bool gt) ∧ V.cell? ⟨g8, 1, none⟩ = some (.slice At nt ct))) := fun V hV => ⟨⟨(X.after hV).1, (X.after hV).2.1⟩, ⟨(Y.after hV).1, (Y.after hV).2.1⟩, (T.after hV).1, (T.after hV).2.1⟩
  have Dr0 : Below W5.heap.size W5 W5.drew := (Below.refl _ _).drew
  refine wp_region_seq (.pre [(0, true), (1, true), (2, false), (3, true), (4, true), (5, true), (6, false), (7, true), (8, true), (9, true), (10, true), (11, true), (12, false), (13, false), (14, true), (15, true), (16, true), (17, true), (18, true), (19, true)] .done) (fun W => (W.cell? ⟨gx, 0, none⟩ = some (.bool ga) ∧ W.cell? ⟨gx, 1, none⟩ = some (.slice Aa na ca)) ∧ (W.cell? ⟨g7, 0, none⟩ = some (.bool gm) ∧ W.cell? ⟨g7, 1, none⟩ = some (.slice Am nm cm)) ∧ (W.cell? ⟨g8, 0, none⟩ = some (.bool gt) ∧ W.cell? ⟨g8, 1, none⟩ = some (.slice At nt ct))) (by kernel_rfl) (by kernel_rfl) ?_ (by kernel_rfl) (HS.out _ Dr0) ?_
  · refine chk_pre _ _ _ (by as_aux_lemma => kernel_rfl) ?_
    exact (by as_aux_lemma => kernel_rfl)
  refine seq_take _ ?_ rfl (Or.inl ⟨by rfl, ?_⟩) ?_
  rotate_left
  · (intro w hSw; (try dsimp only at hSw); go_simp; (try with_reducible rfl))
  try simp only [Act.put, List.setIfInBounds_toArray, List.set_cons_zero, List.set_cons_succ]
  refine seq_take _ ?_ rfl (Or.inl ⟨by rfl, ?_⟩) ?_
  rotate_left
  · (intro w hSw; (try dsimp only at hSw); go_simp; (try with_reducible rfl))
  try simp only [Act.put, List.setIfInBounds_toArray, List.set_cons_zero, List.set_cons_succ]
  refine seq_one _ rfl fun K hK => ?_
  go_simp
  (with_reducible refine (rcons_t (some ⟨g, 0, none⟩) n c L ga Aa na ca true _ (HR.out _ Dr0) (Ia.below Dr0) (by omega) hpr hok Zz (by omega) ⟨fun _ => HCons.out, fun _ => rfl⟩).mono ?_)
  rintro e vr1 ⟨rfl, br1⟩
  have Dr1 : Below W5.heap.size W5 vr1 := Below.trans Dr0 (br1.mono (Below.size Dr0))
  go_wp2_with fail
  refine hK.out _ _ (HS.out _ Dr1) (fun hHeld => ?_)
  clear hK K hHeld
  try simp only [Act.put, List.setIfInBounds_toArray, List.set_cons_zero, List.set_cons_succ]
  refine seq_take _ ?_ rfl (Or.inl ⟨by rfl, ?_⟩) ?_
  rotate_left
  · (intro w hSw; (try dsimp only at hSw); go_simp; (try with_reducible rfl))
  try simp only [Act.put, List.setIfInBounds_toArray, List.set_cons_zero, List.set_cons_succ]
  refine seq_take _ ?_ rfl (Or.inl ⟨by rfl, ?_⟩) ?_
  rotate_left
  · (intro w hSw; (try dsimp only at hSw); go_simp; (try with_reducible rfl))
  try simp only [Act.put, List.setIfInBounds_toArray, List.set_cons_zero, List.set_cons_succ]
  refine seq_take _ ?_ rfl (Or.inl ⟨by rfl, ?_⟩) ?_
  rotate_left
  · (intro w hSw; (try dsimp only at hSw); go_simp; (try with_reducible rfl))
  try simp only [Act.put, List.setIfInBounds_toArray, List.set_cons_zero, List.set_cons_succ]
  refine seq_one _ rfl fun K hK => ?_
  go_simp
  (with_reducible refine (rcmp_z gt gm At Am nt ct nm cm _ t1 (It.below Dr1) (Im.below Dr1) Szz SM HT1.out).mono ?_)
  rintro e vr2 ⟨rfl, br2⟩
  have Dr2 : Below W5.heap.size W5 vr2 := Below.trans Dr1 (br2.mono (Below.size Dr1))
  go_wp2_with fail
  refine hK.out _ _ (HS.out _ Dr2) (fun hHeld => ?_)
  clear hK K hHeld
  try simp only [Act.put, List.setIfInBounds_toArray, List.set_cons_zero, List.set_cons_succ]
  refine seq_take _ ?_ rfl (Or.inl ⟨by rfl, ?_⟩) ?_
  rotate_left
  · (intro w hSw; (try dsimp only at hSw); go_simp; (try with_reducible rfl))
  try simp only [Act.put, List.setIfInBounds_toArray, List.set_cons_zero, List.set_cons_succ]
  refine seq_take _ ?_ rfl (Or.inl ⟨by rfl, ?_⟩) ?_
  rotate_left
  · (intro w hSw; (try dsimp only at hSw); go_simp; (try with_reducible rfl))
  try simp only [Act.put, List.setIfInBounds_toArray, List.set_cons_zero, List.set_cons_succ]
  refine seq_take _ ?_ rfl (Or.inl ⟨by rfl, ?_⟩) ?_
  rotate_left
  · (intro w hSw; (try dsimp only at hSw); go_simp; (try with_reducible rfl))
  try simp only [Act.put, List.setIfInBounds_toArray, List.set_cons_zero, List.set_cons_succ]
  refine seq_take _ ?_ rfl (Or.inl ⟨by rfl, ?_⟩) ?_
  rotate_left
  · (intro w hSw; (try dsimp only at hSw); go_simp; (try with_reducible rfl))
  try simp only [Act.put, List.setIfInBounds_toArray, List.set_cons_zero, List.set_cons_succ]
  refine seq_take _ ?_ rfl (Or.inl ⟨by rfl, ?_⟩) ?_
  rotate_left
  · (intro w hSw; (try dsimp only at hSw); go_simp; (try with_reducible rfl))
  try simp only [Act.put, List.setIfInBounds_toArray, List.set_cons_zero, List.set_cons_succ]
  refine seq_one _ rfl fun K hK => ?_
  go_simp
  (with_reducible refine (rneg_z gm Am nm cm _ (Im.below Dr2) SM).mono ?_)
  rintro e vr3 ⟨gr3, Ar3, nr3, cr3, rfl, ir3, br3⟩
  have Dr3 : Below W5.heap.size W5 vr3 := Below.trans Dr2 (br3.mono (Below.size Dr2))
  go_wp2_with fail
  refine hK.out _ _ (HS.out _ Dr3) (fun hHeld => ?_)
  clear hK K hHeld
  try simp only [Act.put, List.setIfInBounds_toArray, List.set_cons_zero, List.set_cons_succ]
  refine seq_one _ rfl fun K hK => ?_
  go_simp
  (with_reducible refine (rcmp_z gt gr3 At Ar3 nt ct nr3 cr3 _ t2 (It.below Dr3) ir3 Szz SMn HT2.out).mono ?_)
  rintro e vr4 ⟨rfl, br4⟩
  have Dr4 : Below W5.heap.size W5 vr4 := Below.trans Dr3 (br4.mono (Below.size Dr3))
  go_wp2_with fail
  refine hK.out _ _ (HS.out _ Dr4) (fun hHeld => ?_)
  clear hK K hHeld
  try simp only [Act.put, List.setIfInBounds_toArray, List.set_cons_zero, List.set_cons_succ]
  refine seq_take _ ?_ rfl (Or.inl ⟨by rfl, ?_⟩) ?_
  rotate_left
  · (intro w hSw; (try dsimp only at hSw); go_simp; (try with_reducible rfl))
  try simp only [Act.put, List.setIfInBounds_toArray, List.set_cons_zero, List.set_cons_succ]
  refine seq_take _ ?_ rfl (Or.inl ⟨by rfl, ?_⟩) ?_
  rotate_left
  · (intro w hSw; (try dsimp only at hSw); go_simp; (try with_reducible rfl))
  try simp only [Act.put, List.setIfInBounds_toArray, List.set_cons_zero, List.set_cons_succ]
  refine seq_take _ ?_ rfl (Or.inl ⟨by rfl, ?_⟩) ?_
  rotate_left
  · (intro w hSw; (try dsimp only at hSw); go_simp; (try with_reducible rfl))
  try simp only [Act.put, List.setIfInBounds_toArray, List.set_cons_zero, List.set_cons_succ]
  refine seq_take _ ?_ rfl (Or.inl ⟨by rfl, ?_⟩) ?_
  rotate_left
  · (intro w hSw; (try dsimp only at hSw); go_simp; (try with_reducible rfl))
  try simp only [Act.put, List.setIfInBounds_toArray, List.set_cons_zero, List.set_cons_succ]
  refine seq_take _ ?_ rfl (Or.inl ⟨by rfl, ?_⟩) ?_
  rotate_left
  · (intro w hSw; (try dsimp only at hSw); go_simp; (try with_reducible rfl))
  try simp only [Act.put, List.setIfInBounds_toArray, List.set_cons_zero, List.set_cons_succ]
  refine seq_take _ ?_ rfl (Or.inl ⟨by rfl, ?_⟩) ?_
  rotate_left
  · (intro w hSw; (try dsimp only at hSw); go_simp; (try with_reducible rfl))
  try simp only [Act.put, List.setIfInBounds_toArray, List.set_cons_zero, List.set_cons_succ]
  refine NoPanic.normal ?_
  go_wp2_with fail
  go_ret
  exact ⟨rfl, B.trans (Dr4.mono B.size)⟩
end Go.Proofs.YtclmenpclkmfeaaDoor
