/- The walk of the law IntegerRoots, given what its fixed examples return. -/
import Derived.Test.YtdknibhaacbkpaaDoorVLawRootR
namespace Go.Proofs.YtdknibhaacbkpaaDoor
open Go.RowKit
theorem root_math {v t : Nat} (h1 : t * t ≤ v * v) (h2 : v * v < (t + 1) * (t + 1)) : ((t : Nat) : Int) = (v : Int) := by rw [sq_root h1 h2]
set_option maxRecDepth 1000000 in
set_option maxHeartbeats 4000000 in
theorem law_roots (HS : SanOk) (A1 : Option Addr) (n1 c1 : Nat) (s1 : Bool) (xs : List Nat) (k : Int) (w : World) (ha : Lim w w.heap.size A1 n1 c1 xs) (hk1 : 0 ≤ k) (hk2 : k ≤ 255) :
    Calls Tryd.prog 11 #[.agg #[.slice A1 n1 c1, .bool s1], .int .u8 k] w fun e w' => e = .returned (.bool true) ∧ Below w.heap.size w w' := by
  have HS' := Lib.hid HS
  clear HS
  have M1 := fun W (hW : Below w.heap.size w W) => made_any s1 A1 n1 c1 w.heap.size xs W (ha.below hW) hW.size
  have Za := Sz.raw s1 xs 12 ha.lt (by decide)
  generalize zOf s1 (val (xs.take 12)) = a at M1 Za
  have HM1 := Lib.hid M1
  clear M1 ha
  obtain ⟨v, hv⟩ : ∃ v, a.natAbs = v := ⟨_, rfl⟩
  have hvl : v < 4294967296 ^ 12 := by rw [← hv]; exact Za.lt
  obtain ⟨n, hn⟩ := isBits_ex v
  have hnl := hn.le hvl
  have HV := Lib.hid hv
  have HN : Hid (IsBits a.natAbs n) := by rw [hv]; exact hn
  have HNv := Lib.hid hn
  have haa : a * a = ((v * v : Nat) : Int) := by rw [← hv, Int.natCast_mul, Int.natAbs_mul_self' a]
  have HAA := Lib.hid haa
  have Zv : Sz 12 (v : Int) := Sz.nat hvl (by decide)
  have Z1 : Sz 1 (1 : Int) := Sz.of (by decide) (by decide)
  have Z2 : Sz 1 (2 : Int) := Sz.of (by decide) (by decide)
  have h300 : 1 ≤ 300 := by decide
  have Zvv : Sz 24 ((v * v : Nat) : Int) := by rw [← haa]; exact Sz.mul Za Za (by decide)
  clear hv hn haa
  obtain ⟨kk, hkk⟩ : ∃ kk : Nat, (kk : Int) = k % 40 := ⟨(k % 40).toNat, by omega⟩
  have hkl : kk < 40 := by omega
  have r1 : k % 40 = (kk : Int) := hkk.symm
  have r2 : k.tmod 40 = (kk : Int) := by rw [Int.tmod_eq_emod_of_nonneg hk1]; exact r1
  have HR1 := Lib.hid r1
  have HR2 := Lib.hid r2
  clear hkk r1 r2
  obtain ⟨B0, X0⟩ := frameR1 w (.slice A1 n1 c1) (.bool s1)
  go_enter Tryd.func11, Tryd.ntmps11
  go_wp2_with fail
  refine (HS'.out _).mono ?_
  rintro e w1 ⟨rfl, hb1⟩
  have BH := B0.trans (hb1.mono B0.size)
  have ⟨x0, x1, _, _, _⟩ := X0.after hb1
  clear X0 B0 hb1
  have BG0 := bag_nil w1
  go_wp2_with fail
  (with_reducible refine (HM1.out _ BH).mono ?_)
  rintro e w1_1 ⟨gr1, Ar1, nr1, cr1, rfl, ir1, hb1⟩
  have HB1 := hb1
  have BG1 := (BG0.after HB1).new ir1
  have B1 := (BH.trans (HB1.mono BH.size)).alloc (Nat.le_trans BH.size HB1.size) (.cells #[.bool gr1, .slice Ar1 nr1 cr1] 28)
  clear  BG0 BH
  clear x0 x1
  obtain ⟨ga, Aa, na, ca, Sa, Ia⟩ := BG1 (w1_1.heap.size, a) (by simp)
  have ⟨xa, ya, _, _, _⟩ := Sa
  go_wp2_with fail
  generalize w1_1.heap.size = b6 at *
  generalize hW : w1_1.alloc (.cells #[.bool gr1, .slice Ar1 nr1 cr1] 28) = W1 at *
  clear hW
  go_wp2_with fail
  (with_reducible refine (rabs_v ga Aa na ca _ v Ia Za HV.out).mono ?_)
  rintro e w2_1 ⟨gr1, Ar1, nr1, cr1, rfl, ir1, hb1⟩
  have HB1 := hb1
  have BG2 := (BG1.after HB1).new ir1
  have B2 := (B1.trans (HB1.mono B1.size)).alloc (Nat.le_trans B1.size HB1.size) (.cells #[.bool gr1, .slice Ar1 nr1 cr1] 28)
  clear xa ya Sa Ia BG1 B1
  obtain ⟨gs, As, ns, cs, Ss, Is⟩ := BG2 (w2_1.heap.size, (v : Int)) (by simp)
  have ⟨xs, ys, _, _, _⟩ := Ss
  go_wp2_with fail
  generalize w2_1.heap.size = b7 at *
  generalize hW : w2_1.alloc (.cells #[.bool gr1, .slice Ar1 nr1 cr1] 28) = W2 at *
  clear hW
  go_wp2_with fail
  (with_reducible refine (root_z gs As ns cs _ v Is Zv).mono ?_)
  rintro e w3_1 ⟨r, ⟨gr1, Ar1, nr1, cr1, rfl, ir1, hb1⟩, hr1, hr2⟩
  have HB1 := hb1
  have BG3 := (BG2.after HB1).new ir1
  have B3 := (B2.trans (HB1.mono B2.size)).alloc (Nat.le_trans B2.size HB1.size) (.cells #[.bool gr1, .slice Ar1 nr1 cr1] 28)
  clear xs ys Ss Is BG2 B2
  obtain ⟨ga, Aa, na, ca, Sa, Ia⟩ := BG3 (b6, a) (by simp)
  have ⟨xa, ya, _, _, _⟩ := Sa
  go_wp2_with fail
  generalize w3_1.heap.size = b8 at *
  generalize hW : w3_1.alloc (.cells #[.bool gr1, .slice Ar1 nr1 cr1] 28) = W3 at *
  clear hW
  go_wp2_with fail
  (with_reducible refine (rmul_e ga ga Aa Aa na ca na ca _ _ Ia Ia Za Za HAA.out).mono ?_)
  rintro e w4_1 ⟨gr1, Ar1, nr1, cr1, rfl, ir1, hb1⟩
  have HB1 := hb1
  go_wp2_with fail
  (with_reducible refine (root_z gr1 Ar1 nr1 cr1 _ (v * v) ir1 Zvv).mono ?_)
  rintro e w4_2 ⟨t, ⟨gr2, Ar2, nr2, cr2, rfl, ir2, hb2⟩, ht1, ht2⟩
  have HB2 := HB1.trans (hb2.mono HB1.size)
  have BG4 := (BG3.after HB2).new ir2
  have B4 := (B3.trans (HB2.mono B3.size)).alloc (Nat.le_trans B3.size HB2.size) (.cells #[.bool gr2, .slice Ar2 nr2 cr2] 28)
  clear xa ya Sa Ia BG3 B3
  obtain ⟨ga, Aa, na, ca, Sa, Ia⟩ := BG4 (b6, a) (by simp)
  have ⟨xa, ya, _, _, _⟩ := Sa
  go_wp2_with fail
  generalize w4_2.heap.size = b10 at *
  generalize hW : w4_2.alloc (.cells #[.bool gr2, .slice Ar2 nr2 cr2] 28) = W4 at *
  clear hW
  have hrv : r ≤ v := Nat.le_trans (Nat.le_mul_self r) hr1
  have htv := root_math ht1 ht2
  have Zr : Sz 12 (r : Int) := Sz.nat (Nat.lt_of_le_of_lt hrv hvl) (by decide)
  have HR3 := Lib.hid hr1
  have HR4 := Lib.hid hr2
  have HTV := Lib.hid htv
  clear hr1 hr2 ht1 ht2 htv
  go_wp2_with fail
  (with_reducible refine (root_any_z ga Aa na ca _ Ia Za).mono ?_)
  rintro e w5_1 ⟨z, code, ⟨gr1, Ar1, nr1, cr1, rfl, ir1, hb1⟩, hcode⟩
  have HB1 := hb1
  have BG5 := (BG4.after HB1).new ir1
  have B5 := (B4.trans (HB1.mono B4.size)).alloc (Nat.le_trans B4.size HB1.size) (.cells #[.bool gr1, .slice Ar1 nr1 cr1] 28)
  clear xa ya Sa Ia BG4 B4
  have HCODE := Lib.hid hcode
  clear hcode
  obtain ⟨ga, Aa, na, ca, Sa, Ia⟩ := BG5 (b6, a) (by simp)
  have ⟨xa, ya, _, _, _⟩ := Sa
  go_wp2_with fail
  generalize w5_1.heap.size = b12 at *
  generalize hW : w5_1.alloc (.cells #[.bool gr1, .slice Ar1 nr1 cr1] 28) = W5 at *
  clear hW
  have i1 : ¬ (n : Int) < 0 := by omega
  have i2 : ¬ (400 : Int) < (n : Int) := by omega
  go_wp2_with fail
  (with_reducible refine (bits_z ga Aa na ca _ n Ia Za HN.out).mono ?_)
  rintro e w6_1 ⟨rfl, hb1⟩
  have HB1 := hb1
  have BG6 := BG5.after HB1
  have B6 := B5.trans (HB1.mono B5.size)
  clear xa ya Sa Ia BG5 B5
  obtain ⟨s, hs⟩ : ∃ s, sgn a = s := ⟨_, rfl⟩
  have hs2 : decide (s < 0) = decide (a < 0) := by rw [← hs]; unfold sgn; split <;> (try split) <;> simp <;> omega
  have HSG := Lib.hid hs
  obtain ⟨cb, hcb⟩ : ∃ cb, cb = decide (a < 0) := ⟨_, rfl⟩
  have hcd := HCODE.out
  rw [← hcb] at hs2 hcd
  clear hs hcb
  obtain ⟨ga, Aa, na, ca, Sa, Ia⟩ := BG6 (b6, a) (by simp)
  have ⟨xa, ya, _, _, _⟩ := Sa
  obtain ⟨gr, Ar, nr, cr, Sr, Ir⟩ := BG6 (b8, (r : Int)) (by simp)
  have ⟨xr, yr, _, _, _⟩ := Sr
  obtain ⟨gt, At, nt, ct, St, It⟩ := BG6 (b10, (t : Int)) (by simp)
  have ⟨xt, yt, _, _, _⟩ := St
  go_wp2_with fail
  (with_reducible refine (rsign_z ga Aa na ca _ s Ia HSG.out).mono ?_)
  rintro e w7_1 ⟨rfl, hb1⟩
  have HB1 := hb1
  have ⟨xr1, yr1, _, _, _⟩ := Sr.after HB1
  have ⟨xt1, yt1, _, _, _⟩ := St.after HB1
  go_wp2_with fail
  (with_reducible refine (rvalid_z gr Ar nr cr _ (Ir.below HB1)).mono ?_)
  rintro e w7_2 ⟨rfl, hb2⟩
  have HB2 := HB1.trans (hb2.mono HB1.size)
  have ⟨xt2, yt2, _, _, _⟩ := St.after HB2
  go_wp2_with fail
  (with_reducible refine (rvalid_z gt At nt ct _ (It.below HB2)).mono ?_)
  rintro e w7_3 ⟨rfl, hb3⟩
  have HB3 := HB2.trans (hb3.mono HB2.size)
  have BG7 := BG6.after HB3
  have B7 := B6.trans (HB3.mono B6.size)
  clear xa ya Sa Ia xr yr Sr Ir xt yt St It xr1 yr1 xt1 yt1 xt2 yt2 BG6 B6
  go_wp2_with fail
  obtain ⟨WA, rfl⟩ : ∃ x : World, x = w7_3 := ⟨_, rfl⟩
  go_cut [15] (fun p15 wx => ∃ g15 : Nat, p15 = .pointer (some ⟨g15, 0, none⟩) ∧ IntAt wx g15 ((r : Int) + 1) ∧ Below WA.heap.size WA wx)
  case first =>
    as_aux_lemma =>
      obtain ⟨gr, Ar, nr, cr, Sr, Ir⟩ := BG7 (b8, (r : Int)) (by simp)
      have HX : Hid (∀ W, Below WA.heap.size WA W → Slot2 W b8 (.bool gr) (.slice Ar nr cr)) := fun W hW => Sr.after hW
      clear Sr BG7
      refine wp_region_ev (fun d a0 a' w' => ∃ u80 u81 u82 u15 : Value, a' = ((((a0.put (some 80) u80).put (some 81) u81).put (some 82) u82).put (some 15) u15) ∧ Below WA.heap.size WA w' ∧ (d 0 = true → u80 = .agg #[.bool gr, .slice Ar nr cr]) ∧ (d 1 = true → IntV w' u81 (1)) ∧ (d 2 = true → IntV w' u82 ((r : Int) + 1)) ∧ (d 3 = true → OwnP WA.heap.size w' u15 (d 4) ((r : Int) + 1)) ∧ (d 4 = true → d 3 = true)) (by kernel_rfl) (by kernel_rfl) ?_ ?_ ?_ ?_
      · intro d d' h a' w' hh
        obtain rfl : d = d' := funext h
        exact hh
      · exact ⟨_, _, _, _, (by simp only [Act.put, List.setIfInBounds_toArray, List.set_cons_zero, List.set_cons_succ]; rfl), (Below.refl _ _).drew, (fun h => by cases h), (fun h => by cases h), (fun h => by cases h), (fun h => by cases h), (fun h => by cases h)⟩
      · refine ⟨?_, ?_, ?_, ?_, ?_, trivial⟩
        · intro d a2 w2 hd hm ⟨u80, u81, u82, u15, e, HB, f0, f1, f2, f3, t0⟩ K hK
          subst e
          simp only [Act.put, List.setIfInBounds_toArray, List.set_cons_zero, List.set_cons_succ]
          obtain ⟨q0, q1, _, _, _⟩ := HX.out w2 HB
          go_simp
          exact hK.out _ _ ⟨.agg #[.bool gr, .slice Ar nr cr], u81, u82, u15, (by simp only [Act.put, List.setIfInBounds_toArray, List.set_cons_zero, List.set_cons_succ]), HB, (fun _ => rfl), (fun h => (f1 (by simpa using h))), (fun h => (f2 (by simpa using h))), (fun h => by simpa using (f3 (by simpa using h))), (fun h => by simpa using t0 (by simpa using h))⟩
        · intro d a2 w2 hd hm ⟨u80, u81, u82, u15, e, HB, f0, f1, f2, f3, t0⟩ K hK
          subst e
          simp only [Act.put, List.setIfInBounds_toArray, List.set_cons_zero, List.set_cons_succ]
          go_simp
          (with_reducible refine (rof_any 1 _ (by decide) (by decide)).mono ?_)
          rintro e w3 ⟨gg, AA, nn, cc, rfl, hi, hb⟩
          have HB3 := HB.trans (hb.mono HB.size)
          go_wp2_with fail
          exact hK.out _ _ ⟨u80, .agg #[.bool gg, .slice AA nn cc], u82, u15, (by simp only [Act.put, List.setIfInBounds_toArray, List.set_cons_zero, List.set_cons_succ]), HB3, (fun h => f0 (by simpa using h)), (fun _ => ⟨_, _, _, _, rfl, hi⟩), (fun h => (f2 (by simpa using h)).below hb), (fun h => by simpa using (f3 (by simpa using h)).below hb), (fun h => by simpa using t0 (by simpa using h))⟩
        · intro d a2 w2 hd hm ⟨u80, u81, u82, u15, e, HB, f0, f1, f2, f3, t0⟩ K hK
          subst e
          simp only [Act.put, List.setIfInBounds_toArray, List.set_cons_zero, List.set_cons_succ]
          obtain rfl := f0 (hm ⟨0, .data⟩ (by simp) rfl)
          clear f0
          obtain ⟨G1, A1, N1, C1, rfl, I1⟩ := f1 (hm ⟨1, .data⟩ (by simp) rfl)
          go_simp
          (with_reducible refine (radd_z gr G1 Ar A1 nr cr N1 C1 _ (Ir.below HB) I1 Zr Z1).mono ?_)
          rintro e w3 ⟨gg, AA, nn, cc, rfl, hi, hb⟩
          have HB3 := HB.trans (hb.mono HB.size)
          go_wp2_with fail
          exact hK.out _ _ ⟨.agg #[.bool gr, .slice Ar nr cr], .agg #[.bool G1, .slice A1 N1 C1], .agg #[.bool gg, .slice AA nn cc], u15, (by simp only [Act.put, List.setIfInBounds_toArray, List.set_cons_zero, List.set_cons_succ]), HB3, (fun _ => rfl), (fun h => (f1 (by simpa using h)).below hb), (fun _ => ⟨_, _, _, _, rfl, hi⟩), (fun h => by simpa using (f3 (by simpa using h)).below hb), (fun h => by simpa using t0 (by simpa using h))⟩
        · intro d a2 w2 hd hm ⟨u80, u81, u82, u15, e, HB, f0, f1, f2, f3, t0⟩ K hK
          subst e
          simp only [Act.put, List.setIfInBounds_toArray, List.set_cons_zero, List.set_cons_succ]
          have hb : Below w2.heap.size w2 (w2.alloc (.cells #[.bool false, .slice none 0 0] 28)) := (Below.refl _ _).alloc (Nat.le_refl _) _
          have HB3 := HB.trans (hb.mono HB.size)
          go_simp
          exact hK.out _ _ ⟨u80, u81, u82, .pointer (some ⟨w2.heap.size, 0, none⟩), (by simp only [Act.put, List.setIfInBounds_toArray, List.set_cons_zero, List.set_cons_succ]), HB3, (fun h => f0 (by simpa using h)), (fun h => (f1 (by simpa using h)).below hb), (fun h => (f2 (by simpa using h)).below hb), (fun _ => by have hs : d 4 = false := (by cases hq : d 4 with | false => rfl | true => (have hz := t0 hq; rw [hd] at hz; cases hz)); simpa [hs] using OwnP.new HB.size ((r : Int) + 1)), (fun _ => by simp)⟩
        · intro d a2 w2 hd hm ⟨u80, u81, u82, u15, e, HB, f0, f1, f2, f3, t0⟩ K hK
          subst e
          simp only [Act.put, List.setIfInBounds_toArray, List.set_cons_zero, List.set_cons_succ]
          obtain ⟨gg, AA, nn, cc, rfl, hi⟩ := f2 (hm ⟨2, .data⟩ (by simp) rfl)
          obtain ⟨g, rfl, hg, b0, b1, hs, n0, n1, _⟩ := f3 (hm ⟨3, .data⟩ (by simp) rfl)
          obtain ⟨k0, k1, k2, k3, k4⟩ := id hs
          go_simp
          exact hK.out _ _ ⟨u80, u81, .agg #[.bool gg, .slice AA nn cc], .pointer (some ⟨g, 0, none⟩), (by simp only [Act.put, List.setIfInBounds_toArray, List.set_cons_zero, List.set_cons_succ]), Below.set2 HB hg _ _, (fun h => f0 (by simpa using h)), (fun h => (f1 (by simpa using h)).set2 hs n0 n1 _ _), (fun h => (f2 (by simpa using h)).set2 hs n0 n1 _ _), (fun _ => by simpa using OwnP.near hi hg hs n0 n1), (fun _ => by simpa using hm ⟨3, .data⟩ (by simp) rfl)⟩
      · intro d a2 w2 hall ⟨u80, u81, u82, u15, e, HB, f0, f1, f2, f3, t0⟩
        subst e
        simp only [Act.put, List.setIfInBounds_toArray, List.set_cons_zero, List.set_cons_succ]
        obtain rfl := f0 (hall _ (by decide))
        obtain ⟨g0, rfl, h0, b0⟩ := OwnP.intAtB (by have := f3 (hall _ (by decide)); rwa [hall 4 (by decide)] at this)
        go_wp2_with fail
        go_meet
        exact ⟨g0, rfl, h0, HB⟩
  case rest =>
  obtain ⟨b15, rfl, h15, D15⟩ := hcut
  have BGa := Bag.cons h15 (BG7.after D15)
  have BHa := B7.trans (D15.mono B7.size)
  clear BG7 B7 h15 D15
  obtain ⟨WB, rfl⟩ : ∃ x : World, x = wc := ⟨_, rfl⟩
  have L6 := (BGa (b6, a) (by simp)).lt
  have L7 := (BGa (b7, (v : Int)) (by simp)).lt
  have L8 := (BGa (b8, (r : Int)) (by simp)).lt
  have L10 := (BGa (b10, (t : Int)) (by simp)).lt
  have L15 := (BGa (b15, (r : Int) + 1) (by simp)).lt
  obtain ⟨mn, hmn⟩ : ∃ mn, mn = min n 256 := ⟨_, rfl⟩
  obtain ⟨mx, hmx⟩ : ∃ mx, mx = n - 256 := ⟨_, rfl⟩
  have hmn2 : mn ≤ 256 := by omega
  have hmx2 : mx ≤ 256 := by omega
  have hsum : mn + mx = n := by omega
  have e1 : min (n : Int) 256 = (mn : Int) := by omega
  have e2 : (if (256 : Int) < n then (256 : Int) else n) = (mn : Int) := by split <;> omega
  have e3 : max 0 ((n : Int) - 256) = (mx : Int) := by omega
  have e4 : (if (0 : Int) < (n : Int) - 256 then (n : Int) - 256 else 0) = (mx : Int) := by split <;> omega
  have e5 : IntKind.i64.wrap ((n : Int) - 256) = (n : Int) - 256 := by rw [IntKind.wrap_i64]; omega
  have hW0 := BHa.size
  clear hmn hmx
  go_wp2_with fail
  (with_reducible refine (rof_any 2 _ (by decide) (by decide)).mono ?_)
  rintro e w8_1 ⟨gr1, Ar1, nr1, cr1, rfl, ir1, hb1⟩
  have HB1 := hb1
  go_wp2_with fail
  (with_reducible refine (rpow_z gr1 Ar1 nr1 cr1 _ mn _ rfl ir1 Z2 h300 hmn2).mono ?_)
  rintro e w8_2 ⟨gr2, Ar2, nr2, cr2, rfl, ir2, hb2⟩
  have HB2 := HB1.trans (hb2.mono HB1.size)
  have BG8 := (BGa.after HB2).new ir2
  have B8 := (BHa.trans (HB2.mono BHa.size)).alloc (Nat.le_trans BHa.size HB2.size) (.cells #[.bool gr2, .slice Ar2 nr2 cr2] 28)
  clear  BGa BHa
  have L6' := Nat.lt_of_lt_of_le L6 HB2.size
  have L7' := Nat.lt_of_lt_of_le L7 HB2.size
  have L8' := Nat.lt_of_lt_of_le L8 HB2.size
  have L10' := Nat.lt_of_lt_of_le L10 HB2.size
  have L15' := Nat.lt_of_lt_of_le L15 HB2.size
  have hbw := Nat.le_trans hW0 HB2.size
  go_wp2_with fail
  generalize w8_2.heap.size = b16 at *
  generalize hW : w8_2.alloc (.cells #[.bool gr2, .slice Ar2 nr2 cr2] 28) = W8 at *
  clear hW
  have L16 := (BG8 (b16, (2 : Int) ^ mn) (by simp)).lt
  clear L6 L7 L8 L10 L15
  go_wp2_with fail
  (with_reducible refine (rof_any 2 _ (by decide) (by decide)).mono ?_)
  rintro e w9_1 ⟨gr1, Ar1, nr1, cr1, rfl, ir1, hb1⟩
  have HB1 := hb1
  go_wp2_with fail
  (with_reducible refine (rpow_z gr1 Ar1 nr1 cr1 _ mx _ rfl ir1 Z2 h300 hmx2).mono ?_)
  rintro e w9_2 ⟨gr2, Ar2, nr2, cr2, rfl, ir2, hb2⟩
  have HB2 := HB1.trans (hb2.mono HB1.size)
  have BG9 := (BG8.after HB2).new ir2
  have B9 := (B8.trans (HB2.mono B8.size)).alloc (Nat.le_trans B8.size HB2.size) (.cells #[.bool gr2, .slice Ar2 nr2 cr2] 28)
  clear  BG8 B8
  have L16' := Nat.lt_of_lt_of_le L16 HB2.size
  go_upto_region 13 with (fail)
  generalize w9_2.heap.size = b18 at *
  generalize hW : w9_2.alloc (.cells #[.bool gr2, .slice Ar2 nr2 cr2] 28) = W9 at *
  clear hW
  obtain ⟨gp, Ap, np, cp, Sp, Ip⟩ := BG9 (b16, (2 : Int) ^ mn) (by simp)
  have ⟨xp, yp, _, _, _⟩ := Sp
  obtain ⟨gq, Aq, nq, cq, Sq, Iq⟩ := BG9 (b18, (2 : Int) ^ mx) (by simp)
  have ⟨xq, yq, _, _, _⟩ := Sq
  have Zp : Sz 300 ((2 : Int) ^ mn) := Z2.pow2 hmn2
  have Zq : Sz 300 ((2 : Int) ^ mx) := Z2.pow2 hmx2
  have hpq : (2 : Int) ^ mn * (2 : Int) ^ mx = (2 : Int) ^ n := by rw [← Int.pow_add, hsum]
  clear e1 e2 e3 e4 e5 L16
  go_wp2_with fail
  (with_reducible refine (rmul_e gp gq Ap Aq np cp nq cq _ _ Ip Iq Zp Zq hpq).mono ?_)
  rintro e wM ⟨gm, Am, nm, cm, rfl, im, hbm⟩
  have SpM := Sp.after hbm
  have ⟨xp1, yp1, fp0, fp1, _⟩ := SpM
  have BGm := BG9.after hbm
  have BHm := B9.trans (hbm.mono B9.size)
  have ipb := IntAt.near2 im SpM rfl rfl
  have BGn := Bag.cons ipb (Bag.far2 (Bag.sub BGm (m := [(b15, (r : Int) + 1), (b10, (t : Int)), (b8, (r : Int)), (b7, (v : Int)), (b6, a)]) (by simp)) (by simp; omega) SpM rfl rfl (.bool gm) (.slice Am nm cm))
  have BHn := Below.set2 BHm hbw (.bool gm) (.slice Am nm cm)
  clear xp yp xq yq Sp Ip Sq Iq BG9 B9 BGm BHm im hbm SpM ipb
  go_wp2_with fail
  generalize (wM.setCell ⟨b16, 0, none⟩ (.bool gm)).setCell ⟨b16, 1, none⟩ (.slice Am nm cm) = WC at *
  have r1 := HR1.out
  have r2 := HR2.out
  have hkk256 : kk ≤ 256 := by omega
  go_wp2_with fail
  (with_reducible refine (rof_any 2 _ (by decide) (by decide)).mono ?_)
  rintro e w10_1 ⟨gr1, Ar1, nr1, cr1, rfl, ir1, hb1⟩
  have HB1 := hb1
  go_wp2_with fail
  (with_reducible refine (rpow_z gr1 Ar1 nr1 cr1 _ kk _ rfl ir1 Z2 h300 hkk256).mono ?_)
  rintro e w10_2 ⟨gr2, Ar2, nr2, cr2, rfl, ir2, hb2⟩
  have HB2 := HB1.trans (hb2.mono HB1.size)
  have BG10 := (BGn.after HB2).new ir2
  have B10 := (BHn.trans (HB2.mono BHn.size)).alloc (Nat.le_trans BHn.size HB2.size) (.cells #[.bool gr2, .slice Ar2 nr2 cr2] 28)
  clear  BGn BHn
  go_upto_region 15 with (fail)
  generalize w10_2.heap.size = b20 at *
  generalize hW : w10_2.alloc (.cells #[.bool gr2, .slice Ar2 nr2 cr2] 28) = W10 at *
  clear hW
  clear r1 r2
  have e2n : ((2 ^ n : Nat) : Int) = (2 : Int) ^ n := Int.natCast_pow 2 n
  have E1 : cmpN (v : Int) ((2 : Int) ^ n) = -1 := cmpN_lt (by have := HNv.out.1; omega)
  have HE1 := Lib.hid E1
  have Zn : Sz 600 ((2 : Int) ^ n) := by rw [← hpq]; exact Sz.mul Zp Zq (by decide)
  clear E1
  obtain ⟨WD, rfl⟩ : ∃ x : World, x = W10 := ⟨_, rfl⟩
  go_cut [22] (fun p22 wx => p22 = .bool true ∧ Below WD.heap.size WD wx)
  case first =>
    rcases Nat.eq_zero_or_pos n with hn0 | hn0
    · have HZ : Hid (((n : Int) == 0) = true) := by rw [hn0]; rfl
      clear hn0
      refine root_r15a (BG10 (b7, (v : Int)) (by simp)) (BG10 (b16, (2 : Int) ^ n) (by simp)) Zv Zn HE1 HZ.out ?_
      intros
      go_wp2_with fail
      go_meet
      exact ⟨rfl, by assumption⟩
    · have hz : ((n : Int) == 0) = false := by simp; omega
      have HZ := Lib.hid hz
      clear hz
      have hge : (2 : Int) ^ n ≤ (v : Int) + v := by
        have hv0 : 0 < v := by
          rcases Nat.eq_zero_or_pos v with h | h
          · have := HNv.out.2.1 h; omega
          · exact h
        have h1 := (HNv.out.2.2 hv0).1
        have h2 : 2 ^ n = 2 ^ (n - 1) * 2 := by rw [← Nat.pow_succ]; congr 1; omega
        omega
      have hq0 : 0 ≤ cmpN ((v : Int) + v) ((2 : Int) ^ n) := by unfold cmpN; rw [if_neg (by omega)]; split <;> omega
      have HQ0 := Lib.hid hq0
      clear hq0 hge
      refine root_r15b (BG10 (b7, (v : Int)) (by simp)) (BG10 (b16, (2 : Int) ^ n) (by simp)) Zv Zn HE1 HZ.out (Lib.hid rfl) HQ0.out ?_
      intros
      go_wp2_with fail
      go_meet
      exact ⟨rfl, by assumption⟩
  case rest =>
  obtain ⟨rfl, D22⟩ := hcut
  have BGp := BG10.after D22
  have BHp := B10.trans (D22.mono B10.size)
  clear BG10 B10 D22 HE1
  obtain ⟨WE, rfl⟩ : ∃ x : World, x = wc := ⟨_, rfl⟩
  obtain ⟨ga, Aa, na, ca, Sa, Ia⟩ := BGp (b6, a) (by simp)
  have ⟨xa, ya, _, _, _⟩ := Sa
  go_upto_region 16 with (fail)
  go_cut [23] (fun p23 wx => p23 = .bool true ∧ Below WE.heap.size WE wx)
  case first =>
    have r1 := HR1.out
    have r2 := HR2.out
    by_cases ha0 : a = 0
    · have HS0 := Lib.hid (sgn_zero ha0)
      clear ha0
      go_wp2_with fail
      (with_reducible refine (rsign_z ga Aa na ca _ 0 Ia HS0.out).mono ?_)
      rintro e wF ⟨rfl, hF⟩
      go_wp2_with fail
      go_meet
      exact ⟨rfl, hF⟩
    · obtain ⟨u, hu⟩ : ∃ u, sgn a = u := ⟨_, rfl⟩
      have hu0 : (u == 0) = false := by rw [← hu]; exact sgn_ne' ha0
      have HSU := Lib.hid hu
      have hB : IsBits (a * (2 : Int) ^ kk).natAbs (n + kk) := by
        rw [Int.natAbs_mul, Int.natAbs_pow, HV.out]
        exact HNv.out.shift kk (by have := HV.out; omega)
      have HBB := Lib.hid hB
      have eN : ((n + kk : Nat) : Int) = (n : Int) + kk := rfl
      have Zk : Sz 300 ((2 : Int) ^ kk) := Z2.pow2 hkk256
      clear hu ha0 hB
      obtain ⟨gw, Aw, nw, cw, Sw, Iw⟩ := BGp (b20, (2 : Int) ^ kk) (by simp)
      go_wp2_with fail
      (with_reducible refine (rsign_z ga Aa na ca _ u Ia HSU.out).mono ?_)
      rintro e wF ⟨rfl, hF⟩
      have ⟨xa1, ya1, _, _, _⟩ := Sa.after hF
      have ⟨xw1, yw1, _, _, _⟩ := Sw.after hF
      go_wp2_with fail
      (with_reducible refine (rmul_z ga gw Aa Aw na ca nw cw _ (Ia.below hF) (Iw.below hF) Za Zk).mono ?_)
      rintro e wG ⟨gm, Am, nm, cm, rfl, im, hG⟩
      have HG := hF.trans (hG.mono hF.size)
      go_wp2_with fail
      (with_reducible refine (bits_z gm Am nm cm _ (n + kk) im (Sz.mul Za Zk (by decide)) HBB.out).mono ?_)
      rintro e wI ⟨rfl, hI⟩
      have HI := HG.trans (hI.mono HG.size)
      clear xa ya xa1 ya1 xw1 yw1
      go_wp2_with fail
      go_meet
      exact ⟨by simp, HI⟩
  case rest =>
  obtain ⟨rfl, D23⟩ := hcut
  have BGq := BGp.after D23
  have BHq := BHp.trans (D23.mono BHp.size)
  clear BGp BHp D23 xa ya Sa Ia
  obtain ⟨WJ, rfl⟩ : ∃ x : World, x = wc := ⟨_, rfl⟩
  have U1 : 0 ≤ sgn (r : Int) := by unfold sgn; rw [if_neg (by omega)]; split <;> omega
  have U2 : cmpN ((r : Int) * (r : Int)) (v : Int) ≤ 0 := by
    have h1 : ((r * r : Nat) : Int) = (r : Int) * r := Int.natCast_mul r r
    have h2 := HR3.out
    unfold cmpN
    split
    · omega
    · rw [if_neg (by omega)]; omega
  have U3 : cmpN (((r : Int) + 1) * ((r : Int) + 1)) (v : Int) = 1 := cmpN_gt (by
    have h1 : (((r + 1) * (r + 1) : Nat) : Int) = ((r : Int) + 1) * ((r : Int) + 1) := by rw [Int.natCast_mul]; rfl
    have h2 := HR4.out
    omega)
  have HU1 := Lib.hid U1
  have HU2 := Lib.hid U2
  have HU3 := Lib.hid U3
  have Zx : Sz 13 ((r : Int) + 1) := Sz.add Zr (Z1.mono (by decide) (by decide)) (by decide)
  clear U1 U2 U3
  go_wp2_with fail
  go_cut [4] (fun p4 wx => p4 = .bool true ∧ Below WJ.heap.size WJ wx)
  case first =>
    refine root_r17 (BGq (b8, (r : Int)) (by simp)) (BGq (b7, (v : Int)) (by simp)) (BGq (b15, (r : Int) + 1) (by simp)) (BGq (b10, (t : Int)) (by simp)) (BGq (b6, a) (by simp)) Zr Zv Zx Za (Lib.hid rfl) HU1.out (Lib.hid rfl) HU2.out HU3 HTV HV (Lib.hid rfl) ?_
    intros
    go_wp2_with fail
    go_meet
    exact ⟨rfl, by assumption⟩
  case rest =>
  obtain ⟨rfl, D4⟩ := hcut
  have BZ := BHq.trans (D4.mono BHq.size)
  go_wp2_with fail
  go_ret
  exact ⟨rfl, BZ⟩
end Go.Proofs.YtdknibhaacbkpaaDoor
