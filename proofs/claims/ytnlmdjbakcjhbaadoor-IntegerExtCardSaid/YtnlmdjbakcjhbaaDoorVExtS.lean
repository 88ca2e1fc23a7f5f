/- Contract of integer.extOfSizes. -/
import Derived.Test.YtnlmdjbakcjhbaaDoorVRDM
import Derived.Test.YtnlmdjbakcjhbaaDoorVG24Sz
import Derived.Test.YtnlmdjbakcjhbaaDoorVExtZ
import Derived.Deep.LoopGhost
namespace Go.Proofs.YtnlmdjbakcjhbaaDoor
open Go.RowKit
theorem ExtInv.bound {a b g r : Nat} {s s' t t' : Int} (h : ExtInv a b g r s s' t t') (hg : 0 < g ∨ 0 < r) : s.natAbs ≤ max 1 b ∧ s'.natAbs ≤ max 1 b := by
  have a1 := h.a1
  have o1 := h.o1
  have lt := h.lt
  have h1 : 0 < r → s.natAbs ≤ b := fun hr => by
    have := Nat.le_mul_of_pos_right s.natAbs hr
    omega
  have h2 : 0 < g → s'.natAbs ≤ b := fun hg => by
    have := Nat.le_mul_of_pos_right s'.natAbs hg
    omega
  rcases Nat.eq_zero_or_pos g with e | e
  · have hr : 0 < r := by omega
    have := h1 hr
    omega
  · have h3 := h2 e
    rcases Nat.eq_zero_or_pos r with e2 | e2
    · omega
    · have := h1 e2
      omega
def extF (G R : Nat) (x y : Int) : Int := if _h : R = 0 then x else extF R (G % R) y (x - ((G / R : Nat) : Int) * y)
  termination_by R
  decreasing_by exact Nat.mod_lt _ (Nat.pos_of_ne_zero _h)
theorem extF_zero (G : Nat) (x y : Int) : extF G 0 x y = x := by rw [extF, dif_pos rfl]
theorem extF_step {G R : Nat} (x y : Int) (h : 0 < R) : extF G R x y = extF R (G % R) y (x - ((G / R : Nat) : Int) * y) := by rw [extF, dif_neg (by omega)]
/-- The two coefficients. -/
def sE (a b : Nat) : Int := extF a b 1 0
def tE (a b : Nat) : Int := if b = 0 then 0 else (((Nat.gcd a b : Nat) : Int) - sE a b * (a : Int)) / (b : Int)
theorem szm {k : Nat} {b : Nat} {s : Int} (sb : Sz k (b : Int)) (hk : 1 ≤ k) (h : s.natAbs ≤ max 1 b) : Sz k s := by
  refine Sz.of ?_ sb.le
  have h1 := sb.lt
  rw [Int.natAbs_natCast] at h1
  have h2 : 4294967296 ^ 1 ≤ 4294967296 ^ k := Nat.pow_le_pow_right (by decide) hk
  omega
theorem IntAt.size {w : World} {g : Nat} {z : Int} (h : IntAt w g z) : g < w.heap.size := by
  obtain ⟨_, _, _, _, ⟨_, _, _, _, h⟩, _⟩ := h
  exact h
set_option maxRecDepth 1000000 in
set_option maxHeartbeats 8000000 in
theorem exts_z (neg neg' : Bool) (A A' : Option Addr) (n c m dc : Nat) {k : Nat} {a b : Nat} (w : World) (ha : IsInt w neg A n c (a : Int)) (hb : IsInt w neg' A' m dc (b : Int)) (sa : Sz k (a : Int)) (sb : Sz k (b : Int)) (hk1 : 1 ≤ k) (hk : k + k + k + 2 ≤ 10000) (hab : 0 < a ∨ 0 < b) :
    Calls Tryd.prog 74 #[.agg #[.bool neg, .slice A n c], .agg #[.bool neg', .slice A' m dc]] w fun e w' => Ret3 w ((Nat.gcd a b : Nat) : Int) (sE a b) (tE a b) e w' ∧ ∃ s' t' : Int, ExtInv a b (Nat.gcd a b) 0 (sE a b) s' (tE a b) t' := by
  obtain ⟨HB0, P0, Q0, R0, S0, U0⟩ := frame23 w (.bool neg) (.slice A n c) (.bool neg') (.slice A' m dc)
  obtain ⟨V0, hV0⟩ : ∃ x : World, x = ((((w.alloc (.cells #[.bool neg, .slice A n c] 27)).alloc (.cells #[.bool neg', .slice A' m dc] 27)).alloc (.cells #[.bool false, .slice none 0 0] 27)).alloc (.cells #[.bool false, .slice none 0 0] 27)).alloc (.cells #[.bool false, .slice none 0 0] 27) := ⟨_, rfl⟩
  have Ia0 := ha.below HB0
  have Ib0 := hb.below HB0
  rw [← hV0] at HB0 P0 Q0 R0 S0 U0 Ia0 Ib0
  have HAB := Lib.hid hab
  clear ha hb hab
  go_enter Tryd.func74, Tryd.ntmps74
  go_upto_region 1 with (fail)
  rw [← hV0]
  clear hV0
  have HX := Lib.hid (fun W (hW : Below V0.heap.size V0 W) => And.intro (P0.after hW) (Q0.after hW))
  go_cut [7, 8] (fun p7 p8 wx => ∃ g7 g8 : Nat, p7 = .pointer (some ⟨g7, 0, none⟩) ∧ p8 = .pointer (some ⟨g8, 0, none⟩) ∧ g7 ≠ g8 ∧ V0.heap.size ≤ g7 ∧ V0.heap.size ≤ g8 ∧ IntAt wx g7 (a : Int) ∧ IntAt wx g8 (b : Int) ∧ Below V0.heap.size V0 wx)
  case first =>
    refine wp_region_ev (fun d a0 a' w' => ∃ u17 u18 u7 u8 : Value, a' = ((((a0.put (some 17) u17).put (some 18) u18).put (some 7) u7).put (some 8) u8) ∧ Below V0.heap.size V0 w' ∧ (d 0 = true → IntV w' u17 ((a : Int))) ∧ (d 1 = true → IntV w' u18 ((b : Int))) ∧ (d 2 = true → OwnP V0.heap.size w' u7 (d 4) ((a : Int))) ∧ (d 3 = true → OwnP V0.heap.size w' u8 (d 5) ((b : Int))) ∧ (d 2 = true → d 3 = true → u7 ≠ u8) ∧ (d 4 = true → d 2 = true) ∧ (d 5 = true → d 3 = true)) (by kernel_rfl) (by kernel_rfl) ?_ ?_ ?_ ?_
    · intro d d' h a' w' hh
      obtain rfl : d = d' := funext h
      exact hh
    · exact ⟨_, _, _, _, (by simp only [Act.put, List.setIfInBounds_toArray, List.set_cons_zero, List.set_cons_succ]; rfl), (Below.refl _ _).drew, (fun h => by cases h), (fun h => by cases h), (fun h => by cases h), (fun h => by cases h), (fun h => by cases h), (fun h => by cases h), (fun h => by cases h)⟩
    · refine ⟨?_, ?_, ?_, ?_, ?_, ?_, trivial⟩
      · intro d a2 w2 hd hm ⟨u17, u18, u7, u8, e, HB, f0, f1, f2, f3, n01, t0, t1⟩ K hK
        subst e
        simp only [Act.put, List.setIfInBounds_toArray, List.set_cons_zero, List.set_cons_succ]
        obtain ⟨⟨q0, q1, _, _, _⟩, ⟨q2, q3, _, _, _⟩⟩ := HX.out w2 HB
        go_simp
        exact hK.out _ _ ⟨.agg #[.bool neg, .slice A n c], u18, u7, u8, (by simp only [Act.put, List.setIfInBounds_toArray, List.set_cons_zero, List.set_cons_succ]), HB, (fun _ => ⟨_, _, _, _, rfl, (Ia0.below HB)⟩), (fun h => (f1 (by simpa using h))), (fun h => by simpa using (f2 (by simpa using h))), (fun h => by simpa using (f3 (by simpa using h))), (fun h h' => n01 (by simpa using h) (by simpa using h')), (fun h => by simpa using t0 (by simpa using h)), (fun h => by simpa using t1 (by simpa using h))⟩
      · intro d a2 w2 hd hm ⟨u17, u18, u7, u8, e, HB, f0, f1, f2, f3, n01, t0, t1⟩ K hK
        subst e
        simp only [Act.put, List.setIfInBounds_toArray, List.set_cons_zero, List.set_cons_succ]
        obtain ⟨⟨q0, q1, _, _, _⟩, ⟨q2, q3, _, _, _⟩⟩ := HX.out w2 HB
        go_simp
        exact hK.out _ _ ⟨u17, .agg #[.bool neg', .slice A' m dc], u7, u8, (by simp only [Act.put, List.setIfInBounds_toArray, List.set_cons_zero, List.set_cons_succ]), HB, (fun h => (f0 (by simpa using h))), (fun _ => ⟨_, _, _, _, rfl, (Ib0.below HB)⟩), (fun h => by simpa using (f2 (by simpa using h))), (fun h => by simpa using (f3 (by simpa using h))), (fun h h' => n01 (by simpa using h) (by simpa using h')), (fun h => by simpa using t0 (by simpa using h)), (fun h => by simpa using t1 (by simpa using h))⟩
      · intro d a2 w2 hd hm ⟨u17, u18, u7, u8, e, HB, f0, f1, f2, f3, n01, t0, t1⟩ K hK
        subst e
        simp only [Act.put, List.setIfInBounds_toArray, List.set_cons_zero, List.set_cons_succ]
        have hb : Below w2.heap.size w2 (w2.alloc (.cells #[.bool false, .slice none 0 0] 27)) := (Below.refl _ _).alloc (Nat.le_refl _) _
        have HB3 := HB.trans (hb.mono HB.size)
        go_simp
        exact hK.out _ _ ⟨u17, u18, .pointer (some ⟨w2.heap.size, 0, none⟩), u8, (by simp only [Act.put, List.setIfInBounds_toArray, List.set_cons_zero, List.set_cons_succ]), HB3, (fun h => (f0 (by simpa using h)).below hb), (fun h => (f1 (by simpa using h)).below hb), (fun _ => by have hs : d 4 = false := (by cases hq : d 4 with | false => rfl | true => (have hz := t0 hq; rw [hd] at hz; cases hz)); simpa [hs] using OwnP.new HB.size ((a : Int))), (fun h => by simpa using (f3 (by simpa using h)).below hb), (fun _ h' => ((f3 (by simpa using h')).lt).symm), (fun _ => by simp), (fun h => by simpa using t1 (by simpa using h))⟩
      · intro d a2 w2 hd hm ⟨u17, u18, u7, u8, e, HB, f0, f1, f2, f3, n01, t0, t1⟩ K hK
        subst e
        simp only [Act.put, List.setIfInBounds_toArray, List.set_cons_zero, List.set_cons_succ]
        have hb : Below w2.heap.size w2 (w2.alloc (.cells #[.bool false, .slice none 0 0] 27)) := (Below.refl _ _).alloc (Nat.le_refl _) _
        have HB3 := HB.trans (hb.mono HB.size)
        go_simp
        exact hK.out _ _ ⟨u17, u18, u7, .pointer (some ⟨w2.heap.size, 0, none⟩), (by simp only [Act.put, List.setIfInBounds_toArray, List.set_cons_zero, List.set_cons_succ]), HB3, (fun h => (f0 (by simpa using h)).below hb), (fun h => (f1 (by simpa using h)).below hb), (fun h => by simpa using (f2 (by simpa using h)).below hb), (fun _ => by have hs : d 5 = false := (by cases hq : d 5 with | false => rfl | true => (have hz := t1 hq; rw [hd] at hz; cases hz)); simpa [hs] using OwnP.new HB.size ((b : Int))), (fun h _ => (f2 (by simpa using h)).lt), (fun h => by simpa using t0 (by simpa using h)), (fun _ => by simp)⟩
      · intro d a2 w2 hd hm ⟨u17, u18, u7, u8, e, HB, f0, f1, f2, f3, n01, t0, t1⟩ K hK
        subst e
        simp only [Act.put, List.setIfInBounds_toArray, List.set_cons_zero, List.set_cons_succ]
        obtain ⟨gg, AA, nn, cc, rfl, hi⟩ := f0 (hm ⟨0, .data⟩ (by simp) rfl)
        obtain ⟨g, rfl, hg, b0, b1, hs, n0, n1, _⟩ := f2 (hm ⟨2, .data⟩ (by simp) rfl)
        obtain ⟨k0, k1, k2, k3, k4⟩ := id hs
        go_simp
        exact hK.out _ _ ⟨.agg #[.bool gg, .slice AA nn cc], u18, .pointer (some ⟨g, 0, none⟩), u8, (by simp only [Act.put, List.setIfInBounds_toArray, List.set_cons_zero, List.set_cons_succ]), Below.set2 HB hg _ _, (fun h => (f0 (by simpa using h)).set2 hs n0 n1 _ _), (fun h => (f1 (by simpa using h)).set2 hs n0 n1 _ _), (fun _ => by simpa using OwnP.near hi hg hs n0 n1), (fun h => by simpa using (f3 (by simpa using h)).far ((n01 (hm ⟨2, .data⟩ (by simp) rfl) (by simpa using h)).symm) hs n0 n1 _ _), (fun h h' => n01 (by simpa using h) (by simpa using h')), (fun _ => by simpa using hm ⟨2, .data⟩ (by simp) rfl), (fun h => by simpa using t1 (by simpa using h))⟩
      · intro d a2 w2 hd hm ⟨u17, u18, u7, u8, e, HB, f0, f1, f2, f3, n01, t0, t1⟩ K hK
        subst e
        simp only [Act.put, List.setIfInBounds_toArray, List.set_cons_zero, List.set_cons_succ]
        obtain ⟨gg, AA, nn, cc, rfl, hi⟩ := f1 (hm ⟨1, .data⟩ (by simp) rfl)
        obtain ⟨g, rfl, hg, b0, b1, hs, n0, n1, _⟩ := f3 (hm ⟨3, .data⟩ (by simp) rfl)
        obtain ⟨k0, k1, k2, k3, k4⟩ := id hs
        go_simp
        exact hK.out _ _ ⟨u17, .agg #[.bool gg, .slice AA nn cc], u7, .pointer (some ⟨g, 0, none⟩), (by simp only [Act.put, List.setIfInBounds_toArray, List.set_cons_zero, List.set_cons_succ]), Below.set2 HB hg _ _, (fun h => (f0 (by simpa using h)).set2 hs n0 n1 _ _), (fun h => (f1 (by simpa using h)).set2 hs n0 n1 _ _), (fun h => by simpa using (f2 (by simpa using h)).far (n01 (by simpa using h) (hm ⟨3, .data⟩ (by simp) rfl)) hs n0 n1 _ _), (fun _ => by simpa using OwnP.near hi hg hs n0 n1), (fun h h' => n01 (by simpa using h) (by simpa using h')), (fun h => by simpa using t0 (by simpa using h)), (fun _ => by simpa using hm ⟨3, .data⟩ (by simp) rfl)⟩
    · intro d a2 w2 hall ⟨u17, u18, u7, u8, e, HB, f0, f1, f2, f3, n01, t0, t1⟩
      subst e
      simp only [Act.put, List.setIfInBounds_toArray, List.set_cons_zero, List.set_cons_succ]
      have x01 := n01 (hall _ (by decide)) (hall _ (by decide))
      obtain ⟨g0, rfl, h0, b0⟩ := OwnP.intAtB (by have := f2 (hall _ (by decide)); rwa [hall 4 (by decide)] at this)
      obtain ⟨g1, rfl, h1, b1⟩ := OwnP.intAtB (by have := f3 (hall _ (by decide)); rwa [hall 5 (by decide)] at this)
      have e01 : g0 ≠ g1 := fun h => x01 (by rw [h])
      go_wp2_with fail
      go_meet
      exact ⟨g0, g1, rfl, rfl, e01, b0, b1, h0, h1, HB⟩
  case rest =>
  obtain ⟨g7, g8, rfl, rfl, h78, hg7, hg8, I7, I8, D1⟩ := hcut
  obtain ⟨V1, rfl⟩ : ∃ x : World, x = wc := ⟨_, rfl⟩
  have EP : IntAt V1 w.heap.size (a : Int) := ⟨_, _, _, _, P0.after D1, Ia0.below D1⟩
  have EO : IntAt V1 (w.heap.size + 1) (b : Int) := ⟨_, _, _, _, Q0.after D1, Ib0.below D1⟩
  have SR := R0.after D1
  have SS := S0.after D1
  have SU := U0.after D1
  have B1 := HB0.trans (D1.mono HB0.size)
  have hV : w.heap.size + 1 + 1 + 1 + 1 < V0.heap.size := U0.2.2.2.2
  clear HX P0 Q0 R0 S0 U0 Ia0 Ib0 D1 HB0
  go_wp2_with fail
  refine (of_any 1 _ (by decide) (by decide)).mono ?_
  rintro e v2 ⟨y1, Y1, m1, d1, rfl, j1, h1⟩
  go_wp2_with fail
  refine (of_any 0 _ (by decide) (by decide)).mono ?_
  rintro e v3 ⟨y2, Y2, m2, d2, rfl, j2, h2⟩
  obtain ⟨BQ, DQ⟩ := two_new (j1.below h2) j2
  have D := (h1.trans (h2.mono h1.size)).trans (DQ.mono (h1.trans (h2.mono h1.size)).size)
  have E7 := I7.after D
  have E8 := I8.after D
  have EP1 := EP.after D
  have EO1 := EO.after D
  have SR1 := SR.after D
  have SS1 := SS.after D
  have SU1 := SU.after D
  have BB1 := B1.trans (D.mono B1.size)
  have hs3 : V1.heap.size ≤ v3.heap.size := (h1.trans (h2.mono h1.size)).size
  have h79 : g7 < v3.heap.size := Nat.lt_of_lt_of_le I7.size hs3
  have h89 : g8 < v3.heap.size := Nat.lt_of_lt_of_le I8.size hs3
  have E9 := BQ (v3.heap.size, 1) (by simp)
  have E10 := BQ (v3.heap.size + 1, 0) (by simp)
  have hsz := E10.size
  clear BQ DQ D h1 h2 j1 j2 I7 I8 EP EO SR SS SU B1 hs3
  go_wp2_with fail
  generalize (v3.alloc (.cells #[.bool y1, .slice Y1 m1 d1] 27)).alloc (.cells #[.bool y2, .slice Y2 m2 d2] 27) = V3 at *
  generalize v3.heap.size = g9 at *
  go_loopg [13] b (fun g _ wr => ∃ (G R : Nat) (x y T T' : Int), IntAt wr g7 (G : Int) ∧ IntAt wr g8 (R : Int) ∧ IntAt wr g9 x ∧ IntAt wr (g9 + 1) y ∧ IntAt wr w.heap.size (a : Int) ∧ IntAt wr (w.heap.size + 1) (b : Int) ∧ Slot2 wr (w.heap.size + 1 + 1) (.bool false) (.slice none 0 0) ∧ Slot2 wr (w.heap.size + 1 + 1 + 1) (.bool false) (.slice none 0 0) ∧ Slot2 wr (w.heap.size + 1 + 1 + 1 + 1) (.bool false) (.slice none 0 0) ∧ Hid (R = g) ∧ Hid (ExtInv a b G R x y T T') ∧ Hid (0 < G ∨ 0 < R) ∧ Hid (b = 0 → R = 0 ∧ T = 0) ∧ Hid (extF G R x y = extF a b 1 0) ∧ Sz k (G : Int) ∧ Sz k (R : Int) ∧ Below w.heap.size w wr ∧ g9 + 1 < wr.heap.size)
  case atStart => exact ⟨a, b, 1, 0, 0, 1, E7, E8, E9, E10, EP1, EO1, SR1, SS1, SU1, rfl, ExtInv.start a b, HAB.out, fun h => ⟨h, rfl⟩, rfl, sa, sb, BB1, hsz⟩
  case round =>
    obtain ⟨G, R, x, y, T, T', ⟨gz, Az, nz, cz, SG, IG⟩, ⟨gr, Ar, nr, cr, SN, IN⟩, ⟨gx, Ax, nx, cx, SX, IX⟩, ⟨gy, Ay, ny, cy, SY, IY⟩, ⟨ga, Aa, na, ca, SP, IP⟩, ⟨gb, Ab, nb, cb, SO, IO⟩, SR, SS, SU, hg, HI, HG, HZ, HE, zg, zr, BB, hsz9⟩ := hrel
    have ⟨c1, c2, _, _, _⟩ := SN
    rcases Nat.eq_zero_or_pos R with hR | hR
    · subst hR
      have HS1 : Hid (sgn ((0 : Nat) : Int) = 0) := Lib.hid rfl
      go_wp2_with fail
      (with_reducible refine (sign_z gr Ar nr cr _ 0 IN HS1.out).mono ?_)
      rintro e w1 ⟨rfl, hb1⟩
      have SG1 := SG.after hb1
      have SX1 := SX.after hb1
      have SP1 := SP.after hb1
      have SO1 := SO.after hb1
      have SR1 := SR.after hb1
      have SS1 := SS.after hb1
      have SU1 := SU.after hb1
      have IG1 := IG.below hb1
      have IX1 := IX.below hb1
      have IP1 := IP.below hb1
      have IO1 := IO.below hb1
      have BB1 := BB.trans (hb1.mono BB.size)
      have ⟨d1, d2, _, _, _⟩ := SO1
      clear c1 c2
      by_cases hb0 : b = 0
      · have HS2 : Hid (sgn (b : Int) = 0) := Lib.hid (by rw [hb0]; rfl)
        have hT := (HZ.out hb0).2
        have HT := Lib.hid hT
        clear hT
        have HB00 := Lib.hid hb0
        clear hb0
        go_wp2_with fail
        (with_reducible refine (sign_z gb Ab nb cb _ 0 IO1 HS2.out).mono ?_)
        rintro e w2 ⟨rfl, hb2⟩
        have SG2 := SG1.after hb2
        have SX2 := SX1.after hb2
        have SR2 := SR1.after hb2
        have SS2 := SS1.after hb2
        have SU2 := SU1.after hb2
        have IG2 := IG1.below hb2
        have IX2 := IX1.below hb2
        have BB2 := BB1.trans (hb2.mono BB1.size)
        go_wp2_with fail
        clear SG SX SP SO SR SS SU IG IX IP IO BB SG1 SX1 SP1 SO1 SR1 SS1 SU1 IG1 IX1 IP1 IO1 BB1 SN SY IN IY hb1 hb2 d1 d2
        go_cut [] (fun wx => Below w.heap.size w wx ∧ IntAt wx (w.heap.size + 1 + 1) (G : Int) ∧ IntAt wx (w.heap.size + 1 + 1 + 1) x ∧ IntAt wx (w.heap.size + 1 + 1 + 1 + 1) 0)
        case first =>
          refine wp_region_ev (fun d a0 a' w' => ∃ u42 u43 u44 : Value, a' = (((a0.put (some 42) u42).put (some 43) u43).put (some 44) u44) ∧ Below w.heap.size w w' ∧ (d 0 = true → IntV w' u42 ((G : Int))) ∧ (d 1 = true → IntV w' u43 (x)) ∧ (d 2 = true → IntV w' u44 (0)) ∧ (BlkF w' (w.heap.size + 1 + 1) (.bool false) (.slice none 0 0) (d 3) ((G : Int))) ∧ (BlkF w' (w.heap.size + 1 + 1 + 1) (.bool false) (.slice none 0 0) (d 4) (x)) ∧ (BlkF w' (w.heap.size + 1 + 1 + 1 + 1) (.bool false) (.slice none 0 0) (d 5) (0)) ∧ (BlkI w' (g7) gz Az nz cz ((G : Int)) false (0)) ∧ (BlkI w' (g9) gx Ax nx cx (x) false (0))) (by kernel_rfl) (by kernel_rfl) ?_ ?_ ?_ ?_
          · intro d d' h a' w' hh
            obtain rfl : d = d' := funext h
            exact hh
          · exact ⟨_, _, _, (by simp only [Act.put, List.setIfInBounds_toArray, List.set_cons_zero, List.set_cons_succ]; rfl), Below.drew (BB2), (fun h => by cases h), (fun h => by cases h), (fun h => by cases h), (BlkF.start (Slot2.drew SR2)), (BlkF.start (Slot2.drew SS2)), (BlkF.start (Slot2.drew SU2)), (BlkI.start SG2 IG2), (BlkI.start SX2 IX2)⟩
          · refine ⟨?_, ?_, ?_, ?_, ?_, ?_, trivial⟩
            · intro d a2 w2 hd hm ⟨u42, u43, u44, e, HB, f0, f1, f2, kR, kS, kU, kG, kX⟩ K hK
              subst e
              simp only [Act.put, List.setIfInBounds_toArray, List.set_cons_zero, List.set_cons_succ]
              have ⟨⟨y0, y1, _, _, _⟩, iL⟩ := kG.1 rfl
              go_simp
              exact hK.out _ _ ⟨.agg #[.bool gz, .slice Az nz cz], u43, u44, (by simp only [Act.put, List.setIfInBounds_toArray, List.set_cons_zero, List.set_cons_succ]), HB, (fun _ => ⟨_, _, _, _, rfl, iL⟩), (fun h => (f1 (by simpa using h))), (fun h => (f2 (by simpa using h))), (by simpa using (kR)), (by simpa using (kS)), (by simpa using (kU)), (by simpa using (kG)), (by simpa using (kX))⟩
            · intro d a2 w2 hd hm ⟨u42, u43, u44, e, HB, f0, f1, f2, kR, kS, kU, kG, kX⟩ K hK
              subst e
              simp only [Act.put, List.setIfInBounds_toArray, List.set_cons_zero, List.set_cons_succ]
              have ⟨⟨y0, y1, _, _, _⟩, iL⟩ := kX.1 rfl
              go_simp
              exact hK.out _ _ ⟨u42, .agg #[.bool gx, .slice Ax nx cx], u44, (by simp only [Act.put, List.setIfInBounds_toArray, List.set_cons_zero, List.set_cons_succ]), HB, (fun h => (f0 (by simpa using h))), (fun _ => ⟨_, _, _, _, rfl, iL⟩), (fun h => (f2 (by simpa using h))), (by simpa using (kR)), (by simpa using (kS)), (by simpa using (kU)), (by simpa using (kG)), (by simpa using (kX))⟩
            · intro d a2 w2 hd hm ⟨u42, u43, u44, e, HB, f0, f1, f2, kR, kS, kU, kG, kX⟩ K hK
              subst e
              simp only [Act.put, List.setIfInBounds_toArray, List.set_cons_zero, List.set_cons_succ]
              go_simp
              exact hK.out _ _ ⟨u42, u43, .agg #[.bool false, .slice none 0 0], (by simp only [Act.put, List.setIfInBounds_toArray, List.set_cons_zero, List.set_cons_succ]), HB, (fun h => (f0 (by simpa using h))), (fun h => (f1 (by simpa using h))), (fun _ => ⟨_, _, _, _, rfl, isInt_zero' _⟩), (by simpa using (kR)), (by simpa using (kS)), (by simpa using (kU)), (by simpa using (kG)), (by simpa using (kX))⟩
            · intro d a2 w2 hd hm ⟨u42, u43, u44, e, HB, f0, f1, f2, kR, kS, kU, kG, kX⟩ K hK
              subst e
              simp only [Act.put, List.setIfInBounds_toArray, List.set_cons_zero, List.set_cons_succ]
              obtain ⟨gg, AA, nn, cc, rfl, hi⟩ := f0 (hm ⟨0, .data⟩ (by simp) rfl)
              have hs := kR.1 hd
              obtain ⟨k0, k1, k2, k3, k4⟩ := id hs
              go_simp
              exact hK.out _ _ ⟨.agg #[.bool gg, .slice AA nn cc], u43, u44, (by simp only [Act.put, List.setIfInBounds_toArray, List.set_cons_zero, List.set_cons_succ]), Below.set2 HB (by omega) _ _, (fun h => (f0 (by simpa using h)).set2 hs rfl rfl _ _), (fun h => (f1 (by simpa using h)).set2 hs rfl rfl _ _), (fun h => (f2 (by simpa using h)).set2 hs rfl rfl _ _), (by simpa using BlkF.near hi hs rfl rfl), (by simpa using (kS).far2 (by omega) hs rfl rfl _ _), (by simpa using (kU).far2 (by omega) hs rfl rfl _ _), (by simpa using (kG).far2 (by omega) hs rfl rfl _ _), (by simpa using (kX).far2 (by omega) hs rfl rfl _ _)⟩
            · intro d a2 w2 hd hm ⟨u42, u43, u44, e, HB, f0, f1, f2, kR, kS, kU, kG, kX⟩ K hK
              subst e
              simp only [Act.put, List.setIfInBounds_toArray, List.set_cons_zero, List.set_cons_succ]
              obtain ⟨gg, AA, nn, cc, rfl, hi⟩ := f1 (hm ⟨1, .data⟩ (by simp) rfl)
              have hs := kS.1 hd
              obtain ⟨k0, k1, k2, k3, k4⟩ := id hs
              go_simp
              exact hK.out _ _ ⟨u42, .agg #[.bool gg, .slice AA nn cc], u44, (by simp only [Act.put, List.setIfInBounds_toArray, List.set_cons_zero, List.set_cons_succ]), Below.set2 HB (by omega) _ _, (fun h => (f0 (by simpa using h)).set2 hs rfl rfl _ _), (fun h => (f1 (by simpa using h)).set2 hs rfl rfl _ _), (fun h => (f2 (by simpa using h)).set2 hs rfl rfl _ _), (by simpa using (kR).far2 (by omega) hs rfl rfl _ _), (by simpa using BlkF.near hi hs rfl rfl), (by simpa using (kU).far2 (by omega) hs rfl rfl _ _), (by simpa using (kG).far2 (by omega) hs rfl rfl _ _), (by simpa using (kX).far2 (by omega) hs rfl rfl _ _)⟩
            · intro d a2 w2 hd hm ⟨u42, u43, u44, e, HB, f0, f1, f2, kR, kS, kU, kG, kX⟩ K hK
              subst e
              simp only [Act.put, List.setIfInBounds_toArray, List.set_cons_zero, List.set_cons_succ]
              obtain ⟨gg, AA, nn, cc, rfl, hi⟩ := f2 (hm ⟨2, .data⟩ (by simp) rfl)
              have hs := kU.1 hd
              obtain ⟨k0, k1, k2, k3, k4⟩ := id hs
              go_simp
              exact hK.out _ _ ⟨u42, u43, .agg #[.bool gg, .slice AA nn cc], (by simp only [Act.put, List.setIfInBounds_toArray, List.set_cons_zero, List.set_cons_succ]), Below.set2 HB (by omega) _ _, (fun h => (f0 (by simpa using h)).set2 hs rfl rfl _ _), (fun h => (f1 (by simpa using h)).set2 hs rfl rfl _ _), (fun h => (f2 (by simpa using h)).set2 hs rfl rfl _ _), (by simpa using (kR).far2 (by omega) hs rfl rfl _ _), (by simpa using (kS).far2 (by omega) hs rfl rfl _ _), (by simpa using BlkF.near hi hs rfl rfl), (by simpa using (kG).far2 (by omega) hs rfl rfl _ _), (by simpa using (kX).far2 (by omega) hs rfl rfl _ _)⟩
          · intro d a2 w2 hall ⟨u42, u43, u44, e, HB, f0, f1, f2, kR, kS, kU, kG, kX⟩
            subst e
            simp only [Act.put, List.setIfInBounds_toArray, List.set_cons_zero, List.set_cons_succ]
            have eR := kR.2 (hall _ (by decide))
            have eS := kS.2 (hall _ (by decide))
            have eU := kU.2 (hall _ (by decide))
            have eG := kG.1 rfl
            have eX := kX.1 rfl
            go_wp2_with fail
            go_meet
            exact ⟨HB, eR, eS, eU⟩
        case rest =>
        obtain ⟨BF, ⟨k1, K1, l1, e1, F1, J1⟩, ⟨k2, K2, l2, e2, F2, J2⟩, ⟨k3, K3, l3, e3, F3, J3⟩⟩ := hcut
        have ⟨f0, f1, _, _, _⟩ := F1
        have ⟨f2, f3, _, _, _⟩ := F2
        have ⟨f4, f5, _, _, _⟩ := F3
        have inv := HI.out
        have hgc : G = Nat.gcd a b := by have := inv.gc; rwa [Nat.gcd_zero_right] at this
        have hx : x = sE a b := by rw [sE, ← HE.out, extF_zero]
        have ht0 : (0 : Int) = tE a b := by rw [tE, if_pos HB00.out]
        have hfin : ∃ s' t' : Int, ExtInv a b (Nat.gcd a b) 0 (sE a b) s' (tE a b) t' := ⟨y, T', by rw [← hgc, ← hx, ← ht0]; rw [HT.out] at inv; exact inv⟩
        have HFF := Lib.hid hfin
        have HGC := Lib.hid hgc
        clear hfin hgc inv
        rw [HGC.out] at J1
        rw [hx] at J2
        rw [ht0] at J3
        clear hx ht0
        go_wp2
        exact bodyPost_ret (v := .tuple #[.agg #[.bool k1, .slice K1 l1 e1], .agg #[.bool k2, .slice K2 l2 e2], .agg #[.bool k3, .slice K3 l3 e3]]) (by simp [results, Tryd.results74, go_sem, f0, f1, f2, f3, f4, f5]) rfl
          ⟨⟨_, _, _, _, _, _, _, _, _, _, _, _, rfl, J1, J2, J3, BF⟩, HFF.out⟩
      · have hsg : sgn (b : Int) = 1 := by unfold sgn; rw [if_neg (by omega), if_pos (by omega)]
        have HS2 := Lib.hid hsg
        go_wp2_with fail
        (with_reducible refine (sign_z gb Ab nb cb _ 1 IO1 HS2.out).mono ?_)
        rintro e w2 ⟨rfl, hb2⟩
        have SG9 := SG1.after hb2
        have SX9 := SX1.after hb2
        have SP9 := SP1.after hb2
        have SO9 := SO1.after hb2
        have SR9 := SR1.after hb2
        have SS9 := SS1.after hb2
        have SU9 := SU1.after hb2
        have IG := IG1.below hb2
        have IX := IX1.below hb2
        have IP := IP1.below hb2
        have IO := IO1.below hb2
        have BB2 := BB1.trans (hb2.mono BB1.size)
        have hbz : (b : Int) ≠ 0 := by omega
        have inv := HI.out
        have zx : Sz k x := szm sb hk1 (inv.bound HG.out).1
        have zxa : Sz (k + k) (x * (a : Int)) := Sz.mul zx sa (by omega)
        have zd : Sz (k + k + 1) ((G : Int) - x * (a : Int)) := Sz.sub (zg.mono (by omega) (by omega)) zxa (by omega)
        have ht : ((G : Int) - x * (a : Int)) / (b : Int) = T := by
          have e1 := inv.e1
          rw [show (G : Int) - x * (a : Int) = T * (b : Int) by omega]
          exact Int.mul_ediv_cancel _ hbz
        have HTT := Lib.hid ht
        clear ht inv hsg
        go_wp2_with fail
        clear SG SX SP SO SR SS SU BB SG1 SX1 SP1 SO1 SR1 SS1 SU1 IG1 IX1 IP1 IO1 BB1 SN SY IN IY hb1 hb2 d1 d2
        obtain ⟨V9, rfl⟩ : ∃ x : World, x = w2 := ⟨_, rfl⟩
        have HX9 := Lib.hid (fun W (hW : Below V9.heap.size V9 W) => And.intro (SG9.after hW) (And.intro (SX9.after hW) (And.intro (SP9.after hW) (SO9.after hW))))
        go_cut [14, 15, 16] (fun p14 p15 p16 wx => ∃ g14 g15 : Nat, p14 = .pointer (some ⟨g14, 0, none⟩) ∧ p15 = .pointer (some ⟨g15, 0, none⟩) ∧ p16 = .int .i64 0 ∧ V9.heap.size ≤ g14 ∧ IntAt wx g14 (((G : Int) - x * (a : Int)) / (b : Int)) ∧ Below V9.heap.size V9 wx)
        case first =>
          refine wp_region_ev (fun d a0 a' w' => ∃ u46 u47 u48 u49 u50 u51 u52 u45 u53 u54 u55 u14 u15 u16 : Value, a' = ((((((((((((((a0.put (some 46) u46).put (some 47) u47).put (some 48) u48).put (some 49) u49).put (some 50) u50).put (some 51) u51).put (some 52) u52).put (some 45) u45).put (some 53) u53).put (some 54) u54).put (some 55) u55).put (some 14) u14).put (some 15) u15).put (some 16) u16) ∧ Below V9.heap.size V9 w' ∧ (d 0 = true → u46 = .agg #[.bool gz, .slice Az nz cz]) ∧ (d 1 = true → u47 = .agg #[.bool gx, .slice Ax nx cx]) ∧ (d 2 = true → u48 = .agg #[.bool ga, .slice Aa na ca]) ∧ (d 3 = true → IntV w' u49 (x * (a : Int))) ∧ (d 4 = true → IntV w' u50 ((G : Int) - x * (a : Int))) ∧ (d 5 = true → u51 = .agg #[.bool gb, .slice Ab nb cb]) ∧ (d 6 = true → TupV w' u52 (((G : Int) - x * (a : Int)) / (b : Int)) (((G : Int) - x * (a : Int)) % (b : Int)) (0)) ∧ (d 7 = true → TupV w' u45 (((G : Int) - x * (a : Int)) / (b : Int)) (((G : Int) - x * (a : Int)) % (b : Int)) (0)) ∧ (d 8 = true → IntV w' u53 (((G : Int) - x * (a : Int)) / (b : Int))) ∧ (d 9 = true → IntV w' u54 (((G : Int) - x * (a : Int)) % (b : Int))) ∧ (d 10 = true → u55 = .int .i64 (0)) ∧ (d 15 = true → u16 = .int .i64 (0)) ∧ (d 11 = true → OwnP V9.heap.size w' u14 (d 13) (((G : Int) - x * (a : Int)) / (b : Int))) ∧ (d 12 = true → OwnP V9.heap.size w' u15 (d 14) (((G : Int) - x * (a : Int)) % (b : Int))) ∧ (d 11 = true → d 12 = true → u14 ≠ u15) ∧ (d 13 = true → d 11 = true) ∧ (d 14 = true → d 12 = true)) (by kernel_rfl) (by kernel_rfl) ?_ ?_ ?_ ?_
          · intro d d' h a' w' hh
            obtain rfl : d = d' := funext h
            exact hh
          · exact ⟨_, _, _, _, _, _, _, _, _, _, _, _, _, _, (by simp only [Act.put, List.setIfInBounds_toArray, List.set_cons_zero, List.set_cons_succ]; rfl), (Below.refl _ _).drew, (fun h => by cases h), (fun h => by cases h), (fun h => by cases h), (fun h => by cases h), (fun h => by cases h), (fun h => by cases h), (fun h => by cases h), (fun h => by cases h), (fun h => by cases h), (fun h => by cases h), (fun h => by cases h), (fun h => by cases h), (fun h => by cases h), (fun h => by cases h), (fun h => by cases h), (fun h => by cases h), (fun h => by cases h)⟩
          · refine ⟨?_, ?_, ?_, ?_, ?_, ?_, ?_, ?_, ?_, ?_, ?_, ?_, ?_, ?_, ?_, ?_, trivial⟩
            · intro d a2 w2 hd hm ⟨u46, u47, u48, u49, u50, u51, u52, u45, u53, u54, u55, u14, u15, u16, e, HB, f0, f1, f2, f3, f4, f5, f6, f7, f8, f9, f10, f15, f11, f12, n01, t0, t1⟩ K hK
              subst e
              simp only [Act.put, List.setIfInBounds_toArray, List.set_cons_zero, List.set_cons_succ]
              obtain ⟨⟨q0, q1, _, _, _⟩, ⟨q2, q3, _, _, _⟩, ⟨q4, q5, _, _, _⟩, ⟨q6, q7, _, _, _⟩⟩ := HX9.out w2 HB
              go_simp
              exact hK.out _ _ ⟨.agg #[.bool gz, .slice Az nz cz], u47, u48, u49, u50, u51, u52, u45, u53, u54, u55, u14, u15, u16, (by simp only [Act.put, List.setIfInBounds_toArray, List.set_cons_zero, List.set_cons_succ]), HB, (fun _ => rfl), (fun h => f1 (by simpa using h)), (fun h => f2 (by simpa using h)), (fun h => (f3 (by simpa using h))), (fun h => (f4 (by simpa using h))), (fun h => f5 (by simpa using h)), (fun h => (f6 (by simpa using h))), (fun h => (f7 (by simpa using h))), (fun h => (f8 (by simpa using h))), (fun h => (f9 (by simpa using h))), (fun h => f10 (by simpa using h)), (fun h => f15 (by simpa using h)), (fun h => by simpa using (f11 (by simpa using h))), (fun h => by simpa using (f12 (by simpa using h))), (fun h h' => n01 (by simpa using h) (by simpa using h')), (fun h => by simpa using t0 (by simpa using h)), (fun h => by simpa using t1 (by simpa using h))⟩
            · intro d a2 w2 hd hm ⟨u46, u47, u48, u49, u50, u51, u52, u45, u53, u54, u55, u14, u15, u16, e, HB, f0, f1, f2, f3, f4, f5, f6, f7, f8, f9, f10, f15, f11, f12, n01, t0, t1⟩ K hK
              subst e
              simp only [Act.put, List.setIfInBounds_toArray, List.set_cons_zero, List.set_cons_succ]
              obtain ⟨⟨q0, q1, _, _, _⟩, ⟨q2, q3, _, _, _⟩, ⟨q4, q5, _, _, _⟩, ⟨q6, q7, _, _, _⟩⟩ := HX9.out w2 HB
              go_simp
              exact hK.out _ _ ⟨u46, .agg #[.bool gx, .slice Ax nx cx], u48, u49, u50, u51, u52, u45, u53, u54, u55, u14, u15, u16, (by simp only [Act.put, List.setIfInBounds_toArray, List.set_cons_zero, List.set_cons_succ]), HB, (fun h => f0 (by simpa using h)), (fun _ => rfl), (fun h => f2 (by simpa using h)), (fun h => (f3 (by simpa using h))), (fun h => (f4 (by simpa using h))), (fun h => f5 (by simpa using h)), (fun h => (f6 (by simpa using h))), (fun h => (f7 (by simpa using h))), (fun h => (f8 (by simpa using h))), (fun h => (f9 (by simpa using h))), (fun h => f10 (by simpa using h)), (fun h => f15 (by simpa using h)), (fun h => by simpa using (f11 (by simpa using h))), (fun h => by simpa using (f12 (by simpa using h))), (fun h h' => n01 (by simpa using h) (by simpa using h')), (fun h => by simpa using t0 (by simpa using h)), (fun h => by simpa using t1 (by simpa using h))⟩
            · intro d a2 w2 hd hm ⟨u46, u47, u48, u49, u50, u51, u52, u45, u53, u54, u55, u14, u15, u16, e, HB, f0, f1, f2, f3, f4, f5, f6, f7, f8, f9, f10, f15, f11, f12, n01, t0, t1⟩ K hK
              subst e
              simp only [Act.put, List.setIfInBounds_toArray, List.set_cons_zero, List.set_cons_succ]
              obtain ⟨⟨q0, q1, _, _, _⟩, ⟨q2, q3, _, _, _⟩, ⟨q4, q5, _, _, _⟩, ⟨q6, q7, _, _, _⟩⟩ := HX9.out w2 HB
              go_simp
              exact hK.out _ _ ⟨u46, u47, .agg #[.bool ga, .slice Aa na ca], u49, u50, u51, u52, u45, u53, u54, u55, u14, u15, u16, (by simp only [Act.put, List.setIfInBounds_toArray, List.set_cons_zero, List.set_cons_succ]), HB, (fun h => f0 (by simpa using h)), (fun h => f1 (by simpa using h)), (fun _ => rfl), (fun h => (f3 (by simpa using h))), (fun h => (f4 (by simpa using h))), (fun h => f5 (by simpa using h)), (fun h => (f6 (by simpa using h))), (fun h => (f7 (by simpa using h))), (fun h => (f8 (by simpa using h))), (fun h => (f9 (by simpa using h))), (fun h => f10 (by simpa using h)), (fun h => f15 (by simpa using h)), (fun h => by simpa using (f11 (by simpa using h))), (fun h => by simpa using (f12 (by simpa using h))), (fun h h' => n01 (by simpa using h) (by simpa using h')), (fun h => by simpa using t0 (by simpa using h)), (fun h => by simpa using t1 (by simpa using h))⟩
            · intro d a2 w2 hd hm ⟨u46, u47, u48, u49, u50, u51, u52, u45, u53, u54, u55, u14, u15, u16, e, HB, f0, f1, f2, f3, f4, f5, f6, f7, f8, f9, f10, f15, f11, f12, n01, t0, t1⟩ K hK
              subst e
              simp only [Act.put, List.setIfInBounds_toArray, List.set_cons_zero, List.set_cons_succ]
              obtain rfl := f1 (hm ⟨1, .data⟩ (by simp) rfl)
              clear f1
              obtain rfl := f2 (hm ⟨2, .data⟩ (by simp) rfl)
              clear f2
              go_simp
              (with_reducible refine (mul_z' gx ga Ax Aa nx cx na ca _ (IX.below HB) (IP.below HB) zx sa).mono ?_)
              rintro e w3 ⟨gg, AA, nn, cc, rfl, hi, hb⟩
              have HB3 := HB.trans (hb.mono HB.size)
              go_wp2_with fail
              exact hK.out _ _ ⟨u46, .agg #[.bool gx, .slice Ax nx cx], .agg #[.bool ga, .slice Aa na ca], .agg #[.bool gg, .slice AA nn cc], u50, u51, u52, u45, u53, u54, u55, u14, u15, u16, (by simp only [Act.put, List.setIfInBounds_toArray, List.set_cons_zero, List.set_cons_succ]), HB3, (fun h => f0 (by simpa using h)), (fun _ => rfl), (fun _ => rfl), (fun _ => ⟨_, _, _, _, rfl, hi⟩), (fun h => (f4 (by simpa using h)).below hb), (fun h => f5 (by simpa using h)), (fun h => (f6 (by simpa using h)).below hb), (fun h => (f7 (by simpa using h)).below hb), (fun h => (f8 (by simpa using h)).below hb), (fun h => (f9 (by simpa using h)).below hb), (fun h => f10 (by simpa using h)), (fun h => f15 (by simpa using h)), (fun h => by simpa using (f11 (by simpa using h)).below hb), (fun h => by simpa using (f12 (by simpa using h)).below hb), (fun h h' => n01 (by simpa using h) (by simpa using h')), (fun h => by simpa using t0 (by simpa using h)), (fun h => by simpa using t1 (by simpa using h))⟩
            · intro d a2 w2 hd hm ⟨u46, u47, u48, u49, u50, u51, u52, u45, u53, u54, u55, u14, u15, u16, e, HB, f0, f1, f2, f3, f4, f5, f6, f7, f8, f9, f10, f15, f11, f12, n01, t0, t1⟩ K hK
              subst e
              simp only [Act.put, List.setIfInBounds_toArray, List.set_cons_zero, List.set_cons_succ]
              obtain rfl := f0 (hm ⟨0, .data⟩ (by simp) rfl)
              clear f0
              obtain ⟨G3, A3, N3, C3, rfl, I3⟩ := f3 (hm ⟨3, .data⟩ (by simp) rfl)
              go_simp
              (with_reducible refine (sub_z gz G3 Az A3 nz cz N3 C3 _ (IG.below HB) I3 zg zxa).mono ?_)
              rintro e w3 ⟨gg, AA, nn, cc, rfl, hi, hb⟩
              have HB3 := HB.trans (hb.mono HB.size)
              go_wp2_with fail
              exact hK.out _ _ ⟨.agg #[.bool gz, .slice Az nz cz], u47, u48, .agg #[.bool G3, .slice A3 N3 C3], .agg #[.bool gg, .slice AA nn cc], u51, u52, u45, u53, u54, u55, u14, u15, u16, (by simp only [Act.put, List.setIfInBounds_toArray, List.set_cons_zero, List.set_cons_succ]), HB3, (fun _ => rfl), (fun h => f1 (by simpa using h)), (fun h => f2 (by simpa using h)), (fun h => (f3 (by simpa using h)).below hb), (fun _ => ⟨_, _, _, _, rfl, hi⟩), (fun h => f5 (by simpa using h)), (fun h => (f6 (by simpa using h)).below hb), (fun h => (f7 (by simpa using h)).below hb), (fun h => (f8 (by simpa using h)).below hb), (fun h => (f9 (by simpa using h)).below hb), (fun h => f10 (by simpa using h)), (fun h => f15 (by simpa using h)), (fun h => by simpa using (f11 (by simpa using h)).below hb), (fun h => by simpa using (f12 (by simpa using h)).below hb), (fun h h' => n01 (by simpa using h) (by simpa using h')), (fun h => by simpa using t0 (by simpa using h)), (fun h => by simpa using t1 (by simpa using h))⟩
            · intro d a2 w2 hd hm ⟨u46, u47, u48, u49, u50, u51, u52, u45, u53, u54, u55, u14, u15, u16, e, HB, f0, f1, f2, f3, f4, f5, f6, f7, f8, f9, f10, f15, f11, f12, n01, t0, t1⟩ K hK
              subst e
              simp only [Act.put, List.setIfInBounds_toArray, List.set_cons_zero, List.set_cons_succ]
              obtain ⟨⟨q0, q1, _, _, _⟩, ⟨q2, q3, _, _, _⟩, ⟨q4, q5, _, _, _⟩, ⟨q6, q7, _, _, _⟩⟩ := HX9.out w2 HB
              go_simp
              exact hK.out _ _ ⟨u46, u47, u48, u49, u50, .agg #[.bool gb, .slice Ab nb cb], u52, u45, u53, u54, u55, u14, u15, u16, (by simp only [Act.put, List.setIfInBounds_toArray, List.set_cons_zero, List.set_cons_succ]), HB, (fun h => f0 (by simpa using h)), (fun h => f1 (by simpa using h)), (fun h => f2 (by simpa using h)), (fun h => (f3 (by simpa using h))), (fun h => (f4 (by simpa using h))), (fun _ => rfl), (fun h => (f6 (by simpa using h))), (fun h => (f7 (by simpa using h))), (fun h => (f8 (by simpa using h))), (fun h => (f9 (by simpa using h))), (fun h => f10 (by simpa using h)), (fun h => f15 (by simpa using h)), (fun h => by simpa using (f11 (by simpa using h))), (fun h => by simpa using (f12 (by simpa using h))), (fun h h' => n01 (by simpa using h) (by simpa using h')), (fun h => by simpa using t0 (by simpa using h)), (fun h => by simpa using t1 (by simpa using h))⟩
            · intro d a2 w2 hd hm ⟨u46, u47, u48, u49, u50, u51, u52, u45, u53, u54, u55, u14, u15, u16, e, HB, f0, f1, f2, f3, f4, f5, f6, f7, f8, f9, f10, f15, f11, f12, n01, t0, t1⟩ K hK
              subst e
              simp only [Act.put, List.setIfInBounds_toArray, List.set_cons_zero, List.set_cons_succ]
              obtain ⟨G4, A4, N4, C4, rfl, I4⟩ := f4 (hm ⟨4, .data⟩ (by simp) rfl)
              obtain rfl := f5 (hm ⟨5, .data⟩ (by simp) rfl)
              clear f5
              go_simp
              (with_reducible refine (dm_z G4 gb A4 Ab N4 C4 nb cb _ I4 (IO.below HB) zd sb hbz).mono ?_)
              rintro e w3 ⟨g1, A1', n1', c1', g2, A2', n2', c2', rfl, hi1, hi2, hb⟩
              have HB3 := HB.trans (hb.mono HB.size)
              go_wp2_with fail
              exact hK.out _ _ ⟨u46, u47, u48, u49, .agg #[.bool G4, .slice A4 N4 C4], .agg #[.bool gb, .slice Ab nb cb], .tuple #[.agg #[.bool g1, .slice A1' n1' c1'], .agg #[.bool g2, .slice A2' n2' c2'], .int .i64 (0)], u45, u53, u54, u55, u14, u15, u16, (by simp only [Act.put, List.setIfInBounds_toArray, List.set_cons_zero, List.set_cons_succ]), HB3, (fun h => f0 (by simpa using h)), (fun h => f1 (by simpa using h)), (fun h => f2 (by simpa using h)), (fun h => (f3 (by simpa using h)).below hb), (fun h => (f4 (by simpa using h)).below hb), (fun _ => rfl), (fun _ => ⟨_, _, rfl, ⟨_, _, _, _, rfl, hi1⟩, ⟨_, _, _, _, rfl, hi2⟩⟩), (fun h => (f7 (by simpa using h)).below hb), (fun h => (f8 (by simpa using h)).below hb), (fun h => (f9 (by simpa using h)).below hb), (fun h => f10 (by simpa using h)), (fun h => f15 (by simpa using h)), (fun h => by simpa using (f11 (by simpa using h)).below hb), (fun h => by simpa using (f12 (by simpa using h)).below hb), (fun h h' => n01 (by simpa using h) (by simpa using h')), (fun h => by simpa using t0 (by simpa using h)), (fun h => by simpa using t1 (by simpa using h))⟩
            · intro d a2 w2 hd hm ⟨u46, u47, u48, u49, u50, u51, u52, u45, u53, u54, u55, u14, u15, u16, e, HB, f0, f1, f2, f3, f4, f5, f6, f7, f8, f9, f10, f15, f11, f12, n01, t0, t1⟩ K hK
              subst e
              simp only [Act.put, List.setIfInBounds_toArray, List.set_cons_zero, List.set_cons_succ]
              obtain ⟨V6, U6, rfl, I6, J6⟩ := f6 (hm ⟨6, .data⟩ (by simp) rfl)
              go_simp
              exact hK.out _ _ ⟨u46, u47, u48, u49, u50, u51, .tuple #[V6, U6, .int .i64 (0)], .tuple #[V6, U6, .int .i64 (0)], u53, u54, u55, u14, u15, u16, (by simp only [Act.put, List.setIfInBounds_toArray, List.set_cons_zero, List.set_cons_succ]), HB, (fun h => f0 (by simpa using h)), (fun h => f1 (by simpa using h)), (fun h => f2 (by simpa using h)), (fun h => (f3 (by simpa using h))), (fun h => (f4 (by simpa using h))), (fun h => f5 (by simpa using h)), (fun h => (f6 (by simpa using h))), (fun _ => ⟨V6, U6, rfl, I6, J6⟩), (fun h => (f8 (by simpa using h))), (fun h => (f9 (by simpa using h))), (fun h => f10 (by simpa using h)), (fun h => f15 (by simpa using h)), (fun h => by simpa using (f11 (by simpa using h))), (fun h => by simpa using (f12 (by simpa using h))), (fun h h' => n01 (by simpa using h) (by simpa using h')), (fun h => by simpa using t0 (by simpa using h)), (fun h => by simpa using t1 (by simpa using h))⟩
            · intro d a2 w2 hd hm ⟨u46, u47, u48, u49, u50, u51, u52, u45, u53, u54, u55, u14, u15, u16, e, HB, f0, f1, f2, f3, f4, f5, f6, f7, f8, f9, f10, f15, f11, f12, n01, t0, t1⟩ K hK
              subst e
              simp only [Act.put, List.setIfInBounds_toArray, List.set_cons_zero, List.set_cons_succ]
              obtain ⟨V7, U7, rfl, I7, J7⟩ := f7 (hm ⟨7, .data⟩ (by simp) rfl)
              go_simp
              exact hK.out _ _ ⟨u46, u47, u48, u49, u50, u51, u52, .tuple #[V7, U7, .int .i64 (0)], V7, u54, u55, u14, u15, u16, (by simp only [Act.put, List.setIfInBounds_toArray, List.set_cons_zero, List.set_cons_succ]), HB, (fun h => f0 (by simpa using h)), (fun h => f1 (by simpa using h)), (fun h => f2 (by simpa using h)), (fun h => (f3 (by simpa using h))), (fun h => (f4 (by simpa using h))), (fun h => f5 (by simpa using h)), (fun h => (f6 (by simpa using h))), (fun h => (f7 (by simpa using h))), (fun _ => I7), (fun h => (f9 (by simpa using h))), (fun h => f10 (by simpa using h)), (fun h => f15 (by simpa using h)), (fun h => by simpa using (f11 (by simpa using h))), (fun h => by simpa using (f12 (by simpa using h))), (fun h h' => n01 (by simpa using h) (by simpa using h')), (fun h => by simpa using t0 (by simpa using h)), (fun h => by simpa using t1 (by simpa using h))⟩
            · intro d a2 w2 hd hm ⟨u46, u47, u48, u49, u50, u51, u52, u45, u53, u54, u55, u14, u15, u16, e, HB, f0, f1, f2, f3, f4, f5, f6, f7, f8, f9, f10, f15, f11, f12, n01, t0, t1⟩ K hK
              subst e
              simp only [Act.put, List.setIfInBounds_toArray, List.set_cons_zero, List.set_cons_succ]
              obtain ⟨V7, U7, rfl, I7, J7⟩ := f7 (hm ⟨7, .data⟩ (by simp) rfl)
              go_simp
              exact hK.out _ _ ⟨u46, u47, u48, u49, u50, u51, u52, .tuple #[V7, U7, .int .i64 (0)], u53, U7, u55, u14, u15, u16, (by simp only [Act.put, List.setIfInBounds_toArray, List.set_cons_zero, List.set_cons_succ]), HB, (fun h => f0 (by simpa using h)), (fun h => f1 (by simpa using h)), (fun h => f2 (by simpa using h)), (fun h => (f3 (by simpa using h))), (fun h => (f4 (by simpa using h))), (fun h => f5 (by simpa using h)), (fun h => (f6 (by simpa using h))), (fun h => (f7 (by simpa using h))), (fun h => (f8 (by simpa using h))), (fun _ => J7), (fun h => f10 (by simpa using h)), (fun h => f15 (by simpa using h)), (fun h => by simpa using (f11 (by simpa using h))), (fun h => by simpa using (f12 (by simpa using h))), (fun h h' => n01 (by simpa using h) (by simpa using h')), (fun h => by simpa using t0 (by simpa using h)), (fun h => by simpa using t1 (by simpa using h))⟩
            · intro d a2 w2 hd hm ⟨u46, u47, u48, u49, u50, u51, u52, u45, u53, u54, u55, u14, u15, u16, e, HB, f0, f1, f2, f3, f4, f5, f6, f7, f8, f9, f10, f15, f11, f12, n01, t0, t1⟩ K hK
              subst e
              simp only [Act.put, List.setIfInBounds_toArray, List.set_cons_zero, List.set_cons_succ]
              obtain ⟨V7, U7, rfl, I7, J7⟩ := f7 (hm ⟨7, .data⟩ (by simp) rfl)
              go_simp
              exact hK.out _ _ ⟨u46, u47, u48, u49, u50, u51, u52, .tuple #[V7, U7, .int .i64 (0)], u53, u54, .int .i64 (0), u14, u15, u16, (by simp only [Act.put, List.setIfInBounds_toArray, List.set_cons_zero, List.set_cons_succ]), HB, (fun h => f0 (by simpa using h)), (fun h => f1 (by simpa using h)), (fun h => f2 (by simpa using h)), (fun h => (f3 (by simpa using h))), (fun h => (f4 (by simpa using h))), (fun h => f5 (by simpa using h)), (fun h => (f6 (by simpa using h))), (fun h => (f7 (by simpa using h))), (fun h => (f8 (by simpa using h))), (fun h => (f9 (by simpa using h))), (fun _ => rfl), (fun h => f15 (by simpa using h)), (fun h => by simpa using (f11 (by simpa using h))), (fun h => by simpa using (f12 (by simpa using h))), (fun h h' => n01 (by simpa using h) (by simpa using h')), (fun h => by simpa using t0 (by simpa using h)), (fun h => by simpa using t1 (by simpa using h))⟩
            · intro d a2 w2 hd hm ⟨u46, u47, u48, u49, u50, u51, u52, u45, u53, u54, u55, u14, u15, u16, e, HB, f0, f1, f2, f3, f4, f5, f6, f7, f8, f9, f10, f15, f11, f12, n01, t0, t1⟩ K hK
              subst e
              simp only [Act.put, List.setIfInBounds_toArray, List.set_cons_zero, List.set_cons_succ]
              have hb : Below w2.heap.size w2 (w2.alloc (.cells #[.bool false, .slice none 0 0] 27)) := (Below.refl _ _).alloc (Nat.le_refl _) _
              have HB3 := HB.trans (hb.mono HB.size)
              go_simp
              exact hK.out _ _ ⟨u46, u47, u48, u49, u50, u51, u52, u45, u53, u54, u55, .pointer (some ⟨w2.heap.size, 0, none⟩), u15, u16, (by simp only [Act.put, List.setIfInBounds_toArray, List.set_cons_zero, List.set_cons_succ]), HB3, (fun h => f0 (by simpa using h)), (fun h => f1 (by simpa using h)), (fun h => f2 (by simpa using h)), (fun h => (f3 (by simpa using h)).below hb), (fun h => (f4 (by simpa using h)).below hb), (fun h => f5 (by simpa using h)), (fun h => (f6 (by simpa using h)).below hb), (fun h => (f7 (by simpa using h)).below hb), (fun h => (f8 (by simpa using h)).below hb), (fun h => (f9 (by simpa using h)).below hb), (fun h => f10 (by simpa using h)), (fun h => f15 (by simpa using h)), (fun _ => by have hs : d 13 = false := (by cases hq : d 13 with | false => rfl | true => (have hz := t0 hq; rw [hd] at hz; cases hz)); simpa [hs] using OwnP.new HB.size (((G : Int) - x * (a : Int)) / (b : Int))), (fun h => by simpa using (f12 (by simpa using h)).below hb), (fun _ h' => ((f12 (by simpa using h')).lt).symm), (fun _ => by simp), (fun h => by simpa using t1 (by simpa using h))⟩
            · intro d a2 w2 hd hm ⟨u46, u47, u48, u49, u50, u51, u52, u45, u53, u54, u55, u14, u15, u16, e, HB, f0, f1, f2, f3, f4, f5, f6, f7, f8, f9, f10, f15, f11, f12, n01, t0, t1⟩ K hK
              subst e
              simp only [Act.put, List.setIfInBounds_toArray, List.set_cons_zero, List.set_cons_succ]
              have hb : Below w2.heap.size w2 (w2.alloc (.cells #[.bool false, .slice none 0 0] 27)) := (Below.refl _ _).alloc (Nat.le_refl _) _
              have HB3 := HB.trans (hb.mono HB.size)
              go_simp
              exact hK.out _ _ ⟨u46, u47, u48, u49, u50, u51, u52, u45, u53, u54, u55, u14, .pointer (some ⟨w2.heap.size, 0, none⟩), u16, (by simp only [Act.put, List.setIfInBounds_toArray, List.set_cons_zero, List.set_cons_succ]), HB3, (fun h => f0 (by simpa using h)), (fun h => f1 (by simpa using h)), (fun h => f2 (by simpa using h)), (fun h => (f3 (by simpa using h)).below hb), (fun h => (f4 (by simpa using h)).below hb), (fun h => f5 (by simpa using h)), (fun h => (f6 (by simpa using h)).below hb), (fun h => (f7 (by simpa using h)).below hb), (fun h => (f8 (by simpa using h)).below hb), (fun h => (f9 (by simpa using h)).below hb), (fun h => f10 (by simpa using h)), (fun h => f15 (by simpa using h)), (fun h => by simpa using (f11 (by simpa using h)).below hb), (fun _ => by have hs : d 14 = false := (by cases hq : d 14 with | false => rfl | true => (have hz := t1 hq; rw [hd] at hz; cases hz)); simpa [hs] using OwnP.new HB.size (((G : Int) - x * (a : Int)) % (b : Int))), (fun h _ => (f11 (by simpa using h)).lt), (fun h => by simpa using t0 (by simpa using h)), (fun _ => by simp)⟩
            · intro d a2 w2 hd hm ⟨u46, u47, u48, u49, u50, u51, u52, u45, u53, u54, u55, u14, u15, u16, e, HB, f0, f1, f2, f3, f4, f5, f6, f7, f8, f9, f10, f15, f11, f12, n01, t0, t1⟩ K hK
              subst e
              simp only [Act.put, List.setIfInBounds_toArray, List.set_cons_zero, List.set_cons_succ]
              obtain ⟨gg, AA, nn, cc, rfl, hi⟩ := f8 (hm ⟨8, .data⟩ (by simp) rfl)
              obtain ⟨g, rfl, hg, b0, b1, hs, n0, n1, _⟩ := f11 (hm ⟨11, .data⟩ (by simp) rfl)
              obtain ⟨k0, k1, k2, k3, k4⟩ := id hs
              go_simp
              exact hK.out _ _ ⟨u46, u47, u48, u49, u50, u51, u52, u45, .agg #[.bool gg, .slice AA nn cc], u54, u55, .pointer (some ⟨g, 0, none⟩), u15, u16, (by simp only [Act.put, List.setIfInBounds_toArray, List.set_cons_zero, List.set_cons_succ]), Below.set2 HB hg _ _, (fun h => f0 (by simpa using h)), (fun h => f1 (by simpa using h)), (fun h => f2 (by simpa using h)), (fun h => (f3 (by simpa using h)).set2 hs n0 n1 _ _), (fun h => (f4 (by simpa using h)).set2 hs n0 n1 _ _), (fun h => f5 (by simpa using h)), (fun h => (f6 (by simpa using h)).set2 hs n0 n1 _ _), (fun h => (f7 (by simpa using h)).set2 hs n0 n1 _ _), (fun h => (f8 (by simpa using h)).set2 hs n0 n1 _ _), (fun h => (f9 (by simpa using h)).set2 hs n0 n1 _ _), (fun h => f10 (by simpa using h)), (fun h => f15 (by simpa using h)), (fun _ => by simpa using OwnP.near hi hg hs n0 n1), (fun h => by simpa using (f12 (by simpa using h)).far ((n01 (hm ⟨11, .data⟩ (by simp) rfl) (by simpa using h)).symm) hs n0 n1 _ _), (fun h h' => n01 (by simpa using h) (by simpa using h')), (fun _ => by simpa using hm ⟨11, .data⟩ (by simp) rfl), (fun h => by simpa using t1 (by simpa using h))⟩
            · intro d a2 w2 hd hm ⟨u46, u47, u48, u49, u50, u51, u52, u45, u53, u54, u55, u14, u15, u16, e, HB, f0, f1, f2, f3, f4, f5, f6, f7, f8, f9, f10, f15, f11, f12, n01, t0, t1⟩ K hK
              subst e
              simp only [Act.put, List.setIfInBounds_toArray, List.set_cons_zero, List.set_cons_succ]
              obtain ⟨gg, AA, nn, cc, rfl, hi⟩ := f9 (hm ⟨9, .data⟩ (by simp) rfl)
              obtain ⟨g, rfl, hg, b0, b1, hs, n0, n1, _⟩ := f12 (hm ⟨12, .data⟩ (by simp) rfl)
              obtain ⟨k0, k1, k2, k3, k4⟩ := id hs
              go_simp
              exact hK.out _ _ ⟨u46, u47, u48, u49, u50, u51, u52, u45, u53, .agg #[.bool gg, .slice AA nn cc], u55, u14, .pointer (some ⟨g, 0, none⟩), u16, (by simp only [Act.put, List.setIfInBounds_toArray, List.set_cons_zero, List.set_cons_succ]), Below.set2 HB hg _ _, (fun h => f0 (by simpa using h)), (fun h => f1 (by simpa using h)), (fun h => f2 (by simpa using h)), (fun h => (f3 (by simpa using h)).set2 hs n0 n1 _ _), (fun h => (f4 (by simpa using h)).set2 hs n0 n1 _ _), (fun h => f5 (by simpa using h)), (fun h => (f6 (by simpa using h)).set2 hs n0 n1 _ _), (fun h => (f7 (by simpa using h)).set2 hs n0 n1 _ _), (fun h => (f8 (by simpa using h)).set2 hs n0 n1 _ _), (fun h => (f9 (by simpa using h)).set2 hs n0 n1 _ _), (fun h => f10 (by simpa using h)), (fun h => f15 (by simpa using h)), (fun h => by simpa using (f11 (by simpa using h)).far (n01 (by simpa using h) (hm ⟨12, .data⟩ (by simp) rfl)) hs n0 n1 _ _), (fun _ => by simpa using OwnP.near hi hg hs n0 n1), (fun h h' => n01 (by simpa using h) (by simpa using h')), (fun h => by simpa using t0 (by simpa using h)), (fun _ => by simpa using hm ⟨12, .data⟩ (by simp) rfl)⟩
            · intro d a2 w2 hd hm ⟨u46, u47, u48, u49, u50, u51, u52, u45, u53, u54, u55, u14, u15, u16, e, HB, f0, f1, f2, f3, f4, f5, f6, f7, f8, f9, f10, f15, f11, f12, n01, t0, t1⟩ K hK
              subst e
              simp only [Act.put, List.setIfInBounds_toArray, List.set_cons_zero, List.set_cons_succ]
              obtain rfl := f10 (hm ⟨10, .data⟩ (by simp) rfl)
              clear f10
              go_simp
              exact hK.out _ _ ⟨u46, u47, u48, u49, u50, u51, u52, u45, u53, u54, .int .i64 (0), u14, u15, .int .i64 (0), (by simp only [Act.put, List.setIfInBounds_toArray, List.set_cons_zero, List.set_cons_succ]), HB, (fun h => f0 (by simpa using h)), (fun h => f1 (by simpa using h)), (fun h => f2 (by simpa using h)), (fun h => (f3 (by simpa using h))), (fun h => (f4 (by simpa using h))), (fun h => f5 (by simpa using h)), (fun h => (f6 (by simpa using h))), (fun h => (f7 (by simpa using h))), (fun h => (f8 (by simpa using h))), (fun h => (f9 (by simpa using h))), (fun _ => rfl), (fun _ => rfl), (fun h => by simpa using (f11 (by simpa using h))), (fun h => by simpa using (f12 (by simpa using h))), (fun h h' => n01 (by simpa using h) (by simpa using h')), (fun h => by simpa using t0 (by simpa using h)), (fun h => by simpa using t1 (by simpa using h))⟩
          · intro d a2 w2 hall ⟨u46, u47, u48, u49, u50, u51, u52, u45, u53, u54, u55, u14, u15, u16, e, HB, f0, f1, f2, f3, f4, f5, f6, f7, f8, f9, f10, f15, f11, f12, n01, t0, t1⟩
            subst e
            simp only [Act.put, List.setIfInBounds_toArray, List.set_cons_zero, List.set_cons_succ]
            obtain rfl := f0 (hall _ (by decide))
            obtain rfl := f1 (hall _ (by decide))
            obtain rfl := f2 (hall _ (by decide))
            obtain rfl := f5 (hall _ (by decide))
            obtain rfl := f10 (hall _ (by decide))
            obtain rfl := f15 (hall _ (by decide))
            obtain ⟨g0, rfl, h0, b0⟩ := OwnP.intAtB (by have := f11 (hall _ (by decide)); rwa [hall 13 (by decide)] at this)
            obtain ⟨g1, rfl, h1, b1⟩ := OwnP.intAtB (by have := f12 (hall _ (by decide)); rwa [hall 14 (by decide)] at this)
            go_wp2_with fail
            go_meet
            exact ⟨g0, g1, rfl, rfl, rfl, b0, h0, HB⟩
        case rest =>
        obtain ⟨g14, g15, rfl, rfl, rfl, hg14, ⟨gt, At, nt, ct, ST0, IT0⟩, D9⟩ := hcut
        rw [HTT.out] at IT0
        have SG0 := SG9.after D9
        have SX0 := SX9.after D9
        have SR0 := SR9.after D9
        have SS0 := SS9.after D9
        have SU0 := SU9.after D9
        have IG0 := IG.below D9
        have IX0 := IX.below D9
        have BB10 := BB2.trans (D9.mono BB2.size)
        have hsu := SU9.2.2.2.2
        have hsg7 := SG9.2.2.2.2
        have hsx9 := SX9.2.2.2.2
        obtain ⟨t, rfl⟩ : ∃ t : Int, t = T := ⟨_, rfl⟩
        clear SG9 SX9 SP9 SO9 SR9 SS9 SU9 IG IX IP IO BB2 D9 HX9
        go_wp2_with fail
        go_cut [] (fun wx => Below w.heap.size w wx ∧ IntAt wx (w.heap.size + 1 + 1) (G : Int) ∧ IntAt wx (w.heap.size + 1 + 1 + 1) x ∧ IntAt wx (w.heap.size + 1 + 1 + 1 + 1) t)
        case first =>
          refine wp_region_ev (fun d a0 a' w' => ∃ u56 u57 u58 : Value, a' = (((a0.put (some 56) u56).put (some 57) u57).put (some 58) u58) ∧ Below w.heap.size w w' ∧ (d 0 = true → IntV w' u56 ((G : Int))) ∧ (d 1 = true → IntV w' u57 (x)) ∧ (d 2 = true → IntV w' u58 (t)) ∧ (BlkF w' (w.heap.size + 1 + 1) (.bool false) (.slice none 0 0) (d 3) ((G : Int))) ∧ (BlkF w' (w.heap.size + 1 + 1 + 1) (.bool false) (.slice none 0 0) (d 4) (x)) ∧ (BlkF w' (w.heap.size + 1 + 1 + 1 + 1) (.bool false) (.slice none 0 0) (d 5) (t)) ∧ (BlkI w' (g7) gz Az nz cz ((G : Int)) false (0)) ∧ (BlkI w' (g9) gx Ax nx cx (x) false (0)) ∧ (BlkI w' (g14) gt At nt ct (t) false (0))) (by kernel_rfl) (by kernel_rfl) ?_ ?_ ?_ ?_
          · intro d d' h a' w' hh
            obtain rfl : d = d' := funext h
            exact hh
          · exact ⟨_, _, _, (by simp only [Act.put, List.setIfInBounds_toArray, List.set_cons_zero, List.set_cons_succ]; rfl), Below.drew (BB10), (fun h => by cases h), (fun h => by cases h), (fun h => by cases h), (BlkF.start (Slot2.drew SR0)), (BlkF.start (Slot2.drew SS0)), (BlkF.start (Slot2.drew SU0)), (BlkI.start SG0 IG0), (BlkI.start SX0 IX0), (BlkI.start ST0 IT0)⟩
          · refine ⟨?_, ?_, ?_, ?_, ?_, ?_, trivial⟩
            · intro d a2 w2 hd hm ⟨u56, u57, u58, e, HB, f0, f1, f2, kR, kS, kU, kG, kX, kT⟩ K hK
              subst e
              simp only [Act.put, List.setIfInBounds_toArray, List.set_cons_zero, List.set_cons_succ]
              have ⟨⟨y0, y1, _, _, _⟩, iL⟩ := kG.1 rfl
              go_simp
              exact hK.out _ _ ⟨.agg #[.bool gz, .slice Az nz cz], u57, u58, (by simp only [Act.put, List.setIfInBounds_toArray, List.set_cons_zero, List.set_cons_succ]), HB, (fun _ => ⟨_, _, _, _, rfl, iL⟩), (fun h => (f1 (by simpa using h))), (fun h => (f2 (by simpa using h))), (by simpa using (kR)), (by simpa using (kS)), (by simpa using (kU)), (by simpa using (kG)), (by simpa using (kX)), (by simpa using (kT))⟩
            · intro d a2 w2 hd hm ⟨u56, u57, u58, e, HB, f0, f1, f2, kR, kS, kU, kG, kX, kT⟩ K hK
              subst e
              simp only [Act.put, List.setIfInBounds_toArray, List.set_cons_zero, List.set_cons_succ]
              have ⟨⟨y0, y1, _, _, _⟩, iL⟩ := kX.1 rfl
              go_simp
              exact hK.out _ _ ⟨u56, .agg #[.bool gx, .slice Ax nx cx], u58, (by simp only [Act.put, List.setIfInBounds_toArray, List.set_cons_zero, List.set_cons_succ]), HB, (fun h => (f0 (by simpa using h))), (fun _ => ⟨_, _, _, _, rfl, iL⟩), (fun h => (f2 (by simpa using h))), (by simpa using (kR)), (by simpa using (kS)), (by simpa using (kU)), (by simpa using (kG)), (by simpa using (kX)), (by simpa using (kT))⟩
            · intro d a2 w2 hd hm ⟨u56, u57, u58, e, HB, f0, f1, f2, kR, kS, kU, kG, kX, kT⟩ K hK
              subst e
              simp only [Act.put, List.setIfInBounds_toArray, List.set_cons_zero, List.set_cons_succ]
              have ⟨⟨y0, y1, _, _, _⟩, iL⟩ := kT.1 rfl
              go_simp
              exact hK.out _ _ ⟨u56, u57, .agg #[.bool gt, .slice At nt ct], (by simp only [Act.put, List.setIfInBounds_toArray, List.set_cons_zero, List.set_cons_succ]), HB, (fun h => (f0 (by simpa using h))), (fun h => (f1 (by simpa using h))), (fun _ => ⟨_, _, _, _, rfl, iL⟩), (by simpa using (kR)), (by simpa using (kS)), (by simpa using (kU)), (by simpa using (kG)), (by simpa using (kX)), (by simpa using (kT))⟩
            · intro d a2 w2 hd hm ⟨u56, u57, u58, e, HB, f0, f1, f2, kR, kS, kU, kG, kX, kT⟩ K hK
              subst e
              simp only [Act.put, List.setIfInBounds_toArray, List.set_cons_zero, List.set_cons_succ]
              obtain ⟨gg, AA, nn, cc, rfl, hi⟩ := f0 (hm ⟨0, .data⟩ (by simp) rfl)
              have hs := kR.1 hd
              obtain ⟨k0, k1, k2, k3, k4⟩ := id hs
              go_simp
              exact hK.out _ _ ⟨.agg #[.bool gg, .slice AA nn cc], u57, u58, (by simp only [Act.put, List.setIfInBounds_toArray, List.set_cons_zero, List.set_cons_succ]), Below.set2 HB (by omega) _ _, (fun h => (f0 (by simpa using h)).set2 hs rfl rfl _ _), (fun h => (f1 (by simpa using h)).set2 hs rfl rfl _ _), (fun h => (f2 (by simpa using h)).set2 hs rfl rfl _ _), (by simpa using BlkF.near hi hs rfl rfl), (by simpa using (kS).far2 (by omega) hs rfl rfl _ _), (by simpa using (kU).far2 (by omega) hs rfl rfl _ _), (by simpa using (kG).far2 (by omega) hs rfl rfl _ _), (by simpa using (kX).far2 (by omega) hs rfl rfl _ _), (by simpa using (kT).far2 (by omega) hs rfl rfl _ _)⟩
            · intro d a2 w2 hd hm ⟨u56, u57, u58, e, HB, f0, f1, f2, kR, kS, kU, kG, kX, kT⟩ K hK
              subst e
              simp only [Act.put, List.setIfInBounds_toArray, List.set_cons_zero, List.set_cons_succ]
              obtain ⟨gg, AA, nn, cc, rfl, hi⟩ := f1 (hm ⟨1, .data⟩ (by simp) rfl)
              have hs := kS.1 hd
              obtain ⟨k0, k1, k2, k3, k4⟩ := id hs
              go_simp
              exact hK.out _ _ ⟨u56, .agg #[.bool gg, .slice AA nn cc], u58, (by simp only [Act.put, List.setIfInBounds_toArray, List.set_cons_zero, List.set_cons_succ]), Below.set2 HB (by omega) _ _, (fun h => (f0 (by simpa using h)).set2 hs rfl rfl _ _), (fun h => (f1 (by simpa using h)).set2 hs rfl rfl _ _), (fun h => (f2 (by simpa using h)).set2 hs rfl rfl _ _), (by simpa using (kR).far2 (by omega) hs rfl rfl _ _), (by simpa using BlkF.near hi hs rfl rfl), (by simpa using (kU).far2 (by omega) hs rfl rfl _ _), (by simpa using (kG).far2 (by omega) hs rfl rfl _ _), (by simpa using (kX).far2 (by omega) hs rfl rfl _ _), (by simpa using (kT).far2 (by omega) hs rfl rfl _ _)⟩
            · intro d a2 w2 hd hm ⟨u56, u57, u58, e, HB, f0, f1, f2, kR, kS, kU, kG, kX, kT⟩ K hK
              subst e
              simp only [Act.put, List.setIfInBounds_toArray, List.set_cons_zero, List.set_cons_succ]
              obtain ⟨gg, AA, nn, cc, rfl, hi⟩ := f2 (hm ⟨2, .data⟩ (by simp) rfl)
              have hs := kU.1 hd
              obtain ⟨k0, k1, k2, k3, k4⟩ := id hs
              go_simp
              exact hK.out _ _ ⟨u56, u57, .agg #[.bool gg, .slice AA nn cc], (by simp only [Act.put, List.setIfInBounds_toArray, List.set_cons_zero, List.set_cons_succ]), Below.set2 HB (by omega) _ _, (fun h => (f0 (by simpa using h)).set2 hs rfl rfl _ _), (fun h => (f1 (by simpa using h)).set2 hs rfl rfl _ _), (fun h => (f2 (by simpa using h)).set2 hs rfl rfl _ _), (by simpa using (kR).far2 (by omega) hs rfl rfl _ _), (by simpa using (kS).far2 (by omega) hs rfl rfl _ _), (by simpa using BlkF.near hi hs rfl rfl), (by simpa using (kG).far2 (by omega) hs rfl rfl _ _), (by simpa using (kX).far2 (by omega) hs rfl rfl _ _), (by simpa using (kT).far2 (by omega) hs rfl rfl _ _)⟩
          · intro d a2 w2 hall ⟨u56, u57, u58, e, HB, f0, f1, f2, kR, kS, kU, kG, kX, kT⟩
            subst e
            simp only [Act.put, List.setIfInBounds_toArray, List.set_cons_zero, List.set_cons_succ]
            have eR := kR.2 (hall _ (by decide))
            have eS := kS.2 (hall _ (by decide))
            have eU := kU.2 (hall _ (by decide))
            have eG := kG.1 rfl
            have eX := kX.1 rfl
            have eT := kT.1 rfl
            go_wp2_with fail
            go_meet
            exact ⟨HB, eR, eS, eU⟩
        case rest =>
        obtain ⟨BF, ⟨k1, K1, l1, e1, F1, J1⟩, ⟨k2, K2, l2, e2, F2, J2⟩, ⟨k3, K3, l3, e3, F3, J3⟩⟩ := hcut
        have ⟨f0, f1, _, _, _⟩ := F1
        have ⟨f2, f3, _, _, _⟩ := F2
        have ⟨f4, f5, _, _, _⟩ := F3
        have inv := HI.out
        have hgc : G = Nat.gcd a b := by have := inv.gc; rwa [Nat.gcd_zero_right] at this
        have hx : x = sE a b := by rw [sE, ← HE.out, extF_zero]
        have htt : t = tE a b := by rw [tE, if_neg hb0, ← hgc, ← hx]; exact HTT.out.symm
        have hfin : ∃ s' t' : Int, ExtInv a b (Nat.gcd a b) 0 (sE a b) s' (tE a b) t' := ⟨y, T', by rw [← hgc, ← hx, ← htt]; exact inv⟩
        have HFF := Lib.hid hfin
        have HGC := Lib.hid hgc
        clear hfin hgc inv
        rw [HGC.out] at J1
        rw [hx] at J2
        rw [htt] at J3
        clear hx htt
        go_wp2
        exact bodyPost_ret (v := .tuple #[.agg #[.bool k1, .slice K1 l1 e1], .agg #[.bool k2, .slice K2 l2 e2], .agg #[.bool k3, .slice K3 l3 e3]]) (by simp [results, Tryd.results74, go_sem, f0, f1, f2, f3, f4, f5]) rfl
          ⟨⟨_, _, _, _, _, _, _, _, _, _, _, _, rfl, J1, J2, J3, BF⟩, HFF.out⟩
    · have hsg : sgn (R : Int) = 1 := by unfold sgn; rw [if_neg (by omega), if_pos (by omega)]
      have HS1 := Lib.hid hsg
      clear hsg
      go_wp2_with fail
      (with_reducible refine (sign_z gr Ar nr cr _ 1 IN HS1.out).mono ?_)
      rintro e w1 ⟨rfl, hb1⟩
      have SG1 := SG.after hb1
      have SN1 := SN.after hb1
      have SX1 := SX.after hb1
      have SY1 := SY.after hb1
      have SP1 := SP.after hb1
      have SO1 := SO.after hb1
      have SR1 := SR.after hb1
      have SS1 := SS.after hb1
      have SU1 := SU.after hb1
      have IG1 := IG.below hb1
      have IN1 := IN.below hb1
      have IX1 := IX.below hb1
      have IY1 := IY.below hb1
      have IP1 := IP.below hb1
      have IO1 := IO.below hb1
      clear SG SN SX SY SP SO SR SS SU IG IN IX IY IP IO
      have BB1 := BB.trans (hb1.mono BB.size)
      have hRz : (R : Int) ≠ 0 := by omega
      have HDM := Lib.hid (dm_z gz gr Az Ar nz cz nr cr _ IG1 IN1 zg zr hRz)
      have ⟨d1, d2, _, _, _⟩ := SG1
      have ⟨d3, d4, _, _, _⟩ := SN1
      clear c1 c2 BB
      go_wp2_with fail
      (with_reducible refine (HDM.out).mono ?_)
      rintro e w2 ⟨h1, H1, o1, q1, h2, H2, o2, q2, rfl, i1, i2, hb2⟩
      rw [← Int.natCast_ediv] at i1
      rw [← Int.natCast_emod] at i2
      obtain ⟨BQ, DQ⟩ := two_new i1 i2
      have D := hb2.trans (DQ.mono hb2.size)
      have hs2 : w1.heap.size ≤ w2.heap.size := hb2.size
      have hs9 : g9 + 1 < w2.heap.size := Nat.lt_of_lt_of_le hsz9 (Nat.le_trans hb1.size hs2)
      have SG := SG1.after D
      have SN := SN1.after D
      have SX := SX1.after D
      have SY := SY1.after D
      have SP := SP1.after D
      have SO := SO1.after D
      have SR := SR1.after D
      have SS := SS1.after D
      have SU := SU1.after D
      have IG := IG1.below D
      have IN := IN1.below D
      have IX := IX1.below D
      have IY := IY1.below D
      have IP := IP1.below D
      have IO := IO1.below D
      clear SG1 SN1 SX1 SY1 SP1 SO1 SR1 SS1 SU1 IG1 IN1 IX1 IY1 IP1 IO1
      have BB2 := BB1.trans (D.mono BB1.size)
      have EQ := BQ (w2.heap.size, ((G / R : Nat) : Int)) (by simp)
      have EM := BQ (w2.heap.size + 1, ((G % R : Nat) : Int)) (by simp)
      clear d1 d2 d3 d4 HDM BB1 hb1 hb2 DQ D i1 i2 BQ
      go_upto_region 5 with (fail)
      generalize (w2.alloc (.cells #[.bool h1, .slice H1 o1 q1] 27)).alloc (.cells #[.bool h2, .slice H2 o2 q2] 27) = W4 at *
      generalize w2.heap.size = g11 at *
      obtain ⟨gq, Aq, nq, cq, SQ, IQ⟩ := EQ
      obtain ⟨gm, Am, nm, cm, SM, IM⟩ := EM
      obtain ⟨zq, zrm⟩ : Sz (k + 1) ((G / R : Nat) : Int) ∧ Sz k ((G % R : Nat) : Int) := by
        rw [Int.natCast_ediv, Int.natCast_emod]
        exact ⟨Sz.div zg (by omega), Sz.mod zr hRz⟩
      have inv := HI.out
      obtain ⟨zx, zy⟩ : Sz k x ∧ Sz k y := ⟨szm sb hk1 (inv.bound HG.out).1, szm sb hk1 (inv.bound HG.out).2⟩
      have zqy : Sz (k + 1 + k) (((G / R : Nat) : Int) * y) := Sz.mul zq zy (by omega)
      have HI2 := Lib.hid (inv.step hR)
      have HE2 : Hid (extF R (G % R) y (x - ((G / R : Nat) : Int) * y) = extF a b 1 0) := by rw [Hid, ← HE.out, extF_step _ _ hR]
      have hm := Nat.mod_lt G hR
      clear inv hs2
      have BB := BB2
      have hsz4 := SM.2.2.2.2
      go_cut [] (fun wx => Below w.heap.size w wx ∧ (Slot2 wx w.heap.size (.bool ga) (.slice Aa na ca) ∧ IsInt wx ga Aa na ca (a : Int)) ∧ (Slot2 wx (w.heap.size + 1) (.bool gb) (.slice Ab nb cb) ∧ IsInt wx gb Ab nb cb (b : Int)) ∧ Slot2 wx (w.heap.size + 1 + 1) (.bool false) (.slice none 0 0) ∧ Slot2 wx (w.heap.size + 1 + 1 + 1) (.bool false) (.slice none 0 0) ∧ Slot2 wx (w.heap.size + 1 + 1 + 1 + 1) (.bool false) (.slice none 0 0) ∧ IntAt wx g7 (R : Int) ∧ IntAt wx g8 ((G % R : Nat) : Int) ∧ (Slot2 wx g9 (.bool gx) (.slice Ax nx cx) ∧ IsInt wx gx Ax nx cx x) ∧ (Slot2 wx (g9 + 1) (.bool gy) (.slice Ay ny cy) ∧ IsInt wx gy Ay ny cy y) ∧ (Slot2 wx g11 (.bool gq) (.slice Aq nq cq) ∧ IsInt wx gq Aq nq cq ((G / R : Nat) : Int)))
      case first =>
        refine wp_region_ev (fun d a0 a' w' => ∃ u31 u32 : Value, a' = ((a0.put (some 31) u31).put (some 32) u32) ∧ Below w.heap.size w w' ∧ (d 0 = true → IntV w' u31 ((R : Int))) ∧ (d 1 = true → IntV w' u32 (((G % R : Nat) : Int))) ∧ (BlkI w' (w.heap.size) ga Aa na ca ((a : Int)) false (0)) ∧ (BlkI w' (w.heap.size + 1) gb Ab nb cb ((b : Int)) false (0)) ∧ (BlkF w' (w.heap.size + 1 + 1) (.bool false) (.slice none 0 0) false (0)) ∧ (BlkF w' (w.heap.size + 1 + 1 + 1) (.bool false) (.slice none 0 0) false (0)) ∧ (BlkF w' (w.heap.size + 1 + 1 + 1 + 1) (.bool false) (.slice none 0 0) false (0)) ∧ (BlkI w' (g7) gz Az nz cz ((G : Int)) (d 2) ((R : Int))) ∧ (BlkI w' (g8) gr Ar nr cr ((R : Int)) (d 3) (((G % R : Nat) : Int))) ∧ (BlkI w' (g9) gx Ax nx cx (x) false (0)) ∧ (BlkI w' (g9 + 1) gy Ay ny cy (y) false (0)) ∧ (BlkI w' (g11) gq Aq nq cq (((G / R : Nat) : Int)) false (0)) ∧ (BlkI w' (g11 + 1) gm Am nm cm (((G % R : Nat) : Int)) false (0)) ∧ (d 3 = true → d 0 = true)) (by kernel_rfl) (by kernel_rfl) ?_ ?_ ?_ ?_
        · intro d d' h a' w' hh
          obtain rfl : d = d' := funext h
          exact hh
        · exact ⟨_, _, (by simp only [Act.put, List.setIfInBounds_toArray, List.set_cons_zero, List.set_cons_succ]; rfl), Below.drew (BB), (fun h => by cases h), (fun h => by cases h), (BlkI.start SP IP), (BlkI.start SO IO), (BlkF.start (Slot2.drew SR)), (BlkF.start (Slot2.drew SS)), (BlkF.start (Slot2.drew SU)), (BlkI.start SG IG), (BlkI.start SN IN), (BlkI.start SX IX), (BlkI.start SY IY), (BlkI.start SQ IQ), (BlkI.start SM IM), (fun h => by cases h)⟩
        · refine ⟨?_, ?_, ?_, ?_, trivial⟩
          · intro d a2 w2 hd hm ⟨u31, u32, e, HB, f0, f1, kP, kO, kR, kS, kU, kG, kN, kX, kY, kQ, kM, o3_0⟩ K hK
            subst e
            simp only [Act.put, List.setIfInBounds_toArray, List.set_cons_zero, List.set_cons_succ]
            have hs : d 3 = false := by cases hq : d 3 with | false => rfl | true => (have hz := o3_0 hq; rw [hd] at hz; cases hz)
            have ⟨⟨y0, y1, _, _, _⟩, iL⟩ := kN.1 hs
            clear hs
            go_simp
            exact hK.out _ _ ⟨.agg #[.bool gr, .slice Ar nr cr], u32, (by simp only [Act.put, List.setIfInBounds_toArray, List.set_cons_zero, List.set_cons_succ]), HB, (fun _ => ⟨_, _, _, _, rfl, iL⟩), (fun h => (f1 (by simpa using h))), (by simpa using (kP)), (by simpa using (kO)), (by simpa using (kR)), (by simpa using (kS)), (by simpa using (kU)), (by simpa using (kG)), (by simpa using (kN)), (by simpa using (kX)), (by simpa using (kY)), (by simpa using (kQ)), (by simpa using (kM)), (fun _ => by simp)⟩
          · intro d a2 w2 hd hm ⟨u31, u32, e, HB, f0, f1, kP, kO, kR, kS, kU, kG, kN, kX, kY, kQ, kM, o3_0⟩ K hK
            subst e
            simp only [Act.put, List.setIfInBounds_toArray, List.set_cons_zero, List.set_cons_succ]
            have ⟨⟨y0, y1, _, _, _⟩, iL⟩ := kM.1 rfl
            go_simp
            exact hK.out _ _ ⟨u31, .agg #[.bool gm, .slice Am nm cm], (by simp only [Act.put, List.setIfInBounds_toArray, List.set_cons_zero, List.set_cons_succ]), HB, (fun h => (f0 (by simpa using h))), (fun _ => ⟨_, _, _, _, rfl, iL⟩), (by simpa using (kP)), (by simpa using (kO)), (by simpa using (kR)), (by simpa using (kS)), (by simpa using (kU)), (by simpa using (kG)), (by simpa using (kN)), (by simpa using (kX)), (by simpa using (kY)), (by simpa using (kQ)), (by simpa using (kM)), (fun h => by simpa using o3_0 (by simpa using h))⟩
          · intro d a2 w2 hd hm ⟨u31, u32, e, HB, f0, f1, kP, kO, kR, kS, kU, kG, kN, kX, kY, kQ, kM, o3_0⟩ K hK
            subst e
            simp only [Act.put, List.setIfInBounds_toArray, List.set_cons_zero, List.set_cons_succ]
            obtain ⟨gg, AA, nn, cc, rfl, hi⟩ := f0 (hm ⟨0, .data⟩ (by simp) rfl)
            have hs := (kG.1 hd).1
            obtain ⟨k0, k1, k2, k3, k4⟩ := id hs
            go_simp
            exact hK.out _ _ ⟨.agg #[.bool gg, .slice AA nn cc], u32, (by simp only [Act.put, List.setIfInBounds_toArray, List.set_cons_zero, List.set_cons_succ]), Below.set2 HB (by omega) _ _, (fun h => (f0 (by simpa using h)).set2 hs rfl rfl _ _), (fun h => (f1 (by simpa using h)).set2 hs rfl rfl _ _), (by simpa using (kP).far2 (by omega) hs rfl rfl _ _), (by simpa using (kO).far2 (by omega) hs rfl rfl _ _), (by simpa using (kR).far2 (by omega) hs rfl rfl _ _), (by simpa using (kS).far2 (by omega) hs rfl rfl _ _), (by simpa using (kU).far2 (by omega) hs rfl rfl _ _), (by simpa using BlkI.near hi hs), (by simpa using (kN).far2 (by omega) hs rfl rfl _ _), (by simpa using (kX).far2 (by omega) hs rfl rfl _ _), (by simpa using (kY).far2 (by omega) hs rfl rfl _ _), (by simpa using (kQ).far2 (by omega) hs rfl rfl _ _), (by simpa using (kM).far2 (by omega) hs rfl rfl _ _), (fun h => by simpa using o3_0 (by simpa using h))⟩
          · intro d a2 w2 hd hm ⟨u31, u32, e, HB, f0, f1, kP, kO, kR, kS, kU, kG, kN, kX, kY, kQ, kM, o3_0⟩ K hK
            subst e
            simp only [Act.put, List.setIfInBounds_toArray, List.set_cons_zero, List.set_cons_succ]
            obtain ⟨gg, AA, nn, cc, rfl, hi⟩ := f1 (hm ⟨1, .data⟩ (by simp) rfl)
            have hs := (kN.1 hd).1
            obtain ⟨k0, k1, k2, k3, k4⟩ := id hs
            go_simp
            exact hK.out _ _ ⟨u31, .agg #[.bool gg, .slice AA nn cc], (by simp only [Act.put, List.setIfInBounds_toArray, List.set_cons_zero, List.set_cons_succ]), Below.set2 HB (by omega) _ _, (fun h => (f0 (by simpa using h)).set2 hs rfl rfl _ _), (fun h => (f1 (by simpa using h)).set2 hs rfl rfl _ _), (by simpa using (kP).far2 (by omega) hs rfl rfl _ _), (by simpa using (kO).far2 (by omega) hs rfl rfl _ _), (by simpa using (kR).far2 (by omega) hs rfl rfl _ _), (by simpa using (kS).far2 (by omega) hs rfl rfl _ _), (by simpa using (kU).far2 (by omega) hs rfl rfl _ _), (by simpa using (kG).far2 (by omega) hs rfl rfl _ _), (by simpa using BlkI.near hi hs), (by simpa using (kX).far2 (by omega) hs rfl rfl _ _), (by simpa using (kY).far2 (by omega) hs rfl rfl _ _), (by simpa using (kQ).far2 (by omega) hs rfl rfl _ _), (by simpa using (kM).far2 (by omega) hs rfl rfl _ _), (fun _ => by simpa using hm ⟨0, .phase⟩ (by simp) rfl)⟩
        · intro d a2 w2 hall ⟨u31, u32, e, HB, f0, f1, kP, kO, kR, kS, kU, kG, kN, kX, kY, kQ, kM, o3_0⟩
          subst e
          simp only [Act.put, List.setIfInBounds_toArray, List.set_cons_zero, List.set_cons_succ]
          have eP := kP.1 rfl
          have eO := kO.1 rfl
          have eR := kR.1 rfl
          have eS := kS.1 rfl
          have eU := kU.1 rfl
          have eG := kG.2 (hall _ (by decide))
          have eN := kN.2 (hall _ (by decide))
          have eX := kX.1 rfl
          have eY := kY.1 rfl
          have eQ := kQ.1 rfl
          have eM := kM.1 rfl
          go_wp2_with fail
          go_meet
          exact ⟨HB, eP, eO, eR, eS, eU, eG, eN, eX, eY, eQ⟩
      case rest =>
      obtain ⟨BB6, ⟨SP6, IP6⟩, ⟨SO6, IO6⟩, SR6, SS6, SU6, ⟨gG, AG, nG, cG, SG6, IG6⟩, ⟨gN, AN, nN, cN, SN6, IN6⟩, ⟨SX6, IX6⟩, ⟨SY6, IY6⟩, ⟨SQ6, IQ6⟩⟩ := hcut
      clear SP SO SR SS SU SG SN SX SY SQ SM IP IO IG IN IX IY IQ IM BB BB2
      go_wp2_with fail
      refine wp_region_ev (fun d a0 a' w' => ∃ u33 u34 u35 u36 u37 u38 : Value, a' = ((((((a0.put (some 33) u33).put (some 34) u34).put (some 35) u35).put (some 36) u36).put (some 37) u37).put (some 38) u38) ∧ Below w.heap.size w w' ∧ (d 0 = true → IntV w' u33 (y)) ∧ (d 1 = true → u34 = .agg #[.bool gx, .slice Ax nx cx]) ∧ (d 2 = true → u35 = .agg #[.bool gq, .slice Aq nq cq]) ∧ (d 3 = true → u36 = .agg #[.bool gy, .slice Ay ny cy]) ∧ (d 4 = true → IntV w' u37 (((G / R : Nat) : Int) * y)) ∧ (d 5 = true → IntV w' u38 (x - ((G / R : Nat) : Int) * y)) ∧ (BlkI w' (w.heap.size) ga Aa na ca ((a : Int)) false (0)) ∧ (BlkI w' (w.heap.size + 1) gb Ab nb cb ((b : Int)) false (0)) ∧ (BlkF w' (w.heap.size + 1 + 1) (.bool false) (.slice none 0 0) false (0)) ∧ (BlkF w' (w.heap.size + 1 + 1 + 1) (.bool false) (.slice none 0 0) false (0)) ∧ (BlkF w' (w.heap.size + 1 + 1 + 1 + 1) (.bool false) (.slice none 0 0) false (0)) ∧ (BlkI w' (g7) gG AG nG cG ((R : Int)) false (0)) ∧ (BlkI w' (g8) gN AN nN cN (((G % R : Nat) : Int)) false (0)) ∧ (BlkI w' (g9) gx Ax nx cx (x) (d 6) (y)) ∧ (BlkI w' (g9 + 1) gy Ay ny cy (y) (d 7) (x - ((G / R : Nat) : Int) * y)) ∧ (BlkI w' (g11) gq Aq nq cq (((G / R : Nat) : Int)) false (0)) ∧ (d 7 = true → d 0 = true) ∧ (d 6 = true → d 1 = true) ∧ (d 7 = true → d 3 = true) ∧ (d 7 = true → d 4 = true) ∧ (d 6 = true → d 5 = true)) (by kernel_rfl) (by kernel_rfl) ?_ ?_ ?_ ?_
      · intro d d' h a' w' hh
        obtain rfl : d = d' := funext h
        exact hh
      · exact ⟨_, _, _, _, _, _, (by simp only [Act.put, List.setIfInBounds_toArray, List.set_cons_zero, List.set_cons_succ]; rfl), Below.drew (BB6), (fun h => by cases h), (fun h => by cases h), (fun h => by cases h), (fun h => by cases h), (fun h => by cases h), (fun h => by cases h), (BlkI.start SP6 IP6), (BlkI.start SO6 IO6), (BlkF.start (Slot2.drew SR6)), (BlkF.start (Slot2.drew SS6)), (BlkF.start (Slot2.drew SU6)), (BlkI.start SG6 IG6), (BlkI.start SN6 IN6), (BlkI.start SX6 IX6), (BlkI.start SY6 IY6), (BlkI.start SQ6 IQ6), (fun h => by cases h), (fun h => by cases h), (fun h => by cases h), (fun h => by cases h), (fun h => by cases h)⟩
      · refine ⟨?_, ?_, ?_, ?_, ?_, ?_, ?_, ?_, trivial⟩
        · intro d a2 w2 hd hm ⟨u33, u34, u35, u36, u37, u38, e, HB, f0, f1, f2, f3, f4, f5, kP, kO, kR, kS, kU, kG, kN, kX, kY, kQ, o7_0, o6_1, o7_3, o7_4, o6_5⟩ K hK
          subst e
          simp only [Act.put, List.setIfInBounds_toArray, List.set_cons_zero, List.set_cons_succ]
          have hs : d 7 = false := by cases hq : d 7 with | false => rfl | true => (have hz := o7_0 hq; rw [hd] at hz; cases hz)
          have ⟨⟨y0, y1, _, _, _⟩, iL⟩ := kY.1 hs
          clear hs
          go_simp
          exact hK.out _ _ ⟨.agg #[.bool gy, .slice Ay ny cy], u34, u35, u36, u37, u38, (by simp only [Act.put, List.setIfInBounds_toArray, List.set_cons_zero, List.set_cons_succ]), HB, (fun _ => ⟨_, _, _, _, rfl, iL⟩), (fun h => f1 (by simpa using h)), (fun h => f2 (by simpa using h)), (fun h => f3 (by simpa using h)), (fun h => (f4 (by simpa using h))), (fun h => (f5 (by simpa using h))), (by simpa using (kP)), (by simpa using (kO)), (by simpa using (kR)), (by simpa using (kS)), (by simpa using (kU)), (by simpa using (kG)), (by simpa using (kN)), (by simpa using (kX)), (by simpa using (kY)), (by simpa using (kQ)), (fun _ => by simp), (fun h => by simpa using o6_1 (by simpa using h)), (fun h => by simpa using o7_3 (by simpa using h)), (fun h => by simpa using o7_4 (by simpa using h)), (fun h => by simpa using o6_5 (by simpa using h))⟩
        · intro d a2 w2 hd hm ⟨u33, u34, u35, u36, u37, u38, e, HB, f0, f1, f2, f3, f4, f5, kP, kO, kR, kS, kU, kG, kN, kX, kY, kQ, o7_0, o6_1, o7_3, o7_4, o6_5⟩ K hK
          subst e
          simp only [Act.put, List.setIfInBounds_toArray, List.set_cons_zero, List.set_cons_succ]
          have hs : d 6 = false := by cases hq : d 6 with | false => rfl | true => (have hz := o6_1 hq; rw [hd] at hz; cases hz)
          have ⟨y0, y1, _, _, _⟩ := (kX.1 hs).1
          clear hs
          go_simp
          exact hK.out _ _ ⟨u33, .agg #[.bool gx, .slice Ax nx cx], u35, u36, u37, u38, (by simp only [Act.put, List.setIfInBounds_toArray, List.set_cons_zero, List.set_cons_succ]), HB, (fun h => (f0 (by simpa using h))), (fun _ => rfl), (fun h => f2 (by simpa using h)), (fun h => f3 (by simpa using h)), (fun h => (f4 (by simpa using h))), (fun h => (f5 (by simpa using h))), (by simpa using (kP)), (by simpa using (kO)), (by simpa using (kR)), (by simpa using (kS)), (by simpa using (kU)), (by simpa using (kG)), (by simpa using (kN)), (by simpa using (kX)), (by simpa using (kY)), (by simpa using (kQ)), (fun h => by simpa using o7_0 (by simpa using h)), (fun _ => by simp), (fun h => by simpa using o7_3 (by simpa using h)), (fun h => by simpa using o7_4 (by simpa using h)), (fun h => by simpa using o6_5 (by simpa using h))⟩
        · intro d a2 w2 hd hm ⟨u33, u34, u35, u36, u37, u38, e, HB, f0, f1, f2, f3, f4, f5, kP, kO, kR, kS, kU, kG, kN, kX, kY, kQ, o7_0, o6_1, o7_3, o7_4, o6_5⟩ K hK
          subst e
          simp only [Act.put, List.setIfInBounds_toArray, List.set_cons_zero, List.set_cons_succ]
          have ⟨y0, y1, _, _, _⟩ := (kQ.1 rfl).1
          go_simp
          exact hK.out _ _ ⟨u33, u34, .agg #[.bool gq, .slice Aq nq cq], u36, u37, u38, (by simp only [Act.put, List.setIfInBounds_toArray, List.set_cons_zero, List.set_cons_succ]), HB, (fun h => (f0 (by simpa using h))), (fun h => f1 (by simpa using h)), (fun _ => rfl), (fun h => f3 (by simpa using h)), (fun h => (f4 (by simpa using h))), (fun h => (f5 (by simpa using h))), (by simpa using (kP)), (by simpa using (kO)), (by simpa using (kR)), (by simpa using (kS)), (by simpa using (kU)), (by simpa using (kG)), (by simpa using (kN)), (by simpa using (kX)), (by simpa using (kY)), (by simpa using (kQ)), (fun h => by simpa using o7_0 (by simpa using h)), (fun h => by simpa using o6_1 (by simpa using h)), (fun h => by simpa using o7_3 (by simpa using h)), (fun h => by simpa using o7_4 (by simpa using h)), (fun h => by simpa using o6_5 (by simpa using h))⟩
        · intro d a2 w2 hd hm ⟨u33, u34, u35, u36, u37, u38, e, HB, f0, f1, f2, f3, f4, f5, kP, kO, kR, kS, kU, kG, kN, kX, kY, kQ, o7_0, o6_1, o7_3, o7_4, o6_5⟩ K hK
          subst e
          simp only [Act.put, List.setIfInBounds_toArray, List.set_cons_zero, List.set_cons_succ]
          have hs : d 7 = false := by cases hq : d 7 with | false => rfl | true => (have hz := o7_3 hq; rw [hd] at hz; cases hz)
          have ⟨y0, y1, _, _, _⟩ := (kY.1 hs).1
          clear hs
          go_simp
          exact hK.out _ _ ⟨u33, u34, u35, .agg #[.bool gy, .slice Ay ny cy], u37, u38, (by simp only [Act.put, List.setIfInBounds_toArray, List.set_cons_zero, List.set_cons_succ]), HB, (fun h => (f0 (by simpa using h))), (fun h => f1 (by simpa using h)), (fun h => f2 (by simpa using h)), (fun _ => rfl), (fun h => (f4 (by simpa using h))), (fun h => (f5 (by simpa using h))), (by simpa using (kP)), (by simpa using (kO)), (by simpa using (kR)), (by simpa using (kS)), (by simpa using (kU)), (by simpa using (kG)), (by simpa using (kN)), (by simpa using (kX)), (by simpa using (kY)), (by simpa using (kQ)), (fun h => by simpa using o7_0 (by simpa using h)), (fun h => by simpa using o6_1 (by simpa using h)), (fun _ => by simp), (fun h => by simpa using o7_4 (by simpa using h)), (fun h => by simpa using o6_5 (by simpa using h))⟩
        · intro d a2 w2 hd hm ⟨u33, u34, u35, u36, u37, u38, e, HB, f0, f1, f2, f3, f4, f5, kP, kO, kR, kS, kU, kG, kN, kX, kY, kQ, o7_0, o6_1, o7_3, o7_4, o6_5⟩ K hK
          subst e
          simp only [Act.put, List.setIfInBounds_toArray, List.set_cons_zero, List.set_cons_succ]
          obtain rfl := f2 (hm ⟨2, .data⟩ (by simp) rfl)
          clear f2
          obtain rfl := f3 (hm ⟨3, .data⟩ (by simp) rfl)
          clear f3
          have iQ := (kQ.1 rfl).2
          have hsY : d 7 = false := by cases hq : d 7 with | false => rfl | true => (have hz := o7_4 hq; rw [hd] at hz; cases hz)
          have iY := (kY.1 hsY).2
          clear hsY
          go_simp
          (with_reducible refine (mul_z' gq gy Aq Ay nq cq ny cy _ iQ iY zq zy).mono ?_)
          rintro e w3 ⟨gg, AA, nn, cc, rfl, hi, hb⟩
          have HB3 := HB.trans (hb.mono HB.size)
          go_wp2_with fail
          exact hK.out _ _ ⟨u33, u34, .agg #[.bool gq, .slice Aq nq cq], .agg #[.bool gy, .slice Ay ny cy], .agg #[.bool gg, .slice AA nn cc], u38, (by simp only [Act.put, List.setIfInBounds_toArray, List.set_cons_zero, List.set_cons_succ]), HB3, (fun h => (f0 (by simpa using h)).below hb), (fun h => f1 (by simpa using h)), (fun _ => rfl), (fun _ => rfl), (fun _ => ⟨_, _, _, _, rfl, hi⟩), (fun h => (f5 (by simpa using h)).below hb), (by simpa using (kP).below hb), (by simpa using (kO).below hb), (by simpa using (kR).below hb), (by simpa using (kS).below hb), (by simpa using (kU).below hb), (by simpa using (kG).below hb), (by simpa using (kN).below hb), (by simpa using (kX).below hb), (by simpa using (kY).below hb), (by simpa using (kQ).below hb), (fun h => by simpa using o7_0 (by simpa using h)), (fun h => by simpa using o6_1 (by simpa using h)), (fun h => by simpa using o7_3 (by simpa using h)), (fun _ => by simp), (fun h => by simpa using o6_5 (by simpa using h))⟩
        · intro d a2 w2 hd hm ⟨u33, u34, u35, u36, u37, u38, e, HB, f0, f1, f2, f3, f4, f5, kP, kO, kR, kS, kU, kG, kN, kX, kY, kQ, o7_0, o6_1, o7_3, o7_4, o6_5⟩ K hK
          subst e
          simp only [Act.put, List.setIfInBounds_toArray, List.set_cons_zero, List.set_cons_succ]
          obtain rfl := f1 (hm ⟨1, .data⟩ (by simp) rfl)
          clear f1
          obtain ⟨G4, A4, N4, C4, rfl, I4⟩ := f4 (hm ⟨4, .data⟩ (by simp) rfl)
          have hsX : d 6 = false := by cases hq : d 6 with | false => rfl | true => (have hz := o6_5 hq; rw [hd] at hz; cases hz)
          have iX := (kX.1 hsX).2
          clear hsX
          go_simp
          (with_reducible refine (sub_z gx G4 Ax A4 nx cx N4 C4 _ iX I4 zx zqy).mono ?_)
          rintro e w3 ⟨gg, AA, nn, cc, rfl, hi, hb⟩
          have HB3 := HB.trans (hb.mono HB.size)
          go_wp2_with fail
          exact hK.out _ _ ⟨u33, .agg #[.bool gx, .slice Ax nx cx], u35, u36, .agg #[.bool G4, .slice A4 N4 C4], .agg #[.bool gg, .slice AA nn cc], (by simp only [Act.put, List.setIfInBounds_toArray, List.set_cons_zero, List.set_cons_succ]), HB3, (fun h => (f0 (by simpa using h)).below hb), (fun _ => rfl), (fun h => f2 (by simpa using h)), (fun h => f3 (by simpa using h)), (fun h => (f4 (by simpa using h)).below hb), (fun _ => ⟨_, _, _, _, rfl, hi⟩), (by simpa using (kP).below hb), (by simpa using (kO).below hb), (by simpa using (kR).below hb), (by simpa using (kS).below hb), (by simpa using (kU).below hb), (by simpa using (kG).below hb), (by simpa using (kN).below hb), (by simpa using (kX).below hb), (by simpa using (kY).below hb), (by simpa using (kQ).below hb), (fun h => by simpa using o7_0 (by simpa using h)), (fun h => by simpa using o6_1 (by simpa using h)), (fun h => by simpa using o7_3 (by simpa using h)), (fun h => by simpa using o7_4 (by simpa using h)), (fun _ => by simp)⟩
        · intro d a2 w2 hd hm ⟨u33, u34, u35, u36, u37, u38, e, HB, f0, f1, f2, f3, f4, f5, kP, kO, kR, kS, kU, kG, kN, kX, kY, kQ, o7_0, o6_1, o7_3, o7_4, o6_5⟩ K hK
          subst e
          simp only [Act.put, List.setIfInBounds_toArray, List.set_cons_zero, List.set_cons_succ]
          obtain ⟨gg, AA, nn, cc, rfl, hi⟩ := f0 (hm ⟨0, .data⟩ (by simp) rfl)
          have hs := (kX.1 hd).1
          obtain ⟨k0, k1, k2, k3, k4⟩ := id hs
          go_simp
          exact hK.out _ _ ⟨.agg #[.bool gg, .slice AA nn cc], u34, u35, u36, u37, u38, (by simp only [Act.put, List.setIfInBounds_toArray, List.set_cons_zero, List.set_cons_succ]), Below.set2 HB (by omega) _ _, (fun h => (f0 (by simpa using h)).set2 hs rfl rfl _ _), (fun h => f1 (by simpa using h)), (fun h => f2 (by simpa using h)), (fun h => f3 (by simpa using h)), (fun h => (f4 (by simpa using h)).set2 hs rfl rfl _ _), (fun h => (f5 (by simpa using h)).set2 hs rfl rfl _ _), (by simpa using (kP).far2 (by omega) hs rfl rfl _ _), (by simpa using (kO).far2 (by omega) hs rfl rfl _ _), (by simpa using (kR).far2 (by omega) hs rfl rfl _ _), (by simpa using (kS).far2 (by omega) hs rfl rfl _ _), (by simpa using (kU).far2 (by omega) hs rfl rfl _ _), (by simpa using (kG).far2 (by omega) hs rfl rfl _ _), (by simpa using (kN).far2 (by omega) hs rfl rfl _ _), (by simpa using BlkI.near hi hs), (by simpa using (kY).far2 (by omega) hs rfl rfl _ _), (by simpa using (kQ).far2 (by omega) hs rfl rfl _ _), (fun h => by simpa using o7_0 (by simpa using h)), (fun _ => by simpa using hm ⟨1, .phase⟩ (by simp) rfl), (fun h => by simpa using o7_3 (by simpa using h)), (fun h => by simpa using o7_4 (by simpa using h)), (fun _ => by simpa using hm ⟨5, .chain⟩ (by simp) rfl)⟩
        · intro d a2 w2 hd hm ⟨u33, u34, u35, u36, u37, u38, e, HB, f0, f1, f2, f3, f4, f5, kP, kO, kR, kS, kU, kG, kN, kX, kY, kQ, o7_0, o6_1, o7_3, o7_4, o6_5⟩ K hK
          subst e
          simp only [Act.put, List.setIfInBounds_toArray, List.set_cons_zero, List.set_cons_succ]
          obtain ⟨gg, AA, nn, cc, rfl, hi⟩ := f5 (hm ⟨5, .data⟩ (by simp) rfl)
          have hs := (kY.1 hd).1
          obtain ⟨k0, k1, k2, k3, k4⟩ := id hs
          go_simp
          exact hK.out _ _ ⟨u33, u34, u35, u36, u37, .agg #[.bool gg, .slice AA nn cc], (by simp only [Act.put, List.setIfInBounds_toArray, List.set_cons_zero, List.set_cons_succ]), Below.set2 HB (by omega) _ _, (fun h => (f0 (by simpa using h)).set2 hs rfl rfl _ _), (fun h => f1 (by simpa using h)), (fun h => f2 (by simpa using h)), (fun h => f3 (by simpa using h)), (fun h => (f4 (by simpa using h)).set2 hs rfl rfl _ _), (fun h => (f5 (by simpa using h)).set2 hs rfl rfl _ _), (by simpa using (kP).far2 (by omega) hs rfl rfl _ _), (by simpa using (kO).far2 (by omega) hs rfl rfl _ _), (by simpa using (kR).far2 (by omega) hs rfl rfl _ _), (by simpa using (kS).far2 (by omega) hs rfl rfl _ _), (by simpa using (kU).far2 (by omega) hs rfl rfl _ _), (by simpa using (kG).far2 (by omega) hs rfl rfl _ _), (by simpa using (kN).far2 (by omega) hs rfl rfl _ _), (by simpa using (kX).far2 (by omega) hs rfl rfl _ _), (by simpa using BlkI.near hi hs), (by simpa using (kQ).far2 (by omega) hs rfl rfl _ _), (fun _ => by simpa using hm ⟨0, .phase⟩ (by simp) rfl), (fun h => by simpa using o6_1 (by simpa using h)), (fun _ => by simpa using hm ⟨3, .phase⟩ (by simp) rfl), (fun _ => by simpa using hm ⟨4, .phase⟩ (by simp) rfl), (fun h => by simpa using o6_5 (by simpa using h))⟩
      · intro d a2 w2 hall ⟨u33, u34, u35, u36, u37, u38, e, HB, f0, f1, f2, f3, f4, f5, kP, kO, kR, kS, kU, kG, kN, kX, kY, kQ, o7_0, o6_1, o7_3, o7_4, o6_5⟩
        subst e
        simp only [Act.put, List.setIfInBounds_toArray, List.set_cons_zero, List.set_cons_succ]
        obtain rfl := f1 (hall _ (by decide))
        obtain rfl := f2 (hall _ (by decide))
        obtain rfl := f3 (hall _ (by decide))
        have eP := kP.1 rfl
        have eO := kO.1 rfl
        have eR := kR.1 rfl
        have eS := kS.1 rfl
        have eU := kU.1 rfl
        have eG := kG.1 rfl
        have eN := kN.1 rfl
        have eX := kX.2 (hall _ (by decide))
        have eY := kY.2 (hall _ (by decide))
        have eQ := kQ.1 rfl
        have hsz7 := IntAt.size eY
        go_wp2_with fail
        go_roundg (G % R)
        case measure => have := hg.out; omega
        case rel => exact ⟨R, G % R, y, x - ((G / R : Nat) : Int) * y, T', T - ((G / R : Nat) : Int) * T', ⟨_, _, _, _, eG.1, eG.2⟩, ⟨_, _, _, _, eN.1, eN.2⟩, eX, eY, ⟨_, _, _, _, eP.1, eP.2⟩, ⟨_, _, _, _, eO.1, eO.2⟩, eR, eS, eU, rfl, HI2.out, .inl hR, (fun h => absurd (HZ.out h).1 (by omega)), HE2.out, zr, zrm, HB, hsz7⟩
end Go.Proofs.YtnlmdjbakcjhbaaDoor
