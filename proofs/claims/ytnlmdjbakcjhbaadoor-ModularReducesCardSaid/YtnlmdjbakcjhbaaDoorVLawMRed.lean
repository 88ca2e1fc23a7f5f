/- The walk of the law ModularReduces, given what its fixed examples return. -/
import Derived.Test.YtnlmdjbakcjhbaaDoorVLawMRedR
namespace Go.Proofs.YtnlmdjbakcjhbaaDoor
open Go.RowKit
set_option maxRecDepth 1000000 in
set_option maxHeartbeats 8000000 in
theorem law_mred (HS : SanM) (k : Nat) (A1 A2 : Option Addr) (n1 c1 n2 c2 : Nat) (s1 s2 : Bool) (xs ys : List Nat) (hk : k < 256) (w : World) (hT : TabW w) (h5 : TabN w.heap.size) (hx : Lim w w.heap.size A1 n1 c1 xs) (hy : Lim w w.heap.size A2 n2 c2 ys) :
    Calls Tryd.prog 8 #[.int .u8 (k : Int), .agg #[.slice A1 n1 c1, .bool s1], .agg #[.slice A2 n2 c2, .bool s2]] w fun e w' => e = .returned (.bool true) ∧ Below w.heap.size w w' := by
  have HS' := Lib.hid HS
  clear HS
  have TT := Lib.hid hT
  clear hT
  have B0 : Below w.heap.size w ((w.alloc (.cells #[.slice A1 n1 c1, .bool s1] 59)).alloc (.cells #[.slice A2 n2 c2, .bool s2] 59)) := ((Below.refl _ _).alloc (Nat.le_refl _) _).alloc (by simp) _
  have X0 := (Slot2.new w (.slice A1 n1 c1) (.bool s1) 59).alloc (.cells #[.slice A2 n2 c2, .bool s2] 59)
  have Y0 := Slot2.new (w.alloc (.cells #[.slice A1 n1 c1, .bool s1] 59)) (.slice A2 n2 c2) (.bool s2) 59
  rw [World.size_alloc] at Y0
  have Za := Sz.raw s1 xs 4 hx.lt (by decide)
  have Zb := Sz.raw s2 ys 4 hy.lt (by decide)
  have M1 := fun W (hW : Below w.heap.size w W) => mkNum_any s1 A1 n1 c1 w.heap.size xs W (hx.below hW) hW.size
  have M2 := fun W (hW : Below w.heap.size w W) => mkNum_any s2 A2 n2 c2 w.heap.size ys W (hy.below hW) hW.size
  generalize zOf s1 (val (xs.take 4)) = a at *
  generalize zOf s2 (val (ys.take 4)) = b at *
  have HM1 := Lib.hid M1
  have HM2 := Lib.hid M2
  clear M1 M2 hx hy
  go_enter Tryd.func8, Tryd.ntmps8
  go_wp2_with fail
  refine (HS'.out _ (TT.out.below B0 h5) (h5.le B0.size)).mono ?_
  rintro e w1 ⟨rfl, hb1⟩
  have B1 := B0.trans (hb1.mono B0.size)
  have X1 := X0.after hb1
  have Y1 := Y0.after hb1
  go_wp2_with fail
  refine (pmade_r k _ hk).mono ?_
  rintro e w2 ⟨p, rfl, HP, hp, hp2, hb2⟩
  have B2 := B1.trans (hb2.mono B1.size)
  have X2 := X1.after hb2
  have Y2 := Y1.after hb2
  have hp0 : 0 < p := by omega
  clear HP hb1 hb2 B0 B1 X0 X1 Y0 Y1
  have ⟨q0, q1, _, _, _⟩ := X2
  go_wp2_with fail
  refine (HM1.out _ B2).mono ?_
  rintro e w3 ⟨ga, Aa, na, ca, rfl, ia, hb3⟩
  have B3 := B2.trans (hb3.mono B2.size)
  have Y3 := Y2.after hb3
  have SA := Slot2.new w3 (.bool ga) (.slice Aa na ca) 27
  have IA := ia.below ((Below.refl w3.heap.size w3).alloc (Nat.le_refl _) (.cells #[.bool ga, .slice Aa na ca] 27))
  have B4 := B3.alloc B3.size (.cells #[.bool ga, .slice Aa na ca] 27)
  have Y4 := Y3.alloc (.cells #[.bool ga, .slice Aa na ca] 27)
  obtain ⟨ba, hba⟩ : ∃ ba, ba = w3.heap.size := ⟨_, rfl⟩
  clear q0 q1 X2 ia hb3 Y2 Y3
  have ⟨q0, q1, _, _, _⟩ := Y4
  go_wp2_with fail
  refine (HM2.out _ B4).mono ?_
  rintro e w5 ⟨gb, Ab, nb, cb, rfl, ib, hb5⟩
  have B5 := B4.trans (hb5.mono B4.size)
  have SA5 := SA.after hb5
  have IA5 := IA.below hb5
  have SB := Slot2.new w5 (.bool gb) (.slice Ab nb cb) 27
  have IB := ib.below ((Below.refl w5.heap.size w5).alloc (Nat.le_refl _) (.cells #[.bool gb, .slice Ab nb cb] 27))
  have B6 := B5.alloc B5.size (.cells #[.bool gb, .slice Ab nb cb] 27)
  have SA6 := SA5.alloc (.cells #[.bool gb, .slice Ab nb cb] 27)
  have IA6 := IA5.below ((Below.refl w5.heap.size w5).alloc (Nat.le_refl _) (.cells #[.bool gb, .slice Ab nb cb] 27))
  clear q0 q1 Y4 SA IA SA5 IA5 ib hb5
  have ⟨q0, q1, _, _, _⟩ := SA6
  have ⟨q2, q3, _, _, _⟩ := SB
  obtain ⟨r, hr, hrl⟩ := res_ex p a hp0
  obtain ⟨s, hs, hsl⟩ := res_ex p b hp0
  have HR := Lib.hid hr
  have HSs := Lib.hid hs
  clear hr hs
  go_wp2_with fail
  refine (mred_v p r _ hp0 hp IA6 HR).mono ?_
  rintro e w7 ⟨rfl, hb7⟩
  have B7 := B6.trans (hb7.mono B6.size)
  have SA7 := SA6.after hb7
  have IA7 := IA6.below hb7
  have SB7 := SB.after hb7
  have IB7 := IB.below hb7
  clear q0 q1 q2 q3 SA6 IA6 SB IB hb7
  have ⟨q0, q1, _, _, _⟩ := SA7
  have ⟨q2, q3, _, _, _⟩ := SB7
  go_wp2_with fail
  refine (mred_v p s _ hp0 hp IB7 HSs).mono ?_
  rintro e w8 ⟨rfl, hb8⟩
  have B8 := B7.trans (hb8.mono B7.size)
  have SA8 := SA7.after hb8
  have IA8 := IA7.below hb8
  have SB8 := SB7.after hb8
  have IB8 := IB7.below hb8
  clear q0 q1 q2 q3 SA7 IA7 SB7 IB7 hb8
  have ⟨q0, q1, _, _, _⟩ := SA8
  have ⟨q2, q3, _, _, _⟩ := SB8
  go_wp2_with fail
  refine (qred_v p r _ hp0 hp IA8 Za HR).mono ?_
  rintro e w9 ⟨rfl, hb9⟩
  have B9 := B8.trans (hb9.mono B8.size)
  have SA9 := SA8.after hb9
  have IA9 := IA8.below hb9
  have SB9 := SB8.after hb9
  have IB9 := IB8.below hb9
  clear q0 q1 q2 q3 SA8 IA8 SB8 IB8 hb9
  go_wp2_with fail
  refine (msym_any p r _ hp hrl).mono ?_
  rintro e w10 ⟨gt, At, nt, ct, rfl, it, hb10⟩
  have B10 := B9.trans (hb10.mono B9.size)
  have SA10 := SA9.after hb10
  have IA10 := IA9.below hb10
  have SB10 := SB9.after hb10
  have IB10 := IB9.below hb10
  have e1 := Lib.hid (sym_mod p r hrl)
  have erng := sym_range p r hrl
  have Zt : Sz 1 (symZ p r) := Sz.of (by unfold symZ; split <;> omega) (by decide)
  generalize symZ p r = t at *
  have NB := (Below.refl w10.heap.size w10).alloc (Nat.le_refl _) (.cells #[.bool gt, .slice At nt ct] 27)
  have ST := Slot2.new w10 (.bool gt) (.slice At nt ct) 27
  have IT := it.below NB
  have B11 := B10.alloc B10.size (.cells #[.bool gt, .slice At nt ct] 27)
  have SA11 := SA10.alloc (.cells #[.bool gt, .slice At nt ct] 27)
  have SB11 := SB10.alloc (.cells #[.bool gt, .slice At nt ct] 27)
  have IA11 := IA10.below NB
  have IB11 := IB10.below NB
  clear SA9 IA9 SB9 IB9 hb10 SA10 IA10 SB10 IB10 NB it
  have ⟨q4, q5, _, _, _⟩ := ST
  go_wp2_with fail
  refine (radd_z gt gt At At nt ct nt ct _ IT IT Zt Zt).mono ?_
  rintro e w12 ⟨gy, Ay, ny, cy, rfl, iy, hb12⟩
  have B12 := B11.trans (hb12.mono B11.size)
  have Zy := Sz.add Zt Zt (by decide)
  have NB := (Below.refl w12.heap.size w12).alloc (Nat.le_refl _) (.cells #[.bool gy, .slice Ay ny cy] 27)
  have SY := Slot2.new w12 (.bool gy) (.slice Ay ny cy) 27
  have IY := iy.below NB
  have ST13 := (ST.after hb12).alloc (.cells #[.bool gy, .slice Ay ny cy] 27)
  have IT13 := (IT.below hb12).below NB
  have SA13 := (SA11.after hb12).alloc (.cells #[.bool gy, .slice Ay ny cy] 27)
  have SB13 := (SB11.after hb12).alloc (.cells #[.bool gy, .slice Ay ny cy] 27)
  have IA13 := (IA11.below hb12).below NB
  have IB13 := (IB11.below hb12).below NB
  have B13 := B12.alloc B12.size (.cells #[.bool gy, .slice Ay ny cy] 27)
  clear q4 q5 ST IT SA11 SB11 IA11 IB11 NB iy hb12
  have Zp : Sz 1 (p : Int) := Sz.of (by rw [Int.natAbs_natCast]; omega) (by decide)
  have hq1 : -9223372036854775808 ≤ (p : Int) := by omega
  have hq2 : (p : Int) ≤ 9223372036854775807 := by omega
  have hq3 : -9223372036854775808 ≤ -(p : Int) := by omega
  have hq4 : -(p : Int) ≤ 9223372036854775807 := by omega
  have hw1 : IntKind.i64.wrap (p : Int) = p := w_small (by rw [Int.natAbs_natCast]; omega)
  have hw2 : IntKind.i64.wrap (-(p : Int)) = -(p : Int) := w_small (by rw [Int.natAbs_neg, Int.natAbs_natCast]; omega)
  have hw3 : wrap64 (-(p : Int)) = -(p : Int) := by rw [w64, hw2]
  obtain ⟨v1, hv1⟩ : ∃ v, v = cmpN (t + t) (p : Int) := ⟨_, rfl⟩
  obtain ⟨v2, hv2⟩ : ∃ v, v = cmpN (t + t) (-(p : Int)) := ⟨_, rfl⟩
  rw [← hv1, ← hv2] at erng
  have V1 := Lib.hid hv1.symm
  have V2 := Lib.hid hv2.symm
  obtain ⟨er1, er2⟩ := erng
  clear hv1 hv2
  obtain ⟨c1, hc1⟩ : ∃ c, c = (r + s) % p := ⟨_, rfl⟩
  obtain ⟨c2, hc2⟩ : ∃ c, c = r * s % p := ⟨_, rfl⟩
  have F2 := Lib.hid (add_mod p r s a b HR.out HSs.out)
  have F4 := Lib.hid (mul_mod p r s a b HR.out HSs.out)
  rw [← hc1] at F2
  rw [← hc2] at F4
  have F3 := Lib.hid hc1
  have F5 := Lib.hid hc2
  clear hc1 hc2
  obtain ⟨W13, hW13⟩ : ∃ x : World, x = w12.alloc (.cells #[.bool gy, .slice Ay ny cy] 27) := ⟨_, rfl⟩
  rw [← hW13] at SY IY ST13 IT13 SA13 SB13 IA13 IB13 B13
  go_upto_region 11 with (fail)
  rw [← hW13]
  clear hW13
  go_cut [15] (fun p15 wx => p15 = .bool true ∧ Below W13.heap.size W13 wx)
  case first =>
    refine mred_r11 ⟨_, _, _, _, SY, IY⟩ Zy Zp hq1 hq2 hq3 hq4 hw1 hw2 hw3 V1 V2 er1 er2 ?_
    intros
    go_wp2_with fail
    go_meet
    exact ⟨rfl, by assumption⟩
  case rest =>
  obtain ⟨rfl, DZ⟩ := hcut
  have B14 := B13.trans (DZ.mono B13.size)
  have ST := ST13.after DZ
  have IT := IT13.below DZ
  have SA := SA13.after DZ
  have IA := IA13.below DZ
  have SB := SB13.after DZ
  have IB := IB13.below DZ
  clear ST13 IT13 SA13 IA13 SB13 IB13 DZ SY IY
  have ⟨q0, q1, _, _, _⟩ := SA
  have ⟨q2, q3, _, _, _⟩ := SB
  have ⟨q4, q5, _, _, _⟩ := ST
  go_wp2_with fail
  refine (mred_v p r _ hp0 hp IT e1).mono ?_
  rintro e w15 ⟨rfl, hb15⟩
  have B15 := B14.trans (hb15.mono B14.size)
  have SA1 := SA.after hb15
  have IA1 := IA.below hb15
  have SB1 := SB.after hb15
  have IB1 := IB.below hb15
  clear q0 q1 q2 q3 q4 q5 SA SB IA IB ST IT hb15
  have ⟨q0, q1, _, _, _⟩ := SA1
  have ⟨q2, q3, _, _, _⟩ := SB1
  go_wp2_with fail
  refine (radd_z ga gb Aa Ab na ca nb cb _ IA1 IB1 Za Zb).mono ?_
  rintro e w16 ⟨g6, A6, n6, d6, rfl, i6, hb16⟩
  have B16 := B15.trans (hb16.mono B15.size)
  have SA2 := SA1.after hb16
  have IA2 := IA1.below hb16
  have SB2 := SB1.after hb16
  have IB2 := IB1.below hb16
  go_wp2_with fail
  refine (mred_v p c1 _ hp0 hp i6 F2).mono ?_
  rintro e w17 ⟨rfl, hb17⟩
  have B17 := B16.trans (hb17.mono B16.size)
  go_wp2_with fail
  refine (qadd_v p r s c1 _ hp0 hp hrl hsl F3).mono ?_
  rintro e w18 ⟨rfl, hb18⟩
  have B18 := B17.trans (hb18.mono B17.size)
  have SA4 := (SA2.after hb17).after hb18
  have IA4 := (IA2.below hb17).below hb18
  have SB4 := (SB2.after hb17).after hb18
  have IB4 := (IB2.below hb17).below hb18
  clear q0 q1 q2 q3 SA1 SB1 IA1 IB1 SA2 SB2 IA2 IB2 hb16 hb17 hb18 i6
  have ⟨q0, q1, _, _, _⟩ := SA4
  have ⟨q2, q3, _, _, _⟩ := SB4
  go_wp2_with fail
  refine (rmul_z ga gb Aa Ab na ca nb cb _ IA4 IB4 Za Zb).mono ?_
  rintro e w19 ⟨g7, A7, n7, d7, rfl, i7, hb19⟩
  have B19 := B18.trans (hb19.mono B18.size)
  go_wp2_with fail
  refine (mred_v p c2 _ hp0 hp i7 F4).mono ?_
  rintro e w20 ⟨rfl, hb20⟩
  have B20 := B19.trans (hb20.mono B19.size)
  go_wp2_with fail
  refine (qmul_v p r s c2 _ hp0 hp hrl hsl F5).mono ?_
  rintro e w21 ⟨rfl, hb21⟩
  go_wp2_with fail
  go_ret
  exact ⟨rfl, B20.trans (hb21.mono B20.size)⟩
end Go.Proofs.YtnlmdjbakcjhbaaDoor
