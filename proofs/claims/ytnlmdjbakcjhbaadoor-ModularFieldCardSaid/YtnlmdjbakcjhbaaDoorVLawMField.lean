/- The walk of the law ModularField, given what its fixed examples return. -/
import Derived.Test.YtnlmdjbakcjhbaaDoorVLawMK
namespace Go.Proofs.YtnlmdjbakcjhbaaDoor
open Go.RowKit
set_option maxRecDepth 100000 in
set_option maxHeartbeats 8000000 in
theorem law_mfield (HS : SanM) (k x0 x1 x2 i j : Nat) (hk : k < 256) (hx0 : x0 < 18446744073709551616) (hx1 : x1 < 18446744073709551616) (hx2 : x2 < 18446744073709551616) (hi : i < 65536) (hj : j < 65536) (w : World) (hT : TabW w) (h5 : TabN w.heap.size) :
    Calls Tryd.prog 7 #[.int .u8 (k : Int), .agg #[.int .u64 (x0 : Int), .int .u64 (x1 : Int), .int .u64 (x2 : Int)], .agg #[.int .u16 (i : Int), .int .u16 (j : Int)]] w fun e w' => e = .returned (.bool true) ∧ Below w.heap.size w w' := by
  have HS' := Lib.hid HS
  clear HS
  have TT := Lib.hid hT
  clear hT
  go_enter Tryd.func7, Tryd.ntmps7
  have B0 : Below w.heap.size w ((w.alloc (.cells #[.int .u64 (x0 : Int), .int .u64 (x1 : Int), .int .u64 (x2 : Int)] 49)).alloc (.cells #[.int .u16 (i : Int), .int .u16 (j : Int)] 57)) := ((Below.refl _ _).alloc (Nat.le_refl _) _).alloc (by simp) _
  have X0 := (Arr3.new w (.int .u64 (x0 : Int)) (.int .u64 (x1 : Int)) (.int .u64 (x2 : Int)) 49).after ((Below.refl _ _).alloc (Nat.le_refl _) (.cells #[.int .u16 (i : Int), .int .u16 (j : Int)] 57))
  have Y0 := Slot2.new (w.alloc (.cells #[.int .u64 (x0 : Int), .int .u64 (x1 : Int), .int .u64 (x2 : Int)] 49)) (.int .u16 (i : Int)) (.int .u16 (j : Int)) 57
  rw [World.size_alloc] at Y0
  go_wp2_with fail
  refine (HS'.out _ (TT.out.below B0 h5) (h5.le B0.size)).mono ?_
  rintro e w1 ⟨rfl, hb1⟩
  have B1 := B0.trans (hb1.mono B0.size)
  have X1 := X0.after hb1
  have Y1 := Y0.after hb1
  go_wp2_with fail
  refine (pmade_r k _ hk).mono ?_
  rintro e w2 ⟨p, rfl, HP, hp, hp2, hb2⟩
  have B2 := B1.trans (hb2.mono B1.size)
  have ⟨c0, c1, c2, _⟩ := X1.after hb2
  have Y2 := Y1.after hb2
  have hp0 : 0 < p := by omega
  have hpb : ((p : Int) == 0) = false := by simp; omega
  obtain ⟨a, ha⟩ : ∃ a, a = x0 % p := ⟨_, rfl⟩
  have hal : a < p := by rw [ha]; exact Nat.mod_lt _ hp0
  have ea : (x0 : Int) % (p : Int) = (a : Int) := by rw [ha, Int.natCast_emod]
  obtain ⟨b, hb⟩ : ∃ b, b = x1 % p := ⟨_, rfl⟩
  have hbl : b < p := by rw [hb]; exact Nat.mod_lt _ hp0
  have eb : (x1 : Int) % (p : Int) = (b : Int) := by rw [hb, Int.natCast_emod]
  obtain ⟨c, hc⟩ : ∃ c, c = x2 % p := ⟨_, rfl⟩
  have hcl : c < p := by rw [hc]; exact Nat.mod_lt _ hp0
  have ec : (x2 : Int) % (p : Int) = (c : Int) := by rw [hc, Int.natCast_emod]
  clear ha hb hc X0 Y0 X1 Y1 B0
  go_wp2_with fail
  refine (mmul_r p a b _ hp0 hp hal hbl).mono ?_
  rintro e w3 ⟨m, rfl, Hm, lm, hb3⟩
  have B3 := B2.trans (hb3.mono B2.size)
  have Y3 := Y2.after hb3
  clear Y2 B2 hb3
  go_wp2_with fail
  refine (madd_r p a b _ hp0 hp hal hbl).mono ?_
  rintro e w4 ⟨s, rfl, Hs, ls, hb4⟩
  have B4 := B3.trans (hb4.mono B3.size)
  have Y4 := Y3.after hb4
  clear Y3 B3 hb4
  go_wp2_with fail
  refine (mmul_r p b a _ hp0 hp hbl hal).mono ?_
  rintro e w5 ⟨r5, rfl, Hr5, lr5, hb5⟩
  have B5 := B4.trans (hb5.mono B4.size)
  have Y5 := Y4.after hb5
  clear Y4 B4 hb5
  obtain rfl : m = r5 := by rw [Hr5.out, Hm.out, Nat.mul_comm]
  go_wp2_with fail
  refine (madd_r p b a _ hp0 hp hbl hal).mono ?_
  rintro e w6 ⟨r6, rfl, Hr6, lr6, hb6⟩
  have B6 := B5.trans (hb6.mono B5.size)
  have Y6 := Y5.after hb6
  clear Y5 B5 hb6
  obtain rfl : s = r6 := by rw [Hr6.out, Hs.out, Nat.add_comm]
  go_wp2_with fail
  refine (mmul_r p m c _ hp0 hp lm hcl).mono ?_
  rintro e w7 ⟨u, rfl, Hu, lu, hb7⟩
  have B7 := B6.trans (hb7.mono B6.size)
  have Y7 := Y6.after hb7
  clear Y6 B6 hb7
  go_wp2_with fail
  refine (mmul_r p b c _ hp0 hp hbl hcl).mono ?_
  rintro e w8 ⟨v, rfl, Hv, lv, hb8⟩
  have B8 := B7.trans (hb8.mono B7.size)
  have Y8 := Y7.after hb8
  clear Y7 B7 hb8
  go_wp2_with fail
  refine (mmul_r p a v _ hp0 hp hal lv).mono ?_
  rintro e w9 ⟨r9, rfl, Hr9, lr9, hb9⟩
  have B9 := B8.trans (hb9.mono B8.size)
  have Y9 := Y8.after hb9
  clear Y8 B8 hb9
  obtain rfl : u = r9 := by rw [Hr9.out, Hu.out, Hv.out, Hm.out, l_assoc]
  go_wp2_with fail
  refine (mmul_r p s c _ hp0 hp ls hcl).mono ?_
  rintro e w10 ⟨t1, rfl, Ht1, lt1, hb10⟩
  have B10 := B9.trans (hb10.mono B9.size)
  have Y10 := Y9.after hb10
  clear Y9 B9 hb10
  go_wp2_with fail
  refine (mmul_r p a c _ hp0 hp hal hcl).mono ?_
  rintro e w11 ⟨t2, rfl, Ht2, lt2, hb11⟩
  have B11 := B10.trans (hb11.mono B10.size)
  have Y11 := Y10.after hb11
  clear Y10 B10 hb11
  go_wp2_with fail
  refine (mmul_r p b c _ hp0 hp hbl hcl).mono ?_
  rintro e w12 ⟨v2, rfl, Hv2, lv2, hb12⟩
  have B12 := B11.trans (hb12.mono B11.size)
  have Y12 := Y11.after hb12
  clear Y11 B11 hb12
  go_wp2_with fail
  refine (madd_r p t2 v2 _ hp0 hp lt2 lv2).mono ?_
  rintro e w13 ⟨r13, rfl, Hr13, lr13, hb13⟩
  have B13 := B12.trans (hb13.mono B12.size)
  have Y13 := Y12.after hb13
  clear Y12 B12 hb13
  obtain rfl : t1 = r13 := by rw [Hr13.out, Ht1.out, Ht2.out, Hv2.out, Hs.out, l_dist]
  go_wp2_with fail
  refine (msub_r p s b _ hp0 hp ls hbl).mono ?_
  rintro e w14 ⟨r14, rfl, Hr14, lr14, hb14⟩
  have B14 := B13.trans (hb14.mono B13.size)
  have Y14 := Y13.after hb14
  clear Y13 B13 hb14
  obtain rfl : a = r14 := by rw [Hr14.out, Hs.out, l_sub p a b hal hbl]
  go_wp2_with fail
  refine (mmul_r p a 1 _ hp0 hp hal (by omega)).mono ?_
  rintro e w15 ⟨r15, rfl, Hr15, lr15, hb15⟩
  have B15 := B14.trans (hb15.mono B14.size)
  have Y15 := Y14.after hb15
  clear Y14 B14 hb15
  obtain rfl : a = r15 := by rw [Hr15.out, l_one p a hal]
  have ⟨y0, y1, _, _, _⟩ := Y15
  go_wp2_with fail
  refine (mpow_r p a i _ hp0 hp hal (by omega)).mono ?_
  rintro e w16 ⟨q1, rfl, Hq1, lq1, hb16⟩
  have B16 := B15.trans (hb16.mono B15.size)
  have Y16 := Y15.after hb16
  clear Y15 B15 hb16
  go_wp2_with fail
  refine (mpow_r p a j _ hp0 hp hal (by omega)).mono ?_
  rintro e w17 ⟨q2, rfl, Hq2, lq2, hb17⟩
  have B17 := B16.trans (hb17.mono B16.size)
  have Y17 := Y16.after hb17
  clear Y16 B16 hb17
  have eij : ((i + j : Nat) : Int) = (i : Int) + j := by omega
  have EIJ := Lib.hid eij
  clear eij
  go_wp2_with fail
  refine (mmul_r p q1 q2 _ hp0 hp lq1 lq2).mono ?_
  rintro e w18 ⟨q3, rfl, Hq3, lq3, hb18⟩
  have B18 := B17.trans (hb18.mono B17.size)
  have Y18 := Y17.after hb18
  clear Y17 B17 hb18
  go_wp2_with fail
  rw [← EIJ.out]
  refine (mpow_r p a (i + j) _ hp0 hp hal (by omega)).mono ?_
  rintro e w19 ⟨q4, rfl, Hq4, lq4, hb19⟩
  have B19 := B18.trans (hb19.mono B18.size)
  have Y19 := Y18.after hb19
  clear Y18 B18 hb19
  obtain rfl : q3 = q4 := by rw [Hq4.out, Hq3.out, Hq1.out, Hq2.out, l_pow]
  go_wp2_with fail
  by_cases a0 : a = 0
  · refine (minv_z p a _ hp2 a0).mono ?_
    rintro e w20 ⟨rfl, hb20⟩
    subst a0
    go_wp2_with fail
    go_ret
    exact ⟨rfl, B19.trans (hb20.mono B19.size)⟩
  · have ab : ((a : Int) == 0) = false := by simp; omega
    have hpm : IntKind.u64.wrap ((p : Int) - 1) = ((p - 1 : Nat) : Int) := by rw [IntKind.wrap_u64]; omega
    have HF := Lib.hid (Go.Proofs.YtnlmdjbakcjhbaaDoor.fermat HP.out (by omega) hal)
    refine (minv_r p a _ HP.out hp hal (by omega)).mono ?_
    rintro e w20 ⟨d, rfl, HD, d0, dl, hb20⟩
    have B20 := B19.trans (hb20.mono B19.size)
    go_wp2_with fail
    refine (mmul_r p a d _ hp0 hp hal dl).mono ?_
    rintro e w21 ⟨o1, rfl, Ho1, lo1, hb21⟩
    have B21 := B20.trans (hb21.mono B20.size)
    obtain rfl : 1 = o1 := by rw [Ho1.out, HD.out.2.2]
    go_wp2_with fail
    refine (mpow_r p a (p - 1) _ hp0 hp hal (by omega)).mono ?_
    rintro e w22 ⟨o2, rfl, Ho2, lo2, hb22⟩
    have B22 := B21.trans (hb22.mono B21.size)
    obtain rfl : 1 = o2 := by rw [Ho2.out, HF.out]
    go_wp2_with fail
    go_ret
    exact ⟨rfl, B22⟩
end Go.Proofs.YtnlmdjbakcjhbaaDoor
