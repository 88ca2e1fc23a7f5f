/- The law's fixed examples. -/
import Derived.Test.YtnlmdjbakcjhbaaDoorVSanA
import Derived.Test.YtnlmdjbakcjhbaaDoorVSanB
import Derived.Test.YtnlmdjbakcjhbaaDoorVSanC
namespace Go.Proofs.YtnlmdjbakcjhbaaDoor
open Go.RowKit
set_option maxRecDepth 1000000 in
set_option maxHeartbeats 8000000 in
theorem sanity_any (w : World) :
    Calls Tryd.prog 9 #[] w fun e w' => e = .returned (.bool true) ∧ Below w.heap.size w w' := by
  go_enter Tryd.func9, Tryd.ntmps9
  go_wp2_with fail
  refine (of_any (-7) w (by decide) (by decide)).mono ?_
  rintro e w1 ⟨g1, A1, n1, c1, rfl, hi1, hb1⟩
  have BG1 := (bag_nil w).after hb1
  have BB1 := (Below.refl w.heap.size w).trans (hb1.mono (Below.refl w.heap.size w).size)
  go_wp2_with fail
  refine (of_any (2) w1 (by decide) (by decide)).mono ?_
  rintro e w2 ⟨g2, A2, n2, c2, rfl, hi2, hb2⟩
  have BG2 := BG1.after hb2
  have BB2 := BB1.trans (hb2.mono BB1.size)
  clear BG1 BB1
  replace hi1 := hi1.below hb2
  go_wp2_with fail
  refine (dmW_any _ _ _ _ _ _ _ _ (-7) (2) w2 hi1 hi2 (by decide) (hi1.two (by decide)) (hi2.two (by decide))).mono ?_
  rintro e w3 ⟨g3, A3, n3, c3, g3', A3', n3', c3', rfl, hi3, hi3', hb3⟩
  rw [show ((-7) : Int) / (2) = -4 from by decide] at hi3
  rw [show ((-7) : Int) % (2) = 1 from by decide] at hi3'
  have BG3 := BG2.after hb3
  have BB3 := BB2.trans (hb3.mono BB2.size)
  clear BG2 BB2
  clear hi1 hi2 hb1 hb2 hb3
  have D1_0 := below_new w3 (.cells #[.bool g3, .slice A3 n3 c3] 27)
  have BG1a0 := BG3.new hi3
  have BB1a0 := BB3.trans (D1_0.mono BB3.size)
  replace hi3' := hi3'.below D1_0
  have D1_1 := below_new (w3.alloc (.cells #[.bool g3, .slice A3 n3 c3] 27)) (.cells #[.bool g3', .slice A3' n3' c3'] 27)
  have BG1a1 := BG1a0.new hi3'
  have BB1a1 := BB1a0.trans (D1_1.mono BB1a0.size)
  have BG1 : Bag ((w3.alloc (.cells #[.bool g3, .slice A3 n3 c3] 27)).alloc (.cells #[.bool g3', .slice A3' n3' c3'] 27)) [(w3.heap.size + 1, 1), (w3.heap.size, -4)] := by have h := BG1a1; (try simp only [World.size_alloc] at h); exact h
  have BB1 := BB1a1
  generalize hW1 : ((w3.alloc (.cells #[.bool g3, .slice A3 n3 c3] 27)).alloc (.cells #[.bool g3', .slice A3' n3' c3'] 27)) = W1 at BG1 BB1
  have HW1 := Lib.hid hW1
  clear D1_0 D1_1 BG1a0 BB1a0 BG1a1 BB1a1 BG3 BB3 hW1 hi3 hi3'
  go_wp2_with fail
  rw [HW1.out]
  clear HW1
  refine (of_any (7) W1 (by decide) (by decide)).mono ?_
  rintro e w4 ⟨g4, A4, n4, c4, rfl, hi4, hb4⟩
  have BG4 := BG1.after hb4
  have BB4 := BB1.trans (hb4.mono BB1.size)
  clear BG1 BB1
  go_wp2_with fail
  refine (of_any (-2) w4 (by decide) (by decide)).mono ?_
  rintro e w5 ⟨g5, A5, n5, c5, rfl, hi5, hb5⟩
  have BG5 := BG4.after hb5
  have BB5 := BB4.trans (hb5.mono BB4.size)
  clear BG4 BB4
  replace hi4 := hi4.below hb5
  go_wp2_with fail
  refine (dmW_any _ _ _ _ _ _ _ _ (7) (-2) w5 hi4 hi5 (by decide) (hi4.two (by decide)) (hi5.two (by decide))).mono ?_
  rintro e w6 ⟨g6, A6, n6, c6, g6', A6', n6', c6', rfl, hi6, hi6', hb6⟩
  rw [show ((7) : Int) / (-2) = -3 from by decide] at hi6
  rw [show ((7) : Int) % (-2) = 1 from by decide] at hi6'
  have BG6 := BG5.after hb6
  have BB6 := BB5.trans (hb6.mono BB5.size)
  clear BG5 BB5
  clear hi4 hi5 hb4 hb5 hb6
  have D2_0 := below_new w6 (.cells #[.bool g6, .slice A6 n6 c6] 27)
  have BG2a0 := BG6.new hi6
  have BB2a0 := BB6.trans (D2_0.mono BB6.size)
  replace hi6' := hi6'.below D2_0
  have D2_1 := below_new (w6.alloc (.cells #[.bool g6, .slice A6 n6 c6] 27)) (.cells #[.bool g6', .slice A6' n6' c6'] 27)
  have BG2a1 := BG2a0.new hi6'
  have BB2a1 := BB2a0.trans (D2_1.mono BB2a0.size)
  have BG2 : Bag ((w6.alloc (.cells #[.bool g6, .slice A6 n6 c6] 27)).alloc (.cells #[.bool g6', .slice A6' n6' c6'] 27)) [(w6.heap.size + 1, 1), (w6.heap.size, -3), (w3.heap.size + 1, 1), (w3.heap.size, -4)] := by have h := BG2a1; (try simp only [World.size_alloc] at h); exact h
  have BB2 := BB2a1
  generalize hW2 : ((w6.alloc (.cells #[.bool g6, .slice A6 n6 c6] 27)).alloc (.cells #[.bool g6', .slice A6' n6' c6'] 27)) = W2 at BG2 BB2
  have HW2 := Lib.hid hW2
  clear D2_0 D2_1 BG2a0 BB2a0 BG2a1 BB2a1 BG6 BB6 hW2 hi6 hi6'
  go_wp2_with fail
  rw [HW2.out]
  clear HW2
  refine (of_any (7) W2 (by decide) (by decide)).mono ?_
  rintro e w7 ⟨g7, A7, n7, c7, rfl, hi7, hb7⟩
  have BG7 := BG2.after hb7
  have BB7 := BB2.trans (hb7.mono BB2.size)
  clear BG2 BB2
  go_wp2_with fail
  refine (of_any (0) w7 (by decide) (by decide)).mono ?_
  rintro e w8 ⟨g8, A8, n8, c8, rfl, hi8, hb8⟩
  have BG8 := BG7.after hb8
  have BB8 := BB7.trans (hb8.mono BB7.size)
  clear BG7 BB7
  replace hi7 := hi7.below hb8
  go_wp2_with fail
  refine (dmz_any _ _ _ _ _ _ _ _ (7) w8 hi7 hi8).mono ?_
  rintro e w9 ⟨g9, A9, n9, c9, g9', A9', n9', c9', rfl, hi9, hi9', hb9⟩
  have BG9 := BG8.after hb9
  have BB9 := BB8.trans (hb9.mono BB8.size)
  clear BG8 BB8
  clear hi7 hi8 hb7 hb8 hb9
  have D3_0 := below_new w9 (.cells #[.bool g9, .slice A9 n9 c9] 27)
  have BG3a0 := BG9.after D3_0
  have BB3a0 := BB9.trans (D3_0.mono BB9.size)
  replace hi9' := hi9'.below D3_0
  have D3_1 := below_new (w9.alloc (.cells #[.bool g9, .slice A9 n9 c9] 27)) (.cells #[.bool g9', .slice A9' n9' c9'] 27)
  have BG3a1 := BG3a0.after D3_1
  have BB3a1 := BB3a0.trans (D3_1.mono BB3a0.size)
  have BG3 : Bag ((w9.alloc (.cells #[.bool g9, .slice A9 n9 c9] 27)).alloc (.cells #[.bool g9', .slice A9' n9' c9'] 27)) [(w6.heap.size + 1, 1), (w6.heap.size, -3), (w3.heap.size + 1, 1), (w3.heap.size, -4)] := by have h := BG3a1; (try simp only [World.size_alloc] at h); exact h
  have BB3 := BB3a1
  generalize hW3 : ((w9.alloc (.cells #[.bool g9, .slice A9 n9 c9] 27)).alloc (.cells #[.bool g9', .slice A9' n9' c9'] 27)) = W3 at BG3 BB3
  have HW3 := Lib.hid hW3
  clear D3_0 D3_1 BG3a0 BB3a0 BG3a1 BB3a1 BG9 BB9 hW3 hi9 hi9'
  go_wp2_with fail
  rw [HW3.out]
  clear HW3
  refine (of_any (2) W3 (by decide) (by decide)).mono ?_
  rintro e w10 ⟨g10, A10, n10, c10, rfl, hi10, hb10⟩
  have BG10 := BG3.after hb10
  have BB10 := BB3.trans (hb10.mono BB3.size)
  clear BG3 BB3
  go_wp2_with fail
  refine (pow_any _ _ _ _ 32 2 w10 hi10 (by have := hi10.two (by decide); omega) (by decide)).mono ?_
  rintro e w11 ⟨g11, A11, n11, c11, rfl, hi11, hb11⟩
  have BG11 := BG10.after hb11
  have BB11 := BB10.trans (hb11.mono BB10.size)
  clear BG10 BB10
  rw [show ((2 : Int) ^ 32) = 4294967296 from by decide] at hi11
  clear hi10 hb10 hb11
  have D4_0 := below_new w11 (.cells #[.bool g11, .slice A11 n11 c11] 27)
  have BG4a0 := BG11.new hi11
  have BB4a0 := BB11.trans (D4_0.mono BB11.size)
  have BG4 : Bag (w11.alloc (.cells #[.bool g11, .slice A11 n11 c11] 27)) [(w11.heap.size, 4294967296), (w6.heap.size + 1, 1), (w6.heap.size, -3), (w3.heap.size + 1, 1), (w3.heap.size, -4)] := by have h := BG4a0; (try simp only [World.size_alloc] at h); exact h
  have BB4 := BB4a0
  generalize hW4 : (w11.alloc (.cells #[.bool g11, .slice A11 n11 c11] 27)) = W4 at BG4 BB4
  have HW4 := Lib.hid hW4
  clear D4_0 BG4a0 BB4a0 BG11 BB11 hW4 hi11
  go_wp2_with fail
  rw [HW4.out]
  clear HW4
  refine (of_any (2) W4 (by decide) (by decide)).mono ?_
  rintro e w12 ⟨g12, A12, n12, c12, rfl, hi12, hb12⟩
  have BG12 := BG4.after hb12
  have BB12 := BB4.trans (hb12.mono BB4.size)
  clear BG4 BB4
  go_wp2_with fail
  refine (pow_bad _ _ _ _ 257 w12 (by decide)).mono ?_
  rintro e w13 ⟨g13, A13, n13, c13, rfl, hi13, hb13⟩
  have BG13 := BG12.after hb13
  have BB13 := BB12.trans (hb13.mono BB12.size)
  clear BG12 BB12
  clear hi12 hb12 hb13
  have D5_0 := below_new w13 (.cells #[.bool g13, .slice A13 n13 c13] 27)
  have BG5a0 := BG13.after D5_0
  have BB5a0 := BB13.trans (D5_0.mono BB13.size)
  have BG5 : Bag (w13.alloc (.cells #[.bool g13, .slice A13 n13 c13] 27)) [(w11.heap.size, 4294967296), (w6.heap.size + 1, 1), (w6.heap.size, -3), (w3.heap.size + 1, 1), (w3.heap.size, -4)] := by have h := BG5a0; (try simp only [World.size_alloc] at h); exact h
  have BB5 := BB5a0
  generalize hW5 : (w13.alloc (.cells #[.bool g13, .slice A13 n13 c13] 27)) = W5 at BG5 BB5
  have HW5 := Lib.hid hW5
  clear D5_0 BG5a0 BB5a0 BG13 BB13 hW5 hi13
  go_wp2_with fail
  rw [HW5.out]
  clear HW5
  refine (read_bad ⟨#[45, 48]⟩ W5 (by decide) no_m0).mono ?_
  rintro e w14 ⟨g14, A14, n14, c14, rfl, hi14, hb14⟩
  have BG14 := BG5.after hb14
  have BB14 := BB5.trans (hb14.mono BB5.size)
  clear BG5 BB5
  clear hb14
  have D6_0 := below_new w14 (.cells #[.bool g14, .slice A14 n14 c14] 27)
  have BG6a0 := BG14.after D6_0
  have BB6a0 := BB14.trans (D6_0.mono BB14.size)
  have BG6 : Bag (w14.alloc (.cells #[.bool g14, .slice A14 n14 c14] 27)) [(w11.heap.size, 4294967296), (w6.heap.size + 1, 1), (w6.heap.size, -3), (w3.heap.size + 1, 1), (w3.heap.size, -4)] := by have h := BG6a0; (try simp only [World.size_alloc] at h); exact h
  have BB6 := BB6a0
  generalize hW6 : (w14.alloc (.cells #[.bool g14, .slice A14 n14 c14] 27)) = W6 at BG6 BB6
  have HW6 := Lib.hid hW6
  clear D6_0 BG6a0 BB6a0 BG14 BB14 hW6 hi14
  go_wp2_with fail
  rw [HW6.out]
  clear HW6
  refine (read_bad ⟨#[48, 48, 55]⟩ W6 (by decide) no_007).mono ?_
  rintro e w15 ⟨g15, A15, n15, c15, rfl, hi15, hb15⟩
  have BG15 := BG6.after hb15
  have BB15 := BB6.trans (hb15.mono BB6.size)
  clear BG6 BB6
  clear hb15
  have D7_0 := below_new w15 (.cells #[.bool g15, .slice A15 n15 c15] 27)
  have BG7a0 := BG15.after D7_0
  have BB7a0 := BB15.trans (D7_0.mono BB15.size)
  have BG7 : Bag (w15.alloc (.cells #[.bool g15, .slice A15 n15 c15] 27)) [(w11.heap.size, 4294967296), (w6.heap.size + 1, 1), (w6.heap.size, -3), (w3.heap.size + 1, 1), (w3.heap.size, -4)] := by have h := BG7a0; (try simp only [World.size_alloc] at h); exact h
  have BB7 := BB7a0
  generalize hW7 : (w15.alloc (.cells #[.bool g15, .slice A15 n15 c15] 27)) = W7 at BG7 BB7
  have HW7 := Lib.hid hW7
  clear D7_0 BG7a0 BB7a0 BG15 BB15 hW7 hi15
  go_wp2_with fail
  rw [HW7.out]
  clear HW7
  refine (read_ok ⟨#[45, 55]⟩ W7 (by decide) yes_m7.1).mono ?_
  rintro e w16 ⟨g16, A16, n16, c16, rfl, hi16, hb16⟩
  have BG16 := BG7.after hb16
  have BB16 := BB7.trans (hb16.mono BB7.size)
  clear BG7 BB7
  rw [yes_m7.2] at hi16
  clear hb16
  have D8_0 := below_new w16 (.cells #[.bool g16, .slice A16 n16 c16] 27)
  have BG8a0 := BG16.new hi16
  have BB8a0 := BB16.trans (D8_0.mono BB16.size)
  have BG8 : Bag (w16.alloc (.cells #[.bool g16, .slice A16 n16 c16] 27)) [(w16.heap.size, -7), (w11.heap.size, 4294967296), (w6.heap.size + 1, 1), (w6.heap.size, -3), (w3.heap.size + 1, 1), (w3.heap.size, -4)] := by have h := BG8a0; (try simp only [World.size_alloc] at h); exact h
  have BB8 := BB8a0
  generalize hW8 : (w16.alloc (.cells #[.bool g16, .slice A16 n16 c16] 27)) = W8 at BG8 BB8
  have HW8 := Lib.hid hW8
  clear D8_0 BG8a0 BB8a0 BG16 BB16 hW8 hi16
  go_wp2_with fail
  rw [HW8.out]
  clear HW8
  refine (read_bad ⟨#[]⟩ W8 (by decide) no_nil).mono ?_
  rintro e w17 ⟨g17, A17, n17, c17, rfl, hi17, hb17⟩
  have BG17 := BG8.after hb17
  have BB17 := BB8.trans (hb17.mono BB8.size)
  clear BG8 BB8
  clear hb17
  have D9_0 := below_new w17 (.cells #[.bool g17, .slice A17 n17 c17] 27)
  have BG9a0 := BG17.after D9_0
  have BB9a0 := BB17.trans (D9_0.mono BB17.size)
  have BG9 : Bag (w17.alloc (.cells #[.bool g17, .slice A17 n17 c17] 27)) [(w16.heap.size, -7), (w11.heap.size, 4294967296), (w6.heap.size + 1, 1), (w6.heap.size, -3), (w3.heap.size + 1, 1), (w3.heap.size, -4)] := by have h := BG9a0; (try simp only [World.size_alloc] at h); exact h
  have BB9 := BB9a0
  generalize hW9 : (w17.alloc (.cells #[.bool g17, .slice A17 n17 c17] 27)) = W9 at BG9 BB9
  have HW9 := Lib.hid hW9
  clear D9_0 BG9a0 BB9a0 BG17 BB17 hW9 hi17
  go_wp2_with fail
  rw [HW9.out]
  clear HW9
  refine (of_any (-9223372036854775808) W9 (by decide) (by decide)).mono ?_
  rintro e w18 ⟨g18, A18, n18, c18, rfl, hi18, hb18⟩
  have BG18 := BG9.after hb18
  have BB18 := BB9.trans (hb18.mono BB9.size)
  clear BG9 BB9
  go_wp2_with fail
  refine (small_yes _ _ _ _ (-9223372036854775808) w18 hi18 (by decide) (by decide)).mono ?_
  rintro e w19 ⟨rfl, hb19⟩
  have BG19 := BG18.after hb19
  have BB19 := BB18.trans (hb19.mono BB18.size)
  clear BG18 BB18
  clear hi18 hb18 hb19
  obtain ⟨gp, Ap, np, cp, SP, hip⟩ := BG19 (w11.heap.size, 4294967296) (by simp)
  have ⟨lp0, lp1⟩ := SP.two
  clear SP
  go_wp2_with fail
  refine (small_yes _ _ _ _ 4294967296 w19 hip (by decide) (by decide)).mono ?_
  rintro e w20 ⟨rfl, hb20⟩
  have BG20 := BG19.after hb20
  have BB20 := BB19.trans (hb20.mono BB19.size)
  clear BG19 BB19
  clear lp0 lp1 hip hb20
  go_wp2_with fail
  refine (of_any (6) w20 (by decide) (by decide)).mono ?_
  rintro e w21 ⟨g21, A21, n21, c21, rfl, hi21, hb21⟩
  have BG21 := BG20.after hb21
  have BB21 := BB20.trans (hb21.mono BB20.size)
  clear BG20 BB20
  go_wp2_with fail
  refine (of_any (4) w21 (by decide) (by decide)).mono ?_
  rintro e w22 ⟨g22, A22, n22, c22, rfl, hi22, hb22⟩
  have BG22 := BG21.after hb22
  have BB22 := BB21.trans (hb22.mono BB21.size)
  clear BG21 BB21
  replace hi21 := hi21.below hb22
  go_wp2_with fail
  refine (ext64 _ _ _ _ _ _ _ _ w22 hi21 hi22).mono ?_
  rintro e w23 ⟨s23, t23, g23x, A23x, n23x, c23x, g23y, A23y, n23y, c23y, g23z, A23z, n23z, c23z, rfl, hi23x, hi23y, hi23z, hb23⟩
  have BG23 := BG22.after hb23
  have BB23 := BB22.trans (hb23.mono BB22.size)
  clear BG22 BB22
  clear hi21 hi22 hb21 hb22 hb23
  have D10_0 := below_new w23 (.cells #[.bool g23x, .slice A23x n23x c23x] 27)
  have BG10a0 := BG23.new hi23x
  have BB10a0 := BB23.trans (D10_0.mono BB23.size)
  replace hi23y := hi23y.below D10_0
  replace hi23z := hi23z.below D10_0
  have D10_1 := below_new (w23.alloc (.cells #[.bool g23x, .slice A23x n23x c23x] 27)) (.cells #[.bool g23y, .slice A23y n23y c23y] 27)
  have BG10a1 := BG10a0.after D10_1
  have BB10a1 := BB10a0.trans (D10_1.mono BB10a0.size)
  replace hi23z := hi23z.below D10_1
  have D10_2 := below_new ((w23.alloc (.cells #[.bool g23x, .slice A23x n23x c23x] 27)).alloc (.cells #[.bool g23y, .slice A23y n23y c23y] 27)) (.cells #[.bool g23z, .slice A23z n23z c23z] 27)
  have BG10a2 := BG10a1.after D10_2
  have BB10a2 := BB10a1.trans (D10_2.mono BB10a1.size)
  have BG10 : Bag (((w23.alloc (.cells #[.bool g23x, .slice A23x n23x c23x] 27)).alloc (.cells #[.bool g23y, .slice A23y n23y c23y] 27)).alloc (.cells #[.bool g23z, .slice A23z n23z c23z] 27)) [(w23.heap.size, 2), (w16.heap.size, -7), (w11.heap.size, 4294967296), (w6.heap.size + 1, 1), (w6.heap.size, -3), (w3.heap.size + 1, 1), (w3.heap.size, -4)] := by have h := BG10a2; (try simp only [World.size_alloc] at h); exact h
  have BB10 := BB10a2
  generalize hW10 : (((w23.alloc (.cells #[.bool g23x, .slice A23x n23x c23x] 27)).alloc (.cells #[.bool g23y, .slice A23y n23y c23y] 27)).alloc (.cells #[.bool g23z, .slice A23z n23z c23z] 27)) = W10 at BG10 BB10
  have HW10 := Lib.hid hW10
  clear D10_0 D10_1 D10_2 BG10a0 BB10a0 BG10a1 BB10a1 BG10a2 BB10a2 BG23 BB23 hW10 hi23x hi23y hi23z
  go_wp2_with fail
  rw [HW10.out]
  clear HW10
  refine (of_any (0) W10 (by decide) (by decide)).mono ?_
  rintro e w24 ⟨g24, A24, n24, c24, rfl, hi24, hb24⟩
  have BG24 := BG10.after hb24
  have BB24 := BB10.trans (hb24.mono BB10.size)
  clear BG10 BB10
  go_wp2_with fail
  refine (of_any (-5) w24 (by decide) (by decide)).mono ?_
  rintro e w25 ⟨g25, A25, n25, c25, rfl, hi25, hb25⟩
  have BG25 := BG24.after hb25
  have BB25 := BB24.trans (hb25.mono BB24.size)
  clear BG24 BB24
  replace hi24 := hi24.below hb25
  go_wp2_with fail
  refine (ext05 _ _ _ _ _ _ _ _ w25 hi24 hi25).mono ?_
  rintro e w26 ⟨s26, g26x, A26x, n26x, c26x, g26y, A26y, n26y, c26y, g26z, A26z, n26z, c26z, rfl, hi26x, hi26y, hi26z, hb26⟩
  have BG26 := BG25.after hb26
  have BB26 := BB25.trans (hb26.mono BB25.size)
  clear BG25 BB25
  clear hi24 hi25 hb24 hb25 hb26
  have D11_0 := below_new w26 (.cells #[.bool g26x, .slice A26x n26x c26x] 27)
  have BG11a0 := BG26.new hi26x
  have BB11a0 := BB26.trans (D11_0.mono BB26.size)
  replace hi26y := hi26y.below D11_0
  replace hi26z := hi26z.below D11_0
  have D11_1 := below_new (w26.alloc (.cells #[.bool g26x, .slice A26x n26x c26x] 27)) (.cells #[.bool g26y, .slice A26y n26y c26y] 27)
  have BG11a1 := BG11a0.after D11_1
  have BB11a1 := BB11a0.trans (D11_1.mono BB11a0.size)
  replace hi26z := hi26z.below D11_1
  have D11_2 := below_new ((w26.alloc (.cells #[.bool g26x, .slice A26x n26x c26x] 27)).alloc (.cells #[.bool g26y, .slice A26y n26y c26y] 27)) (.cells #[.bool g26z, .slice A26z n26z c26z] 27)
  have BG11a2 := BG11a1.new hi26z
  have BB11a2 := BB11a1.trans (D11_2.mono BB11a1.size)
  have BG11 : Bag (((w26.alloc (.cells #[.bool g26x, .slice A26x n26x c26x] 27)).alloc (.cells #[.bool g26y, .slice A26y n26y c26y] 27)).alloc (.cells #[.bool g26z, .slice A26z n26z c26z] 27)) [(w26.heap.size + 1 + 1, -1), (w26.heap.size, 5), (w23.heap.size, 2), (w16.heap.size, -7), (w11.heap.size, 4294967296), (w6.heap.size + 1, 1), (w6.heap.size, -3), (w3.heap.size + 1, 1), (w3.heap.size, -4)] := by have h := BG11a2; (try simp only [World.size_alloc] at h); exact h
  have BB11 := BB11a2
  generalize hW11 : (((w26.alloc (.cells #[.bool g26x, .slice A26x n26x c26x] 27)).alloc (.cells #[.bool g26y, .slice A26y n26y c26y] 27)).alloc (.cells #[.bool g26z, .slice A26z n26z c26z] 27)) = W11 at BG11 BB11
  have HW11 := Lib.hid hW11
  clear D11_0 D11_1 D11_2 BG11a0 BB11a0 BG11a1 BB11a1 BG11a2 BB11a2 BG26 BB26 hW11 hi26x hi26y hi26z
  go_wp2_with fail
  rw [HW11.out]
  clear HW11
  refine (of_any (0) W11 (by decide) (by decide)).mono ?_
  rintro e w27 ⟨g27, A27, n27, c27, rfl, hi27, hb27⟩
  have BG27 := BG11.after hb27
  have BB27 := BB11.trans (hb27.mono BB11.size)
  clear BG11 BB11
  go_wp2_with fail
  refine (of_any (0) w27 (by decide) (by decide)).mono ?_
  rintro e w28 ⟨g28, A28, n28, c28, rfl, hi28, hb28⟩
  have BG28 := BG27.after hb28
  have BB28 := BB27.trans (hb28.mono BB27.size)
  clear BG27 BB27
  replace hi27 := hi27.below hb28
  go_wp2_with fail
  refine (extz_any _ _ _ _ _ _ _ _ w28 hi27 hi28).mono ?_
  rintro e w29 ⟨g29x, A29x, n29x, c29x, g29y, A29y, n29y, c29y, g29z, A29z, n29z, c29z, rfl, hi29x, hi29y, hi29z, hb29⟩
  have BG29 := BG28.after hb29
  have BB29 := BB28.trans (hb29.mono BB28.size)
  clear BG28 BB28
  clear hi27 hi28 hb27 hb28 hb29
  have D12_0 := below_new w29 (.cells #[.bool g29x, .slice A29x n29x c29x] 27)
  have BG12a0 := BG29.new hi29x
  have BB12a0 := BB29.trans (D12_0.mono BB29.size)
  replace hi29y := hi29y.below D12_0
  replace hi29z := hi29z.below D12_0
  have D12_1 := below_new (w29.alloc (.cells #[.bool g29x, .slice A29x n29x c29x] 27)) (.cells #[.bool g29y, .slice A29y n29y c29y] 27)
  have BG12a1 := BG12a0.new hi29y
  have BB12a1 := BB12a0.trans (D12_1.mono BB12a0.size)
  replace hi29z := hi29z.below D12_1
  have D12_2 := below_new ((w29.alloc (.cells #[.bool g29x, .slice A29x n29x c29x] 27)).alloc (.cells #[.bool g29y, .slice A29y n29y c29y] 27)) (.cells #[.bool g29z, .slice A29z n29z c29z] 27)
  have BG12a2 := BG12a1.new hi29z
  have BB12a2 := BB12a1.trans (D12_2.mono BB12a1.size)
  have BG12 : Bag (((w29.alloc (.cells #[.bool g29x, .slice A29x n29x c29x] 27)).alloc (.cells #[.bool g29y, .slice A29y n29y c29y] 27)).alloc (.cells #[.bool g29z, .slice A29z n29z c29z] 27)) [(w29.heap.size + 1 + 1, 0), (w29.heap.size + 1, 0), (w29.heap.size, 0), (w26.heap.size + 1 + 1, -1), (w26.heap.size, 5), (w23.heap.size, 2), (w16.heap.size, -7), (w11.heap.size, 4294967296), (w6.heap.size + 1, 1), (w6.heap.size, -3), (w3.heap.size + 1, 1), (w3.heap.size, -4)] := by have h := BG12a2; (try simp only [World.size_alloc] at h); exact h
  have BB12 := BB12a2
  generalize hW12 : (((w29.alloc (.cells #[.bool g29x, .slice A29x n29x c29x] 27)).alloc (.cells #[.bool g29y, .slice A29y n29y c29y] 27)).alloc (.cells #[.bool g29z, .slice A29z n29z c29z] 27)) = W12 at BG12 BB12
  have HW12 := Lib.hid hW12
  clear D12_0 D12_1 D12_2 BG12a0 BB12a0 BG12a1 BB12a1 BG12a2 BB12a2 BG29 BB29 hW12 hi29x hi29y hi29z
  go_wp2_with fail
  rw [HW12.out]
  clear HW12
  refine (of_any (17) W12 (by decide) (by decide)).mono ?_
  rintro e w30 ⟨g30, A30, n30, c30, rfl, hi30, hb30⟩
  have BG30 := BG12.after hb30
  have BB30 := BB12.trans (hb30.mono BB12.size)
  clear BG12 BB12
  go_wp2_with fail
  refine (root17 _ _ _ _ w30 hi30).mono ?_
  rintro e w31 ⟨g31, A31, n31, c31, rfl, hi31, hb31⟩
  have BG31 := BG30.after hb31
  have BB31 := BB30.trans (hb31.mono BB30.size)
  clear BG30 BB30
  clear hi30 hb30 hb31
  have D13_0 := below_new w31 (.cells #[.bool g31, .slice A31 n31 c31] 27)
  have BG13a0 := BG31.new hi31
  have BB13a0 := BB31.trans (D13_0.mono BB31.size)
  have BG13 : Bag (w31.alloc (.cells #[.bool g31, .slice A31 n31 c31] 27)) [(w31.heap.size, 4), (w29.heap.size + 1 + 1, 0), (w29.heap.size + 1, 0), (w29.heap.size, 0), (w26.heap.size + 1 + 1, -1), (w26.heap.size, 5), (w23.heap.size, 2), (w16.heap.size, -7), (w11.heap.size, 4294967296), (w6.heap.size + 1, 1), (w6.heap.size, -3), (w3.heap.size + 1, 1), (w3.heap.size, -4)] := by have h := BG13a0; (try simp only [World.size_alloc] at h); exact h
  have BB13 := BB13a0
  generalize hW13 : (w31.alloc (.cells #[.bool g31, .slice A31 n31 c31] 27)) = W13 at BG13 BB13
  have HW13 := Lib.hid hW13
  clear D13_0 BG13a0 BB13a0 BG31 BB31 hW13 hi31
  go_wp2_with fail
  rw [HW13.out]
  clear HW13
  refine (of_any (-1) W13 (by decide) (by decide)).mono ?_
  rintro e w32 ⟨g32, A32, n32, c32, rfl, hi32, hb32⟩
  have BG32 := BG13.after hb32
  have BB32 := BB13.trans (hb32.mono BB13.size)
  clear BG13 BB13
  go_wp2_with fail
  refine (rootn_any _ _ _ _ (-1) w32 hi32 (by decide)).mono ?_
  rintro e w33 ⟨g33, A33, n33, c33, rfl, hi33, hb33⟩
  have BG33 := BG32.after hb33
  have BB33 := BB32.trans (hb33.mono BB32.size)
  clear BG32 BB32
  clear hi32 hb32 hb33
  have D14_0 := below_new w33 (.cells #[.bool g33, .slice A33 n33 c33] 27)
  have BG14a0 := BG33.after D14_0
  have BB14a0 := BB33.trans (D14_0.mono BB33.size)
  have BG14 : Bag (w33.alloc (.cells #[.bool g33, .slice A33 n33 c33] 27)) [(w31.heap.size, 4), (w29.heap.size + 1 + 1, 0), (w29.heap.size + 1, 0), (w29.heap.size, 0), (w26.heap.size + 1 + 1, -1), (w26.heap.size, 5), (w23.heap.size, 2), (w16.heap.size, -7), (w11.heap.size, 4294967296), (w6.heap.size + 1, 1), (w6.heap.size, -3), (w3.heap.size + 1, 1), (w3.heap.size, -4)] := by have h := BG14a0; (try simp only [World.size_alloc] at h); exact h
  have BB14 := BB14a0
  generalize hW14 : (w33.alloc (.cells #[.bool g33, .slice A33 n33 c33] 27)) = W14 at BG14 BB14
  have HW14 := Lib.hid hW14
  clear D14_0 BG14a0 BB14a0 BG33 BB33 hW14 hi33
  go_wp2_with fail
  rw [HW14.out]
  clear HW14
  go_cut [39] (fun s wx => s = .bool true ∧ Below W14.heap.size W14 wx)
  case first =>
    as_aux_lemma =>
      refine san_a (BG14 (w23.heap.size, 2) (by simp)) (BG14 (w26.heap.size, 5) (by simp)) (BG14 (w26.heap.size + 1 + 1, -1) (by simp)) (BG14 (w29.heap.size, 0) (by simp)) (BG14 (w29.heap.size + 1, 0) (by simp)) (BG14 (w29.heap.size + 1 + 1, 0) (by simp)) (BG14 (w31.heap.size, 4) (by simp)) ?_
      intros
      go_wp2_with fail
      go_meet
      exact ⟨rfl, by assumption⟩
  case rest =>
  obtain ⟨rfl, DC⟩ := hcut
  have BGc := BG14.after DC
  have BBc := BB14.trans (DC.mono BB14.size)
  clear DC BG14 BB14
  obtain ⟨Wc, rfl⟩ : ∃ x : World, x = wc := ⟨_, rfl⟩
  go_wp2_with fail
  go_cut [41] (fun s wx => s = .bool true ∧ Below Wc.heap.size Wc wx)
  case first =>
    as_aux_lemma =>
      refine san_b (BGc (w3.heap.size, -4) (by simp)) (BGc (w3.heap.size + 1, 1) (by simp)) (BGc (w6.heap.size, -3) (by simp)) (BGc (w6.heap.size + 1, 1) (by simp)) ?_
      intros
      go_wp2_with fail
      go_meet
      exact ⟨rfl, by assumption⟩
  case rest =>
  obtain ⟨rfl, DC⟩ := hcut
  have BGd := BGc.after DC
  have BBd := BBc.trans (DC.mono BBc.size)
  clear DC BGc BBc
  obtain ⟨Wd, rfl⟩ : ∃ x : World, x = wc := ⟨_, rfl⟩
  go_wp2_with fail
  go_cut [0] (fun s wx => s = .bool true ∧ Below Wd.heap.size Wd wx)
  case first =>
    as_aux_lemma =>
      refine san_c (BGd (w11.heap.size, 4294967296) (by simp)) (BGd (w16.heap.size, -7) (by simp)) ?_
      intros
      go_wp2_with fail
      go_meet
      exact ⟨rfl, by assumption⟩
  case rest =>
  obtain ⟨rfl, DC⟩ := hcut
  have BBe := BBd.trans (DC.mono BBd.size)
  go_wp2_with fail
  go_ret
  exact ⟨rfl, BBe⟩
end Go.Proofs.YtnlmdjbakcjhbaaDoor
