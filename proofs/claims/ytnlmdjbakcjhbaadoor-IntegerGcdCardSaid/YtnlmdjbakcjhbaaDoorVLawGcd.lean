/- The walk of the law IntegerGcd, given what its fixed examples return. -/
import Derived.Test.YtnlmdjbakcjhbaaDoorVLawGcdR
import Derived.RegionTactic
import Derived.ChangeAlike
namespace Go.Proofs.YtnlmdjbakcjhbaaDoor
open Go.RowKit
set_option maxRecDepth 1000000 in
set_option maxHeartbeats 4000000 in
theorem law_gcd (HS : SanOk) (A1 A2 A3 : Option Addr) (n1 c1 n2 c2 n3 c3 : Nat) (s1 s2 s3 : Bool) (xs ys zs : List Nat) (w : World) (ha : Lim w w.heap.size A1 n1 c1 xs) (hb : Lim w w.heap.size A2 n2 c2 ys) (hc : Lim w w.heap.size A3 n3 c3 zs) :
    Calls Tryd.prog 3 #[.agg #[.slice A1 n1 c1, .bool s1], .agg #[.slice A2 n2 c2, .bool s2], .agg #[.slice A3 n3 c3, .bool s3]] w fun e w' => e = .returned (.bool true) ∧ Below w.heap.size w w' := by
  have HS' := Lib.hid HS
  clear HS
  have hc1 := ha.cap
  have hc2 := hb.cap
  have hc3 := hc.cap
  obtain ⟨l1, hl1, hl12, hl1n⟩ := cut_len n1 6
  obtain ⟨l2, hl2, hl22, hl2n⟩ := cut_len n2 6
  obtain ⟨l3, hl3, hl32, hl3n⟩ := cut_len n3 2
  obtain ⟨B0, X0, Y0, Z0⟩ := frameR3' w (.slice A1 n1 c1) (.bool s1) (.slice A2 n2 c2) (.bool s2) (.slice A3 n3 c3) (.bool s3)
  have M1 := fun W (hW : Below w.heap.size w W) => made_any s1 A1 l1 c1 w.heap.size (xs.take l1) W ((ha.take l1 hl1n).below hW) hW.size
  have M2 := fun W (hW : Below w.heap.size w W) => made_any s2 A2 l2 c2 w.heap.size (ys.take l2) W ((hb.take l2 hl2n).below hW) hW.size
  have M3 := fun W (hW : Below w.heap.size w W) => made_any s3 A3 l3 c3 w.heap.size (zs.take l3) W ((hc.take l3 hl3n).below hW) hW.size
  have Za := Sz.cut s1 xs l1 6 ha.lt hl12 (by decide)
  have Zb := Sz.cut s2 ys l2 6 hb.lt hl22 (by decide)
  have Zc := Sz.cut s3 zs l3 2 hc.lt hl32 (by decide)
  generalize zOf s1 (val ((xs.take l1).take 12)) = a at M1 Za
  generalize zOf s2 (val ((ys.take l2).take 12)) = b at M2 Zb
  generalize zOf s3 (val ((zs.take l3).take 12)) = c at M3 Zc
  have HM1 := Lib.hid M1
  have HM2 := Lib.hid M2
  have HM3 := Lib.hid M3
  have HK1 := Lib.hid hl1
  have HK2 := Lib.hid hl2
  have HK3 := Lib.hid hl3
  have Zg := Sz.gcd Za Zb
  clear M1 M2 M3 ha hb hc hl1 hl2 hl3
  go_enter Tryd.func3, Tryd.ntmps3
  go_wp2_with fail
  refine (HS'.out _).mono ?_
  rintro e w1 ⟨rfl, hb1⟩
  have B1 := B0.trans (hb1.mono B0.size)
  have X1 := X0.after hb1
  have Y1 := Y0.after hb1
  have Z1 := Z0.after hb1
  clear X0 Y0 Z0 B0 hb1
  go_wp2_with fail
  obtain ⟨e1, e2⟩ := HK1.out
  obtain ⟨e3, e4⟩ := HK2.out
  obtain ⟨e5, e6⟩ := HK3.out
  have e1 : min (n1 : Int) 6 = (l1 : Int) := e1
  have e2 : (if (6 : Int) < n1 then (6 : Int) else n1) = (l1 : Int) := e2
  have e3 : min (n2 : Int) 6 = (l2 : Int) := e3
  have e4 : (if (6 : Int) < n2 then (6 : Int) else n2) = (l2 : Int) := e4
  have e5 : min (n3 : Int) 2 = (l3 : Int) := e5
  have e6 : (if (2 : Int) < n3 then (2 : Int) else n3) = (l3 : Int) := e6
  have ⟨x0, x1, x2, x3, _⟩ := X1
  have ⟨y0, y1, y2, y3, _⟩ := Y1
  have ⟨z0, z1, z2, z3, _⟩ := Z1
  have i1 : (l1 : Int) ≤ c1 := by omega
  have i2 : (l2 : Int) ≤ c2 := by omega
  have i3 : (0 : Int) ≤ l1 := by omega
  have i4 : (0 : Int) ≤ l2 := by omega
  have i5 : (l3 : Int) ≤ c3 := by omega
  have i6 : (0 : Int) ≤ l3 := by omega
  clear x0 x1 x2 x3 y0 y1 y2 y3 z0 z1 z2 z3
  go_cut [] (fun wx => Below w.heap.size w wx ∧ Slot2 wx w.heap.size (.slice A1 l1 c1) (.bool s1) ∧ Slot2 wx (w.heap.size + 1) (.slice A2 l2 c2) (.bool s2) ∧ Slot2 wx (w.heap.size + 1 + 1) (.slice A3 l3 c3) (.bool s3))
  case first =>
    as_aux_lemma =>
      refine wp_region_ev (fun d a0 a' w' => ∃ u20 u21 u22 u23 u24 u25 u26 u27 u28 u29 u30 u31 u32 u33 u34 u35 u36 u37 u38 u39 u40 u41 u42 u43 : Value, a' = ((((((((((((((((((((((((a0.put (some 20) u20).put (some 21) u21).put (some 22) u22).put (some 23) u23).put (some 24) u24).put (some 25) u25).put (some 26) u26).put (some 27) u27).put (some 28) u28).put (some 29) u29).put (some 30) u30).put (some 31) u31).put (some 32) u32).put (some 33) u33).put (some 34) u34).put (some 35) u35).put (some 36) u36).put (some 37) u37).put (some 38) u38).put (some 39) u39).put (some 40) u40).put (some 41) u41).put (some 42) u42).put (some 43) u43) ∧ Below w.heap.size w w' ∧ (d 0 = true → u20 = .pointer (some ⟨w.heap.size, 0, none⟩)) ∧ (d 1 = true → u21 = .slice A1 n1 c1) ∧ (d 2 = true → u22 = .pointer (some ⟨w.heap.size, 0, none⟩)) ∧ (d 3 = true → u23 = .slice A1 n1 c1) ∧ (d 4 = true → u24 = .int .i64 (n1 : Int)) ∧ (d 5 = true → u25 = .int .i64 (l1 : Int)) ∧ (d 6 = true → u26 = .slice A1 l1 c1) ∧ (d 7 = true → u27 = .pointer (some ⟨w.heap.size + 1, 0, none⟩)) ∧ (d 8 = true → u28 = .slice A2 n2 c2) ∧ (d 9 = true → u29 = .pointer (some ⟨w.heap.size + 1, 0, none⟩)) ∧ (d 10 = true → u30 = .slice A2 n2 c2) ∧ (d 11 = true → u31 = .int .i64 (n2 : Int)) ∧ (d 12 = true → u32 = .int .i64 (l2 : Int)) ∧ (d 13 = true → u33 = .slice A2 l2 c2) ∧ (d 14 = true → u34 = .pointer (some ⟨w.heap.size + 1 + 1, 0, none⟩)) ∧ (d 15 = true → u35 = .slice A3 n3 c3) ∧ (d 16 = true → u36 = .pointer (some ⟨w.heap.size + 1 + 1, 0, none⟩)) ∧ (d 17 = true → u37 = .slice A3 n3 c3) ∧ (d 18 = true → u38 = .int .i64 (n3 : Int)) ∧ (d 19 = true → u39 = .int .i64 (l3 : Int)) ∧ (d 20 = true → u40 = .slice A3 l3 c3) ∧ (d 21 = true → u41 = .pointer (some ⟨w.heap.size, 0, none⟩)) ∧ (d 23 = true → u42 = .pointer (some ⟨w.heap.size + 1, 0, none⟩)) ∧ (d 25 = true → u43 = .pointer (some ⟨w.heap.size + 1 + 1, 0, none⟩)) ∧ (BlkS w' (w.heap.size) (.slice A1 n1 c1) (.slice A1 l1 c1) (.bool s1) (d 22)) ∧ (BlkS w' (w.heap.size + 1) (.slice A2 n2 c2) (.slice A2 l2 c2) (.bool s2) (d 24)) ∧ (BlkS w' (w.heap.size + 1 + 1) (.slice A3 n3 c3) (.slice A3 l3 c3) (.bool s3) (d 26)) ∧ (d 22 = true → d 1 = true) ∧ (d 22 = true → d 3 = true) ∧ (d 24 = true → d 8 = true) ∧ (d 24 = true → d 10 = true) ∧ (d 26 = true → d 15 = true) ∧ (d 26 = true → d 17 = true)) (by kernel_rfl) (by kernel_rfl) ?_ ?_ ?_ ?_
      · intro d d' h a' w' hh
        obtain rfl : d = d' := funext h
        exact hh
      · exact ⟨_, _, _, _, _, _, _, _, _, _, _, _, _, _, _, _, _, _, _, _, _, _, _, _, (by simp only [Act.put, List.setIfInBounds_toArray, List.set_cons_zero, List.set_cons_succ]; rfl), Below.drew (B1), (fun h => by cases h), (fun h => by cases h), (fun h => by cases h), (fun h => by cases h), (fun h => by cases h), (fun h => by cases h), (fun h => by cases h), (fun h => by cases h), (fun h => by cases h), (fun h => by cases h), (fun h => by cases h), (fun h => by cases h), (fun h => by cases h), (fun h => by cases h), (fun h => by cases h), (fun h => by cases h), (fun h => by cases h), (fun h => by cases h), (fun h => by cases h), (fun h => by cases h), (fun h => by cases h), (fun h => by cases h), (fun h => by cases h), (fun h => by cases h), (BlkS.start (Slot2.drew X1)), (BlkS.start (Slot2.drew Y1)), (BlkS.start (Slot2.drew Z1)), (fun h => by cases h), (fun h => by cases h), (fun h => by cases h), (fun h => by cases h), (fun h => by cases h), (fun h => by cases h)⟩
      · refine ⟨?_, ?_, ?_, ?_, ?_, ?_, ?_, ?_, ?_, ?_, ?_, ?_, ?_, ?_, ?_, ?_, ?_, ?_, ?_, ?_, ?_, ?_, ?_, ?_, ?_, ?_, ?_, trivial⟩
        · intro d a2 w2 hd hm ⟨u20, u21, u22, u23, u24, u25, u26, u27, u28, u29, u30, u31, u32, u33, u34, u35, u36, u37, u38, u39, u40, u41, u42, u43, e, HB, f0, f1, f2, f3, f4, f5, f6, f7, f8, f9, f10, f11, f12, f13, f14, f15, f16, f17, f18, f19, f20, f21, f23, f25, kX, kY, kZ, o22_1, o22_3, o24_8, o24_10, o26_15, o26_17⟩ K hK
          subst e
          simp only [Act.put, List.setIfInBounds_toArray, List.set_cons_zero, List.set_cons_succ]
          go_simp
          exact hK.out _ _ ⟨.pointer (some ⟨w.heap.size, 0, none⟩), u21, u22, u23, u24, u25, u26, u27, u28, u29, u30, u31, u32, u33, u34, u35, u36, u37, u38, u39, u40, u41, u42, u43, (by simp only [Act.put, List.setIfInBounds_toArray, List.set_cons_zero, List.set_cons_succ]), HB, (fun _ => rfl), (fun h => f1 (by simpa using h)), (fun h => f2 (by simpa using h)), (fun h => f3 (by simpa using h)), (fun h => f4 (by simpa using h)), (fun h => f5 (by simpa using h)), (fun h => f6 (by simpa using h)), (fun h => f7 (by simpa using h)), (fun h => f8 (by simpa using h)), (fun h => f9 (by simpa using h)), (fun h => f10 (by simpa using h)), (fun h => f11 (by simpa using h)), (fun h => f12 (by simpa using h)), (fun h => f13 (by simpa using h)), (fun h => f14 (by simpa using h)), (fun h => f15 (by simpa using h)), (fun h => f16 (by simpa using h)), (fun h => f17 (by simpa using h)), (fun h => f18 (by simpa using h)), (fun h => f19 (by simpa using h)), (fun h => f20 (by simpa using h)), (fun h => f21 (by simpa using h)), (fun h => f23 (by simpa using h)), (fun h => f25 (by simpa using h)), (by simpa using (kX)), (by simpa using (kY)), (by simpa using (kZ)), (fun h => by simpa using o22_1 (by simpa using h)), (fun h => by simpa using o22_3 (by simpa using h)), (fun h => by simpa using o24_8 (by simpa using h)), (fun h => by simpa using o24_10 (by simpa using h)), (fun h => by simpa using o26_15 (by simpa using h)), (fun h => by simpa using o26_17 (by simpa using h))⟩
        · intro d a2 w2 hd hm ⟨u20, u21, u22, u23, u24, u25, u26, u27, u28, u29, u30, u31, u32, u33, u34, u35, u36, u37, u38, u39, u40, u41, u42, u43, e, HB, f0, f1, f2, f3, f4, f5, f6, f7, f8, f9, f10, f11, f12, f13, f14, f15, f16, f17, f18, f19, f20, f21, f23, f25, kX, kY, kZ, o22_1, o22_3, o24_8, o24_10, o26_15, o26_17⟩ K hK
          subst e
          simp only [Act.put, List.setIfInBounds_toArray, List.set_cons_zero, List.set_cons_succ]
          obtain rfl := f0 (hm ⟨0, .data⟩ (by simp) rfl)
          clear f0
          have hs : d 22 = false := by cases hq : d 22 with | false => rfl | true => (have hz := o22_1 hq; rw [hd] at hz; cases hz)
          have ⟨y0, y1, _, _, _⟩ := kX.1 hs
          clear hs
          go_simp
          exact hK.out _ _ ⟨.pointer (some ⟨w.heap.size, 0, none⟩), .slice A1 n1 c1, u22, u23, u24, u25, u26, u27, u28, u29, u30, u31, u32, u33, u34, u35, u36, u37, u38, u39, u40, u41, u42, u43, (by simp only [Act.put, List.setIfInBounds_toArray, List.set_cons_zero, List.set_cons_succ]), HB, (fun _ => rfl), (fun _ => rfl), (fun h => f2 (by simpa using h)), (fun h => f3 (by simpa using h)), (fun h => f4 (by simpa using h)), (fun h => f5 (by simpa using h)), (fun h => f6 (by simpa using h)), (fun h => f7 (by simpa using h)), (fun h => f8 (by simpa using h)), (fun h => f9 (by simpa using h)), (fun h => f10 (by simpa using h)), (fun h => f11 (by simpa using h)), (fun h => f12 (by simpa using h)), (fun h => f13 (by simpa using h)), (fun h => f14 (by simpa using h)), (fun h => f15 (by simpa using h)), (fun h => f16 (by simpa using h)), (fun h => f17 (by simpa using h)), (fun h => f18 (by simpa using h)), (fun h => f19 (by simpa using h)), (fun h => f20 (by simpa using h)), (fun h => f21 (by simpa using h)), (fun h => f23 (by simpa using h)), (fun h => f25 (by simpa using h)), (by simpa using (kX)), (by simpa using (kY)), (by simpa using (kZ)), (fun _ => by simp), (fun h => by simpa using o22_3 (by simpa using h)), (fun h => by simpa using o24_8 (by simpa using h)), (fun h => by simpa using o24_10 (by simpa using h)), (fun h => by simpa using o26_15 (by simpa using h)), (fun h => by simpa using o26_17 (by simpa using h))⟩
        · intro d a2 w2 hd hm ⟨u20, u21, u22, u23, u24, u25, u26, u27, u28, u29, u30, u31, u32, u33, u34, u35, u36, u37, u38, u39, u40, u41, u42, u43, e, HB, f0, f1, f2, f3, f4, f5, f6, f7, f8, f9, f10, f11, f12, f13, f14, f15, f16, f17, f18, f19, f20, f21, f23, f25, kX, kY, kZ, o22_1, o22_3, o24_8, o24_10, o26_15, o26_17⟩ K hK
          subst e
          simp only [Act.put, List.setIfInBounds_toArray, List.set_cons_zero, List.set_cons_succ]
          go_simp
          exact hK.out _ _ ⟨u20, u21, .pointer (some ⟨w.heap.size, 0, none⟩), u23, u24, u25, u26, u27, u28, u29, u30, u31, u32, u33, u34, u35, u36, u37, u38, u39, u40, u41, u42, u43, (by simp only [Act.put, List.setIfInBounds_toArray, List.set_cons_zero, List.set_cons_succ]), HB, (fun h => f0 (by simpa using h)), (fun h => f1 (by simpa using h)), (fun _ => rfl), (fun h => f3 (by simpa using h)), (fun h => f4 (by simpa using h)), (fun h => f5 (by simpa using h)), (fun h => f6 (by simpa using h)), (fun h => f7 (by simpa using h)), (fun h => f8 (by simpa using h)), (fun h => f9 (by simpa using h)), (fun h => f10 (by simpa using h)), (fun h => f11 (by simpa using h)), (fun h => f12 (by simpa using h)), (fun h => f13 (by simpa using h)), (fun h => f14 (by simpa using h)), (fun h => f15 (by simpa using h)), (fun h => f16 (by simpa using h)), (fun h => f17 (by simpa using h)), (fun h => f18 (by simpa using h)), (fun h => f19 (by simpa using h)), (fun h => f20 (by simpa using h)), (fun h => f21 (by simpa using h)), (fun h => f23 (by simpa using h)), (fun h => f25 (by simpa using h)), (by simpa using (kX)), (by simpa using (kY)), (by simpa using (kZ)), (fun h => by simpa using o22_1 (by simpa using h)), (fun h => by simpa using o22_3 (by simpa using h)), (fun h => by simpa using o24_8 (by simpa using h)), (fun h => by simpa using o24_10 (by simpa using h)), (fun h => by simpa using o26_15 (by simpa using h)), (fun h => by simpa using o26_17 (by simpa using h))⟩
        · intro d a2 w2 hd hm ⟨u20, u21, u22, u23, u24, u25, u26, u27, u28, u29, u30, u31, u32, u33, u34, u35, u36, u37, u38, u39, u40, u41, u42, u43, e, HB, f0, f1, f2, f3, f4, f5, f6, f7, f8, f9, f10, f11, f12, f13, f14, f15, f16, f17, f18, f19, f20, f21, f23, f25, kX, kY, kZ, o22_1, o22_3, o24_8, o24_10, o26_15, o26_17⟩ K hK
          subst e
          simp only [Act.put, List.setIfInBounds_toArray, List.set_cons_zero, List.set_cons_succ]
          obtain rfl := f2 (hm ⟨2, .data⟩ (by simp) rfl)
          clear f2
          have hs : d 22 = false := by cases hq : d 22 with | false => rfl | true => (have hz := o22_3 hq; rw [hd] at hz; cases hz)
          have ⟨y0, y1, _, _, _⟩ := kX.1 hs
          clear hs
          go_simp
          exact hK.out _ _ ⟨u20, u21, .pointer (some ⟨w.heap.size, 0, none⟩), .slice A1 n1 c1, u24, u25, u26, u27, u28, u29, u30, u31, u32, u33, u34, u35, u36, u37, u38, u39, u40, u41, u42, u43, (by simp only [Act.put, List.setIfInBounds_toArray, List.set_cons_zero, List.set_cons_succ]), HB, (fun h => f0 (by simpa using h)), (fun h => f1 (by simpa using h)), (fun _ => rfl), (fun _ => rfl), (fun h => f4 (by simpa using h)), (fun h => f5 (by simpa using h)), (fun h => f6 (by simpa using h)), (fun h => f7 (by simpa using h)), (fun h => f8 (by simpa using h)), (fun h => f9 (by simpa using h)), (fun h => f10 (by simpa using h)), (fun h => f11 (by simpa using h)), (fun h => f12 (by simpa using h)), (fun h => f13 (by simpa using h)), (fun h => f14 (by simpa using h)), (fun h => f15 (by simpa using h)), (fun h => f16 (by simpa using h)), (fun h => f17 (by simpa using h)), (fun h => f18 (by simpa using h)), (fun h => f19 (by simpa using h)), (fun h => f20 (by simpa using h)), (fun h => f21 (by simpa using h)), (fun h => f23 (by simpa using h)), (fun h => f25 (by simpa using h)), (by simpa using (kX)), (by simpa using (kY)), (by simpa using (kZ)), (fun h => by simpa using o22_1 (by simpa using h)), (fun _ => by simp), (fun h => by simpa using o24_8 (by simpa using h)), (fun h => by simpa using o24_10 (by simpa using h)), (fun h => by simpa using o26_15 (by simpa using h)), (fun h => by simpa using o26_17 (by simpa using h))⟩
        · intro d a2 w2 hd hm ⟨u20, u21, u22, u23, u24, u25, u26, u27, u28, u29, u30, u31, u32, u33, u34, u35, u36, u37, u38, u39, u40, u41, u42, u43, e, HB, f0, f1, f2, f3, f4, f5, f6, f7, f8, f9, f10, f11, f12, f13, f14, f15, f16, f17, f18, f19, f20, f21, f23, f25, kX, kY, kZ, o22_1, o22_3, o24_8, o24_10, o26_15, o26_17⟩ K hK
          subst e
          simp only [Act.put, List.setIfInBounds_toArray, List.set_cons_zero, List.set_cons_succ]
          obtain rfl := f3 (hm ⟨3, .data⟩ (by simp) rfl)
          clear f3
          go_simp
          exact hK.out _ _ ⟨u20, u21, u22, .slice A1 n1 c1, .int .i64 (n1 : Int), u25, u26, u27, u28, u29, u30, u31, u32, u33, u34, u35, u36, u37, u38, u39, u40, u41, u42, u43, (by simp only [Act.put, List.setIfInBounds_toArray, List.set_cons_zero, List.set_cons_succ]), HB, (fun h => f0 (by simpa using h)), (fun h => f1 (by simpa using h)), (fun h => f2 (by simpa using h)), (fun _ => rfl), (fun _ => rfl), (fun h => f5 (by simpa using h)), (fun h => f6 (by simpa using h)), (fun h => f7 (by simpa using h)), (fun h => f8 (by simpa using h)), (fun h => f9 (by simpa using h)), (fun h => f10 (by simpa using h)), (fun h => f11 (by simpa using h)), (fun h => f12 (by simpa using h)), (fun h => f13 (by simpa using h)), (fun h => f14 (by simpa using h)), (fun h => f15 (by simpa using h)), (fun h => f16 (by simpa using h)), (fun h => f17 (by simpa using h)), (fun h => f18 (by simpa using h)), (fun h => f19 (by simpa using h)), (fun h => f20 (by simpa using h)), (fun h => f21 (by simpa using h)), (fun h => f23 (by simpa using h)), (fun h => f25 (by simpa using h)), (by simpa using (kX)), (by simpa using (kY)), (by simpa using (kZ)), (fun h => by simpa using o22_1 (by simpa using h)), (fun h => by simpa using o22_3 (by simpa using h)), (fun h => by simpa using o24_8 (by simpa using h)), (fun h => by simpa using o24_10 (by simpa using h)), (fun h => by simpa using o26_15 (by simpa using h)), (fun h => by simpa using o26_17 (by simpa using h))⟩
        · intro d a2 w2 hd hm ⟨u20, u21, u22, u23, u24, u25, u26, u27, u28, u29, u30, u31, u32, u33, u34, u35, u36, u37, u38, u39, u40, u41, u42, u43, e, HB, f0, f1, f2, f3, f4, f5, f6, f7, f8, f9, f10, f11, f12, f13, f14, f15, f16, f17, f18, f19, f20, f21, f23, f25, kX, kY, kZ, o22_1, o22_3, o24_8, o24_10, o26_15, o26_17⟩ K hK
          subst e
          simp only [Act.put, List.setIfInBounds_toArray, List.set_cons_zero, List.set_cons_succ]
          obtain rfl := f4 (hm ⟨4, .data⟩ (by simp) rfl)
          clear f4
          go_simp
          exact hK.out _ _ ⟨u20, u21, u22, u23, .int .i64 (n1 : Int), .int .i64 (l1 : Int), u26, u27, u28, u29, u30, u31, u32, u33, u34, u35, u36, u37, u38, u39, u40, u41, u42, u43, (by simp only [Act.put, List.setIfInBounds_toArray, List.set_cons_zero, List.set_cons_succ]), HB, (fun h => f0 (by simpa using h)), (fun h => f1 (by simpa using h)), (fun h => f2 (by simpa using h)), (fun h => f3 (by simpa using h)), (fun _ => rfl), (fun _ => rfl), (fun h => f6 (by simpa using h)), (fun h => f7 (by simpa using h)), (fun h => f8 (by simpa using h)), (fun h => f9 (by simpa using h)), (fun h => f10 (by simpa using h)), (fun h => f11 (by simpa using h)), (fun h => f12 (by simpa using h)), (fun h => f13 (by simpa using h)), (fun h => f14 (by simpa using h)), (fun h => f15 (by simpa using h)), (fun h => f16 (by simpa using h)), (fun h => f17 (by simpa using h)), (fun h => f18 (by simpa using h)), (fun h => f19 (by simpa using h)), (fun h => f20 (by simpa using h)), (fun h => f21 (by simpa using h)), (fun h => f23 (by simpa using h)), (fun h => f25 (by simpa using h)), (by simpa using (kX)), (by simpa using (kY)), (by simpa using (kZ)), (fun h => by simpa using o22_1 (by simpa using h)), (fun h => by simpa using o22_3 (by simpa using h)), (fun h => by simpa using o24_8 (by simpa using h)), (fun h => by simpa using o24_10 (by simpa using h)), (fun h => by simpa using o26_15 (by simpa using h)), (fun h => by simpa using o26_17 (by simpa using h))⟩
        · intro d a2 w2 hd hm ⟨u20, u21, u22, u23, u24, u25, u26, u27, u28, u29, u30, u31, u32, u33, u34, u35, u36, u37, u38, u39, u40, u41, u42, u43, e, HB, f0, f1, f2, f3, f4, f5, f6, f7, f8, f9, f10, f11, f12, f13, f14, f15, f16, f17, f18, f19, f20, f21, f23, f25, kX, kY, kZ, o22_1, o22_3, o24_8, o24_10, o26_15, o26_17⟩ K hK
          subst e
          simp only [Act.put, List.setIfInBounds_toArray, List.set_cons_zero, List.set_cons_succ]
          obtain rfl := f1 (hm ⟨1, .data⟩ (by simp) rfl)
          clear f1
          obtain rfl := f5 (hm ⟨5, .data⟩ (by simp) rfl)
          clear f5
          go_simp
          exact hK.out _ _ ⟨u20, .slice A1 n1 c1, u22, u23, u24, .int .i64 (l1 : Int), .slice A1 l1 c1, u27, u28, u29, u30, u31, u32, u33, u34, u35, u36, u37, u38, u39, u40, u41, u42, u43, (by simp only [Act.put, List.setIfInBounds_toArray, List.set_cons_zero, List.set_cons_succ]), HB, (fun h => f0 (by simpa using h)), (fun _ => rfl), (fun h => f2 (by simpa using h)), (fun h => f3 (by simpa using h)), (fun h => f4 (by simpa using h)), (fun _ => rfl), (fun _ => rfl), (fun h => f7 (by simpa using h)), (fun h => f8 (by simpa using h)), (fun h => f9 (by simpa using h)), (fun h => f10 (by simpa using h)), (fun h => f11 (by simpa using h)), (fun h => f12 (by simpa using h)), (fun h => f13 (by simpa using h)), (fun h => f14 (by simpa using h)), (fun h => f15 (by simpa using h)), (fun h => f16 (by simpa using h)), (fun h => f17 (by simpa using h)), (fun h => f18 (by simpa using h)), (fun h => f19 (by simpa using h)), (fun h => f20 (by simpa using h)), (fun h => f21 (by simpa using h)), (fun h => f23 (by simpa using h)), (fun h => f25 (by simpa using h)), (by simpa using (kX)), (by simpa using (kY)), (by simpa using (kZ)), (fun h => by simpa using o22_1 (by simpa using h)), (fun h => by simpa using o22_3 (by simpa using h)), (fun h => by simpa using o24_8 (by simpa using h)), (fun h => by simpa using o24_10 (by simpa using h)), (fun h => by simpa using o26_15 (by simpa using h)), (fun h => by simpa using o26_17 (by simpa using h))⟩
        · intro d a2 w2 hd hm ⟨u20, u21, u22, u23, u24, u25, u26, u27, u28, u29, u30, u31, u32, u33, u34, u35, u36, u37, u38, u39, u40, u41, u42, u43, e, HB, f0, f1, f2, f3, f4, f5, f6, f7, f8, f9, f10, f11, f12, f13, f14, f15, f16, f17, f18, f19, f20, f21, f23, f25, kX, kY, kZ, o22_1, o22_3, o24_8, o24_10, o26_15, o26_17⟩ K hK
          subst e
          simp only [Act.put, List.setIfInBounds_toArray, List.set_cons_zero, List.set_cons_succ]
          go_simp
          exact hK.out _ _ ⟨u20, u21, u22, u23, u24, u25, u26, .pointer (some ⟨w.heap.size + 1, 0, none⟩), u28, u29, u30, u31, u32, u33, u34, u35, u36, u37, u38, u39, u40, u41, u42, u43, (by simp only [Act.put, List.setIfInBounds_toArray, List.set_cons_zero, List.set_cons_succ]), HB, (fun h => f0 (by simpa using h)), (fun h => f1 (by simpa using h)), (fun h => f2 (by simpa using h)), (fun h => f3 (by simpa using h)), (fun h => f4 (by simpa using h)), (fun h => f5 (by simpa using h)), (fun h => f6 (by simpa using h)), (fun _ => rfl), (fun h => f8 (by simpa using h)), (fun h => f9 (by simpa using h)), (fun h => f10 (by simpa using h)), (fun h => f11 (by simpa using h)), (fun h => f12 (by simpa using h)), (fun h => f13 (by simpa using h)), (fun h => f14 (by simpa using h)), (fun h => f15 (by simpa using h)), (fun h => f16 (by simpa using h)), (fun h => f17 (by simpa using h)), (fun h => f18 (by simpa using h)), (fun h => f19 (by simpa using h)), (fun h => f20 (by simpa using h)), (fun h => f21 (by simpa using h)), (fun h => f23 (by simpa using h)), (fun h => f25 (by simpa using h)), (by simpa using (kX)), (by simpa using (kY)), (by simpa using (kZ)), (fun h => by simpa using o22_1 (by simpa using h)), (fun h => by simpa using o22_3 (by simpa using h)), (fun h => by simpa using o24_8 (by simpa using h)), (fun h => by simpa using o24_10 (by simpa using h)), (fun h => by simpa using o26_15 (by simpa using h)), (fun h => by simpa using o26_17 (by simpa using h))⟩
        · intro d a2 w2 hd hm ⟨u20, u21, u22, u23, u24, u25, u26, u27, u28, u29, u30, u31, u32, u33, u34, u35, u36, u37, u38, u39, u40, u41, u42, u43, e, HB, f0, f1, f2, f3, f4, f5, f6, f7, f8, f9, f10, f11, f12, f13, f14, f15, f16, f17, f18, f19, f20, f21, f23, f25, kX, kY, kZ, o22_1, o22_3, o24_8, o24_10, o26_15, o26_17⟩ K hK
          subst e
          simp only [Act.put, List.setIfInBounds_toArray, List.set_cons_zero, List.set_cons_succ]
          obtain rfl := f7 (hm ⟨7, .data⟩ (by simp) rfl)
          clear f7
          have hs : d 24 = false := by cases hq : d 24 with | false => rfl | true => (have hz := o24_8 hq; rw [hd] at hz; cases hz)
          have ⟨y0, y1, _, _, _⟩ := kY.1 hs
          clear hs
          go_simp
          exact hK.out _ _ ⟨u20, u21, u22, u23, u24, u25, u26, .pointer (some ⟨w.heap.size + 1, 0, none⟩), .slice A2 n2 c2, u29, u30, u31, u32, u33, u34, u35, u36, u37, u38, u39, u40, u41, u42, u43, (by simp only [Act.put, List.setIfInBounds_toArray, List.set_cons_zero, List.set_cons_succ]), HB, (fun h => f0 (by simpa using h)), (fun h => f1 (by simpa using h)), (fun h => f2 (by simpa using h)), (fun h => f3 (by simpa using h)), (fun h => f4 (by simpa using h)), (fun h => f5 (by simpa using h)), (fun h => f6 (by simpa using h)), (fun _ => rfl), (fun _ => rfl), (fun h => f9 (by simpa using h)), (fun h => f10 (by simpa using h)), (fun h => f11 (by simpa using h)), (fun h => f12 (by simpa using h)), (fun h => f13 (by simpa using h)), (fun h => f14 (by simpa using h)), (fun h => f15 (by simpa using h)), (fun h => f16 (by simpa using h)), (fun h => f17 (by simpa using h)), (fun h => f18 (by simpa using h)), (fun h => f19 (by simpa using h)), (fun h => f20 (by simpa using h)), (fun h => f21 (by simpa using h)), (fun h => f23 (by simpa using h)), (fun h => f25 (by simpa using h)), (by simpa using (kX)), (by simpa using (kY)), (by simpa using (kZ)), (fun h => by simpa using o22_1 (by simpa using h)), (fun h => by simpa using o22_3 (by simpa using h)), (fun _ => by simp), (fun h => by simpa using o24_10 (by simpa using h)), (fun h => by simpa using o26_15 (by simpa using h)), (fun h => by simpa using o26_17 (by simpa using h))⟩
        · intro d a2 w2 hd hm ⟨u20, u21, u22, u23, u24, u25, u26, u27, u28, u29, u30, u31, u32, u33, u34, u35, u36, u37, u38, u39, u40, u41, u42, u43, e, HB, f0, f1, f2, f3, f4, f5, f6, f7, f8, f9, f10, f11, f12, f13, f14, f15, f16, f17, f18, f19, f20, f21, f23, f25, kX, kY, kZ, o22_1, o22_3, o24_8, o24_10, o26_15, o26_17⟩ K hK
          subst e
          simp only [Act.put, List.setIfInBounds_toArray, List.set_cons_zero, List.set_cons_succ]
          go_simp
          exact hK.out _ _ ⟨u20, u21, u22, u23, u24, u25, u26, u27, u28, .pointer (some ⟨w.heap.size + 1, 0, none⟩), u30, u31, u32, u33, u34, u35, u36, u37, u38, u39, u40, u41, u42, u43, (by simp only [Act.put, List.setIfInBounds_toArray, List.set_cons_zero, List.set_cons_succ]), HB, (fun h => f0 (by simpa using h)), (fun h => f1 (by simpa using h)), (fun h => f2 (by simpa using h)), (fun h => f3 (by simpa using h)), (fun h => f4 (by simpa using h)), (fun h => f5 (by simpa using h)), (fun h => f6 (by simpa using h)), (fun h => f7 (by simpa using h)), (fun h => f8 (by simpa using h)), (fun _ => rfl), (fun h => f10 (by simpa using h)), (fun h => f11 (by simpa using h)), (fun h => f12 (by simpa using h)), (fun h => f13 (by simpa using h)), (fun h => f14 (by simpa using h)), (fun h => f15 (by simpa using h)), (fun h => f16 (by simpa using h)), (fun h => f17 (by simpa using h)), (fun h => f18 (by simpa using h)), (fun h => f19 (by simpa using h)), (fun h => f20 (by simpa using h)), (fun h => f21 (by simpa using h)), (fun h => f23 (by simpa using h)), (fun h => f25 (by simpa using h)), (by simpa using (kX)), (by simpa using (kY)), (by simpa using (kZ)), (fun h => by simpa using o22_1 (by simpa using h)), (fun h => by simpa using o22_3 (by simpa using h)), (fun h => by simpa using o24_8 (by simpa using h)), (fun h => by simpa using o24_10 (by simpa using h)), (fun h => by simpa using o26_15 (by simpa using h)), (fun h => by simpa using o26_17 (by simpa using h))⟩
        · intro d a2 w2 hd hm ⟨u20, u21, u22, u23, u24, u25, u26, u27, u28, u29, u30, u31, u32, u33, u34, u35, u36, u37, u38, u39, u40, u41, u42, u43, e, HB, f0, f1, f2, f3, f4, f5, f6, f7, f8, f9, f10, f11, f12, f13, f14, f15, f16, f17, f18, f19, f20, f21, f23, f25, kX, kY, kZ, o22_1, o22_3, o24_8, o24_10, o26_15, o26_17⟩ K hK
          subst e
          simp only [Act.put, List.setIfInBounds_toArray, List.set_cons_zero, List.set_cons_succ]
          obtain rfl := f9 (hm ⟨9, .data⟩ (by simp) rfl)
          clear f9
          have hs : d 24 = false := by cases hq : d 24 with | false => rfl | true => (have hz := o24_10 hq; rw [hd] at hz; cases hz)
          have ⟨y0, y1, _, _, _⟩ := kY.1 hs
          clear hs
          go_simp
          exact hK.out _ _ ⟨u20, u21, u22, u23, u24, u25, u26, u27, u28, .pointer (some ⟨w.heap.size + 1, 0, none⟩), .slice A2 n2 c2, u31, u32, u33, u34, u35, u36, u37, u38, u39, u40, u41, u42, u43, (by simp only [Act.put, List.setIfInBounds_toArray, List.set_cons_zero, List.set_cons_succ]), HB, (fun h => f0 (by simpa using h)), (fun h => f1 (by simpa using h)), (fun h => f2 (by simpa using h)), (fun h => f3 (by simpa using h)), (fun h => f4 (by simpa using h)), (fun h => f5 (by simpa using h)), (fun h => f6 (by simpa using h)), (fun h => f7 (by simpa using h)), (fun h => f8 (by simpa using h)), (fun _ => rfl), (fun _ => rfl), (fun h => f11 (by simpa using h)), (fun h => f12 (by simpa using h)), (fun h => f13 (by simpa using h)), (fun h => f14 (by simpa using h)), (fun h => f15 (by simpa using h)), (fun h => f16 (by simpa using h)), (fun h => f17 (by simpa using h)), (fun h => f18 (by simpa using h)), (fun h => f19 (by simpa using h)), (fun h => f20 (by simpa using h)), (fun h => f21 (by simpa using h)), (fun h => f23 (by simpa using h)), (fun h => f25 (by simpa using h)), (by simpa using (kX)), (by simpa using (kY)), (by simpa using (kZ)), (fun h => by simpa using o22_1 (by simpa using h)), (fun h => by simpa using o22_3 (by simpa using h)), (fun h => by simpa using o24_8 (by simpa using h)), (fun _ => by simp), (fun h => by simpa using o26_15 (by simpa using h)), (fun h => by simpa using o26_17 (by simpa using h))⟩
        · intro d a2 w2 hd hm ⟨u20, u21, u22, u23, u24, u25, u26, u27, u28, u29, u30, u31, u32, u33, u34, u35, u36, u37, u38, u39, u40, u41, u42, u43, e, HB, f0, f1, f2, f3, f4, f5, f6, f7, f8, f9, f10, f11, f12, f13, f14, f15, f16, f17, f18, f19, f20, f21, f23, f25, kX, kY, kZ, o22_1, o22_3, o24_8, o24_10, o26_15, o26_17⟩ K hK
          subst e
          simp only [Act.put, List.setIfInBounds_toArray, List.set_cons_zero, List.set_cons_succ]
          obtain rfl := f10 (hm ⟨10, .data⟩ (by simp) rfl)
          clear f10
          go_simp
          exact hK.out _ _ ⟨u20, u21, u22, u23, u24, u25, u26, u27, u28, u29, .slice A2 n2 c2, .int .i64 (n2 : Int), u32, u33, u34, u35, u36, u37, u38, u39, u40, u41, u42, u43, (by simp only [Act.put, List.setIfInBounds_toArray, List.set_cons_zero, List.set_cons_succ]), HB, (fun h => f0 (by simpa using h)), (fun h => f1 (by simpa using h)), (fun h => f2 (by simpa using h)), (fun h => f3 (by simpa using h)), (fun h => f4 (by simpa using h)), (fun h => f5 (by simpa using h)), (fun h => f6 (by simpa using h)), (fun h => f7 (by simpa using h)), (fun h => f8 (by simpa using h)), (fun h => f9 (by simpa using h)), (fun _ => rfl), (fun _ => rfl), (fun h => f12 (by simpa using h)), (fun h => f13 (by simpa using h)), (fun h => f14 (by simpa using h)), (fun h => f15 (by simpa using h)), (fun h => f16 (by simpa using h)), (fun h => f17 (by simpa using h)), (fun h => f18 (by simpa using h)), (fun h => f19 (by simpa using h)), (fun h => f20 (by simpa using h)), (fun h => f21 (by simpa using h)), (fun h => f23 (by simpa using h)), (fun h => f25 (by simpa using h)), (by simpa using (kX)), (by simpa using (kY)), (by simpa using (kZ)), (fun h => by simpa using o22_1 (by simpa using h)), (fun h => by simpa using o22_3 (by simpa using h)), (fun h => by simpa using o24_8 (by simpa using h)), (fun h => by simpa using o24_10 (by simpa using h)), (fun h => by simpa using o26_15 (by simpa using h)), (fun h => by simpa using o26_17 (by simpa using h))⟩
        · intro d a2 w2 hd hm ⟨u20, u21, u22, u23, u24, u25, u26, u27, u28, u29, u30, u31, u32, u33, u34, u35, u36, u37, u38, u39, u40, u41, u42, u43, e, HB, f0, f1, f2, f3, f4, f5, f6, f7, f8, f9, f10, f11, f12, f13, f14, f15, f16, f17, f18, f19, f20, f21, f23, f25, kX, kY, kZ, o22_1, o22_3, o24_8, o24_10, o26_15, o26_17⟩ K hK
          subst e
          simp only [Act.put, List.setIfInBounds_toArray, List.set_cons_zero, List.set_cons_succ]
          obtain rfl := f11 (hm ⟨11, .data⟩ (by simp) rfl)
          clear f11
          go_simp
          exact hK.out _ _ ⟨u20, u21, u22, u23, u24, u25, u26, u27, u28, u29, u30, .int .i64 (n2 : Int), .int .i64 (l2 : Int), u33, u34, u35, u36, u37, u38, u39, u40, u41, u42, u43, (by simp only [Act.put, List.setIfInBounds_toArray, List.set_cons_zero, List.set_cons_succ]), HB, (fun h => f0 (by simpa using h)), (fun h => f1 (by simpa using h)), (fun h => f2 (by simpa using h)), (fun h => f3 (by simpa using h)), (fun h => f4 (by simpa using h)), (fun h => f5 (by simpa using h)), (fun h => f6 (by simpa using h)), (fun h => f7 (by simpa using h)), (fun h => f8 (by simpa using h)), (fun h => f9 (by simpa using h)), (fun h => f10 (by simpa using h)), (fun _ => rfl), (fun _ => rfl), (fun h => f13 (by simpa using h)), (fun h => f14 (by simpa using h)), (fun h => f15 (by simpa using h)), (fun h => f16 (by simpa using h)), (fun h => f17 (by simpa using h)), (fun h => f18 (by simpa using h)), (fun h => f19 (by simpa using h)), (fun h => f20 (by simpa using h)), (fun h => f21 (by simpa using h)), (fun h => f23 (by simpa using h)), (fun h => f25 (by simpa using h)), (by simpa using (kX)), (by simpa using (kY)), (by simpa using (kZ)), (fun h => by simpa using o22_1 (by simpa using h)), (fun h => by simpa using o22_3 (by simpa using h)), (fun h => by simpa using o24_8 (by simpa using h)), (fun h => by simpa using o24_10 (by simpa using h)), (fun h => by simpa using o26_15 (by simpa using h)), (fun h => by simpa using o26_17 (by simpa using h))⟩
        · intro d a2 w2 hd hm ⟨u20, u21, u22, u23, u24, u25, u26, u27, u28, u29, u30, u31, u32, u33, u34, u35, u36, u37, u38, u39, u40, u41, u42, u43, e, HB, f0, f1, f2, f3, f4, f5, f6, f7, f8, f9, f10, f11, f12, f13, f14, f15, f16, f17, f18, f19, f20, f21, f23, f25, kX, kY, kZ, o22_1, o22_3, o24_8, o24_10, o26_15, o26_17⟩ K hK
          subst e
          simp only [Act.put, List.setIfInBounds_toArray, List.set_cons_zero, List.set_cons_succ]
          obtain rfl := f8 (hm ⟨8, .data⟩ (by simp) rfl)
          clear f8
          obtain rfl := f12 (hm ⟨12, .data⟩ (by simp) rfl)
          clear f12
          go_simp
          exact hK.out _ _ ⟨u20, u21, u22, u23, u24, u25, u26, u27, .slice A2 n2 c2, u29, u30, u31, .int .i64 (l2 : Int), .slice A2 l2 c2, u34, u35, u36, u37, u38, u39, u40, u41, u42, u43, (by simp only [Act.put, List.setIfInBounds_toArray, List.set_cons_zero, List.set_cons_succ]), HB, (fun h => f0 (by simpa using h)), (fun h => f1 (by simpa using h)), (fun h => f2 (by simpa using h)), (fun h => f3 (by simpa using h)), (fun h => f4 (by simpa using h)), (fun h => f5 (by simpa using h)), (fun h => f6 (by simpa using h)), (fun h => f7 (by simpa using h)), (fun _ => rfl), (fun h => f9 (by simpa using h)), (fun h => f10 (by simpa using h)), (fun h => f11 (by simpa using h)), (fun _ => rfl), (fun _ => rfl), (fun h => f14 (by simpa using h)), (fun h => f15 (by simpa using h)), (fun h => f16 (by simpa using h)), (fun h => f17 (by simpa using h)), (fun h => f18 (by simpa using h)), (fun h => f19 (by simpa using h)), (fun h => f20 (by simpa using h)), (fun h => f21 (by simpa using h)), (fun h => f23 (by simpa using h)), (fun h => f25 (by simpa using h)), (by simpa using (kX)), (by simpa using (kY)), (by simpa using (kZ)), (fun h => by simpa using o22_1 (by simpa using h)), (fun h => by simpa using o22_3 (by simpa using h)), (fun h => by simpa using o24_8 (by simpa using h)), (fun h => by simpa using o24_10 (by simpa using h)), (fun h => by simpa using o26_15 (by simpa using h)), (fun h => by simpa using o26_17 (by simpa using h))⟩
        · intro d a2 w2 hd hm ⟨u20, u21, u22, u23, u24, u25, u26, u27, u28, u29, u30, u31, u32, u33, u34, u35, u36, u37, u38, u39, u40, u41, u42, u43, e, HB, f0, f1, f2, f3, f4, f5, f6, f7, f8, f9, f10, f11, f12, f13, f14, f15, f16, f17, f18, f19, f20, f21, f23, f25, kX, kY, kZ, o22_1, o22_3, o24_8, o24_10, o26_15, o26_17⟩ K hK
          subst e
          simp only [Act.put, List.setIfInBounds_toArray, List.set_cons_zero, List.set_cons_succ]
          go_simp
          exact hK.out _ _ ⟨u20, u21, u22, u23, u24, u25, u26, u27, u28, u29, u30, u31, u32, u33, .pointer (some ⟨w.heap.size + 1 + 1, 0, none⟩), u35, u36, u37, u38, u39, u40, u41, u42, u43, (by simp only [Act.put, List.setIfInBounds_toArray, List.set_cons_zero, List.set_cons_succ]), HB, (fun h => f0 (by simpa using h)), (fun h => f1 (by simpa using h)), (fun h => f2 (by simpa using h)), (fun h => f3 (by simpa using h)), (fun h => f4 (by simpa using h)), (fun h => f5 (by simpa using h)), (fun h => f6 (by simpa using h)), (fun h => f7 (by simpa using h)), (fun h => f8 (by simpa using h)), (fun h => f9 (by simpa using h)), (fun h => f10 (by simpa using h)), (fun h => f11 (by simpa using h)), (fun h => f12 (by simpa using h)), (fun h => f13 (by simpa using h)), (fun _ => rfl), (fun h => f15 (by simpa using h)), (fun h => f16 (by simpa using h)), (fun h => f17 (by simpa using h)), (fun h => f18 (by simpa using h)), (fun h => f19 (by simpa using h)), (fun h => f20 (by simpa using h)), (fun h => f21 (by simpa using h)), (fun h => f23 (by simpa using h)), (fun h => f25 (by simpa using h)), (by simpa using (kX)), (by simpa using (kY)), (by simpa using (kZ)), (fun h => by simpa using o22_1 (by simpa using h)), (fun h => by simpa using o22_3 (by simpa using h)), (fun h => by simpa using o24_8 (by simpa using h)), (fun h => by simpa using o24_10 (by simpa using h)), (fun h => by simpa using o26_15 (by simpa using h)), (fun h => by simpa using o26_17 (by simpa using h))⟩
        · intro d a2 w2 hd hm ⟨u20, u21, u22, u23, u24, u25, u26, u27, u28, u29, u30, u31, u32, u33, u34, u35, u36, u37, u38, u39, u40, u41, u42, u43, e, HB, f0, f1, f2, f3, f4, f5, f6, f7, f8, f9, f10, f11, f12, f13, f14, f15, f16, f17, f18, f19, f20, f21, f23, f25, kX, kY, kZ, o22_1, o22_3, o24_8, o24_10, o26_15, o26_17⟩ K hK
          subst e
          simp only [Act.put, List.setIfInBounds_toArray, List.set_cons_zero, List.set_cons_succ]
          obtain rfl := f14 (hm ⟨14, .data⟩ (by simp) rfl)
          clear f14
          have hs : d 26 = false := by cases hq : d 26 with | false => rfl | true => (have hz := o26_15 hq; rw [hd] at hz; cases hz)
          have ⟨y0, y1, _, _, _⟩ := kZ.1 hs
          clear hs
          go_simp
          exact hK.out _ _ ⟨u20, u21, u22, u23, u24, u25, u26, u27, u28, u29, u30, u31, u32, u33, .pointer (some ⟨w.heap.size + 1 + 1, 0, none⟩), .slice A3 n3 c3, u36, u37, u38, u39, u40, u41, u42, u43, (by simp only [Act.put, List.setIfInBounds_toArray, List.set_cons_zero, List.set_cons_succ]), HB, (fun h => f0 (by simpa using h)), (fun h => f1 (by simpa using h)), (fun h => f2 (by simpa using h)), (fun h => f3 (by simpa using h)), (fun h => f4 (by simpa using h)), (fun h => f5 (by simpa using h)), (fun h => f6 (by simpa using h)), (fun h => f7 (by simpa using h)), (fun h => f8 (by simpa using h)), (fun h => f9 (by simpa using h)), (fun h => f10 (by simpa using h)), (fun h => f11 (by simpa using h)), (fun h => f12 (by simpa using h)), (fun h => f13 (by simpa using h)), (fun _ => rfl), (fun _ => rfl), (fun h => f16 (by simpa using h)), (fun h => f17 (by simpa using h)), (fun h => f18 (by simpa using h)), (fun h => f19 (by simpa using h)), (fun h => f20 (by simpa using h)), (fun h => f21 (by simpa using h)), (fun h => f23 (by simpa using h)), (fun h => f25 (by simpa using h)), (by simpa using (kX)), (by simpa using (kY)), (by simpa using (kZ)), (fun h => by simpa using o22_1 (by simpa using h)), (fun h => by simpa using o22_3 (by simpa using h)), (fun h => by simpa using o24_8 (by simpa using h)), (fun h => by simpa using o24_10 (by simpa using h)), (fun _ => by simp), (fun h => by simpa using o26_17 (by simpa using h))⟩
        · intro d a2 w2 hd hm ⟨u20, u21, u22, u23, u24, u25, u26, u27, u28, u29, u30, u31, u32, u33, u34, u35, u36, u37, u38, u39, u40, u41, u42, u43, e, HB, f0, f1, f2, f3, f4, f5, f6, f7, f8, f9, f10, f11, f12, f13, f14, f15, f16, f17, f18, f19, f20, f21, f23, f25, kX, kY, kZ, o22_1, o22_3, o24_8, o24_10, o26_15, o26_17⟩ K hK
          subst e
          simp only [Act.put, List.setIfInBounds_toArray, List.set_cons_zero, List.set_cons_succ]
          go_simp
          exact hK.out _ _ ⟨u20, u21, u22, u23, u24, u25, u26, u27, u28, u29, u30, u31, u32, u33, u34, u35, .pointer (some ⟨w.heap.size + 1 + 1, 0, none⟩), u37, u38, u39, u40, u41, u42, u43, (by simp only [Act.put, List.setIfInBounds_toArray, List.set_cons_zero, List.set_cons_succ]), HB, (fun h => f0 (by simpa using h)), (fun h => f1 (by simpa using h)), (fun h => f2 (by simpa using h)), (fun h => f3 (by simpa using h)), (fun h => f4 (by simpa using h)), (fun h => f5 (by simpa using h)), (fun h => f6 (by simpa using h)), (fun h => f7 (by simpa using h)), (fun h => f8 (by simpa using h)), (fun h => f9 (by simpa using h)), (fun h => f10 (by simpa using h)), (fun h => f11 (by simpa using h)), (fun h => f12 (by simpa using h)), (fun h => f13 (by simpa using h)), (fun h => f14 (by simpa using h)), (fun h => f15 (by simpa using h)), (fun _ => rfl), (fun h => f17 (by simpa using h)), (fun h => f18 (by simpa using h)), (fun h => f19 (by simpa using h)), (fun h => f20 (by simpa using h)), (fun h => f21 (by simpa using h)), (fun h => f23 (by simpa using h)), (fun h => f25 (by simpa using h)), (by simpa using (kX)), (by simpa using (kY)), (by simpa using (kZ)), (fun h => by simpa using o22_1 (by simpa using h)), (fun h => by simpa using o22_3 (by simpa using h)), (fun h => by simpa using o24_8 (by simpa using h)), (fun h => by simpa using o24_10 (by simpa using h)), (fun h => by simpa using o26_15 (by simpa using h)), (fun h => by simpa using o26_17 (by simpa using h))⟩
        · intro d a2 w2 hd hm ⟨u20, u21, u22, u23, u24, u25, u26, u27, u28, u29, u30, u31, u32, u33, u34, u35, u36, u37, u38, u39, u40, u41, u42, u43, e, HB, f0, f1, f2, f3, f4, f5, f6, f7, f8, f9, f10, f11, f12, f13, f14, f15, f16, f17, f18, f19, f20, f21, f23, f25, kX, kY, kZ, o22_1, o22_3, o24_8, o24_10, o26_15, o26_17⟩ K hK
          subst e
          simp only [Act.put, List.setIfInBounds_toArray, List.set_cons_zero, List.set_cons_succ]
          obtain rfl := f16 (hm ⟨16, .data⟩ (by simp) rfl)
          clear f16
          have hs : d 26 = false := by cases hq : d 26 with | false => rfl | true => (have hz := o26_17 hq; rw [hd] at hz; cases hz)
          have ⟨y0, y1, _, _, _⟩ := kZ.1 hs
          clear hs
          go_simp
          exact hK.out _ _ ⟨u20, u21, u22, u23, u24, u25, u26, u27, u28, u29, u30, u31, u32, u33, u34, u35, .pointer (some ⟨w.heap.size + 1 + 1, 0, none⟩), .slice A3 n3 c3, u38, u39, u40, u41, u42, u43, (by simp only [Act.put, List.setIfInBounds_toArray, List.set_cons_zero, List.set_cons_succ]), HB, (fun h => f0 (by simpa using h)), (fun h => f1 (by simpa using h)), (fun h => f2 (by simpa using h)), (fun h => f3 (by simpa using h)), (fun h => f4 (by simpa using h)), (fun h => f5 (by simpa using h)), (fun h => f6 (by simpa using h)), (fun h => f7 (by simpa using h)), (fun h => f8 (by simpa using h)), (fun h => f9 (by simpa using h)), (fun h => f10 (by simpa using h)), (fun h => f11 (by simpa using h)), (fun h => f12 (by simpa using h)), (fun h => f13 (by simpa using h)), (fun h => f14 (by simpa using h)), (fun h => f15 (by simpa using h)), (fun _ => rfl), (fun _ => rfl), (fun h => f18 (by simpa using h)), (fun h => f19 (by simpa using h)), (fun h => f20 (by simpa using h)), (fun h => f21 (by simpa using h)), (fun h => f23 (by simpa using h)), (fun h => f25 (by simpa using h)), (by simpa using (kX)), (by simpa using (kY)), (by simpa using (kZ)), (fun h => by simpa using o22_1 (by simpa using h)), (fun h => by simpa using o22_3 (by simpa using h)), (fun h => by simpa using o24_8 (by simpa using h)), (fun h => by simpa using o24_10 (by simpa using h)), (fun h => by simpa using o26_15 (by simpa using h)), (fun _ => by simp)⟩
        · intro d a2 w2 hd hm ⟨u20, u21, u22, u23, u24, u25, u26, u27, u28, u29, u30, u31, u32, u33, u34, u35, u36, u37, u38, u39, u40, u41, u42, u43, e, HB, f0, f1, f2, f3, f4, f5, f6, f7, f8, f9, f10, f11, f12, f13, f14, f15, f16, f17, f18, f19, f20, f21, f23, f25, kX, kY, kZ, o22_1, o22_3, o24_8, o24_10, o26_15, o26_17⟩ K hK
          subst e
          simp only [Act.put, List.setIfInBounds_toArray, List.set_cons_zero, List.set_cons_succ]
          obtain rfl := f17 (hm ⟨17, .data⟩ (by simp) rfl)
          clear f17
          go_simp
          exact hK.out _ _ ⟨u20, u21, u22, u23, u24, u25, u26, u27, u28, u29, u30, u31, u32, u33, u34, u35, u36, .slice A3 n3 c3, .int .i64 (n3 : Int), u39, u40, u41, u42, u43, (by simp only [Act.put, List.setIfInBounds_toArray, List.set_cons_zero, List.set_cons_succ]), HB, (fun h => f0 (by simpa using h)), (fun h => f1 (by simpa using h)), (fun h => f2 (by simpa using h)), (fun h => f3 (by simpa using h)), (fun h => f4 (by simpa using h)), (fun h => f5 (by simpa using h)), (fun h => f6 (by simpa using h)), (fun h => f7 (by simpa using h)), (fun h => f8 (by simpa using h)), (fun h => f9 (by simpa using h)), (fun h => f10 (by simpa using h)), (fun h => f11 (by simpa using h)), (fun h => f12 (by simpa using h)), (fun h => f13 (by simpa using h)), (fun h => f14 (by simpa using h)), (fun h => f15 (by simpa using h)), (fun h => f16 (by simpa using h)), (fun _ => rfl), (fun _ => rfl), (fun h => f19 (by simpa using h)), (fun h => f20 (by simpa using h)), (fun h => f21 (by simpa using h)), (fun h => f23 (by simpa using h)), (fun h => f25 (by simpa using h)), (by simpa using (kX)), (by simpa using (kY)), (by simpa using (kZ)), (fun h => by simpa using o22_1 (by simpa using h)), (fun h => by simpa using o22_3 (by simpa using h)), (fun h => by simpa using o24_8 (by simpa using h)), (fun h => by simpa using o24_10 (by simpa using h)), (fun h => by simpa using o26_15 (by simpa using h)), (fun h => by simpa using o26_17 (by simpa using h))⟩
        · intro d a2 w2 hd hm ⟨u20, u21, u22, u23, u24, u25, u26, u27, u28, u29, u30, u31, u32, u33, u34, u35, u36, u37, u38, u39, u40, u41, u42, u43, e, HB, f0, f1, f2, f3, f4, f5, f6, f7, f8, f9, f10, f11, f12, f13, f14, f15, f16, f17, f18, f19, f20, f21, f23, f25, kX, kY, kZ, o22_1, o22_3, o24_8, o24_10, o26_15, o26_17⟩ K hK
          subst e
          simp only [Act.put, List.setIfInBounds_toArray, List.set_cons_zero, List.set_cons_succ]
          obtain rfl := f18 (hm ⟨18, .data⟩ (by simp) rfl)
          clear f18
          go_simp
          exact hK.out _ _ ⟨u20, u21, u22, u23, u24, u25, u26, u27, u28, u29, u30, u31, u32, u33, u34, u35, u36, u37, .int .i64 (n3 : Int), .int .i64 (l3 : Int), u40, u41, u42, u43, (by simp only [Act.put, List.setIfInBounds_toArray, List.set_cons_zero, List.set_cons_succ]), HB, (fun h => f0 (by simpa using h)), (fun h => f1 (by simpa using h)), (fun h => f2 (by simpa using h)), (fun h => f3 (by simpa using h)), (fun h => f4 (by simpa using h)), (fun h => f5 (by simpa using h)), (fun h => f6 (by simpa using h)), (fun h => f7 (by simpa using h)), (fun h => f8 (by simpa using h)), (fun h => f9 (by simpa using h)), (fun h => f10 (by simpa using h)), (fun h => f11 (by simpa using h)), (fun h => f12 (by simpa using h)), (fun h => f13 (by simpa using h)), (fun h => f14 (by simpa using h)), (fun h => f15 (by simpa using h)), (fun h => f16 (by simpa using h)), (fun h => f17 (by simpa using h)), (fun _ => rfl), (fun _ => rfl), (fun h => f20 (by simpa using h)), (fun h => f21 (by simpa using h)), (fun h => f23 (by simpa using h)), (fun h => f25 (by simpa using h)), (by simpa using (kX)), (by simpa using (kY)), (by simpa using (kZ)), (fun h => by simpa using o22_1 (by simpa using h)), (fun h => by simpa using o22_3 (by simpa using h)), (fun h => by simpa using o24_8 (by simpa using h)), (fun h => by simpa using o24_10 (by simpa using h)), (fun h => by simpa using o26_15 (by simpa using h)), (fun h => by simpa using o26_17 (by simpa using h))⟩
        · intro d a2 w2 hd hm ⟨u20, u21, u22, u23, u24, u25, u26, u27, u28, u29, u30, u31, u32, u33, u34, u35, u36, u37, u38, u39, u40, u41, u42, u43, e, HB, f0, f1, f2, f3, f4, f5, f6, f7, f8, f9, f10, f11, f12, f13, f14, f15, f16, f17, f18, f19, f20, f21, f23, f25, kX, kY, kZ, o22_1, o22_3, o24_8, o24_10, o26_15, o26_17⟩ K hK
          subst e
          simp only [Act.put, List.setIfInBounds_toArray, List.set_cons_zero, List.set_cons_succ]
          obtain rfl := f15 (hm ⟨15, .data⟩ (by simp) rfl)
          clear f15
          obtain rfl := f19 (hm ⟨19, .data⟩ (by simp) rfl)
          clear f19
          go_simp
          exact hK.out _ _ ⟨u20, u21, u22, u23, u24, u25, u26, u27, u28, u29, u30, u31, u32, u33, u34, .slice A3 n3 c3, u36, u37, u38, .int .i64 (l3 : Int), .slice A3 l3 c3, u41, u42, u43, (by simp only [Act.put, List.setIfInBounds_toArray, List.set_cons_zero, List.set_cons_succ]), HB, (fun h => f0 (by simpa using h)), (fun h => f1 (by simpa using h)), (fun h => f2 (by simpa using h)), (fun h => f3 (by simpa using h)), (fun h => f4 (by simpa using h)), (fun h => f5 (by simpa using h)), (fun h => f6 (by simpa using h)), (fun h => f7 (by simpa using h)), (fun h => f8 (by simpa using h)), (fun h => f9 (by simpa using h)), (fun h => f10 (by simpa using h)), (fun h => f11 (by simpa using h)), (fun h => f12 (by simpa using h)), (fun h => f13 (by simpa using h)), (fun h => f14 (by simpa using h)), (fun _ => rfl), (fun h => f16 (by simpa using h)), (fun h => f17 (by simpa using h)), (fun h => f18 (by simpa using h)), (fun _ => rfl), (fun _ => rfl), (fun h => f21 (by simpa using h)), (fun h => f23 (by simpa using h)), (fun h => f25 (by simpa using h)), (by simpa using (kX)), (by simpa using (kY)), (by simpa using (kZ)), (fun h => by simpa using o22_1 (by simpa using h)), (fun h => by simpa using o22_3 (by simpa using h)), (fun h => by simpa using o24_8 (by simpa using h)), (fun h => by simpa using o24_10 (by simpa using h)), (fun h => by simpa using o26_15 (by simpa using h)), (fun h => by simpa using o26_17 (by simpa using h))⟩
        · intro d a2 w2 hd hm ⟨u20, u21, u22, u23, u24, u25, u26, u27, u28, u29, u30, u31, u32, u33, u34, u35, u36, u37, u38, u39, u40, u41, u42, u43, e, HB, f0, f1, f2, f3, f4, f5, f6, f7, f8, f9, f10, f11, f12, f13, f14, f15, f16, f17, f18, f19, f20, f21, f23, f25, kX, kY, kZ, o22_1, o22_3, o24_8, o24_10, o26_15, o26_17⟩ K hK
          subst e
          simp only [Act.put, List.setIfInBounds_toArray, List.set_cons_zero, List.set_cons_succ]
          go_simp
          exact hK.out _ _ ⟨u20, u21, u22, u23, u24, u25, u26, u27, u28, u29, u30, u31, u32, u33, u34, u35, u36, u37, u38, u39, u40, .pointer (some ⟨w.heap.size, 0, none⟩), u42, u43, (by simp only [Act.put, List.setIfInBounds_toArray, List.set_cons_zero, List.set_cons_succ]), HB, (fun h => f0 (by simpa using h)), (fun h => f1 (by simpa using h)), (fun h => f2 (by simpa using h)), (fun h => f3 (by simpa using h)), (fun h => f4 (by simpa using h)), (fun h => f5 (by simpa using h)), (fun h => f6 (by simpa using h)), (fun h => f7 (by simpa using h)), (fun h => f8 (by simpa using h)), (fun h => f9 (by simpa using h)), (fun h => f10 (by simpa using h)), (fun h => f11 (by simpa using h)), (fun h => f12 (by simpa using h)), (fun h => f13 (by simpa using h)), (fun h => f14 (by simpa using h)), (fun h => f15 (by simpa using h)), (fun h => f16 (by simpa using h)), (fun h => f17 (by simpa using h)), (fun h => f18 (by simpa using h)), (fun h => f19 (by simpa using h)), (fun h => f20 (by simpa using h)), (fun _ => rfl), (fun h => f23 (by simpa using h)), (fun h => f25 (by simpa using h)), (by simpa using (kX)), (by simpa using (kY)), (by simpa using (kZ)), (fun h => by simpa using o22_1 (by simpa using h)), (fun h => by simpa using o22_3 (by simpa using h)), (fun h => by simpa using o24_8 (by simpa using h)), (fun h => by simpa using o24_10 (by simpa using h)), (fun h => by simpa using o26_15 (by simpa using h)), (fun h => by simpa using o26_17 (by simpa using h))⟩
        · intro d a2 w2 hd hm ⟨u20, u21, u22, u23, u24, u25, u26, u27, u28, u29, u30, u31, u32, u33, u34, u35, u36, u37, u38, u39, u40, u41, u42, u43, e, HB, f0, f1, f2, f3, f4, f5, f6, f7, f8, f9, f10, f11, f12, f13, f14, f15, f16, f17, f18, f19, f20, f21, f23, f25, kX, kY, kZ, o22_1, o22_3, o24_8, o24_10, o26_15, o26_17⟩ K hK
          subst e
          simp only [Act.put, List.setIfInBounds_toArray, List.set_cons_zero, List.set_cons_succ]
          obtain rfl := f21 (hm ⟨21, .data⟩ (by simp) rfl)
          clear f21
          obtain rfl := f6 (hm ⟨6, .data⟩ (by simp) rfl)
          clear f6
          have hs := kX.1 hd
          obtain ⟨k0, k1, k2, k3, k4⟩ := id hs
          go_simp
          exact hK.out _ _ ⟨u20, u21, u22, u23, u24, u25, .slice A1 l1 c1, u27, u28, u29, u30, u31, u32, u33, u34, u35, u36, u37, u38, u39, u40, .pointer (some ⟨w.heap.size, 0, none⟩), u42, u43, (by simp only [Act.put, List.setIfInBounds_toArray, List.set_cons_zero, List.set_cons_succ]), HB.setCell (by simp <;> omega) _, (fun h => f0 (by simpa using h)), (fun h => f1 (by simpa using h)), (fun h => f2 (by simpa using h)), (fun h => f3 (by simpa using h)), (fun h => f4 (by simpa using h)), (fun h => f5 (by simpa using h)), (fun _ => rfl), (fun h => f7 (by simpa using h)), (fun h => f8 (by simpa using h)), (fun h => f9 (by simpa using h)), (fun h => f10 (by simpa using h)), (fun h => f11 (by simpa using h)), (fun h => f12 (by simpa using h)), (fun h => f13 (by simpa using h)), (fun h => f14 (by simpa using h)), (fun h => f15 (by simpa using h)), (fun h => f16 (by simpa using h)), (fun h => f17 (by simpa using h)), (fun h => f18 (by simpa using h)), (fun h => f19 (by simpa using h)), (fun h => f20 (by simpa using h)), (fun _ => rfl), (fun h => f23 (by simpa using h)), (fun h => f25 (by simpa using h)), (by simpa using BlkS.near hs), (by simpa using (kY).far (by omega) _), (by simpa using (kZ).far (by omega) _), (fun _ => by simpa using hm ⟨1, .phase⟩ (by simp) rfl), (fun _ => by simpa using hm ⟨3, .phase⟩ (by simp) rfl), (fun h => by simpa using o24_8 (by simpa using h)), (fun h => by simpa using o24_10 (by simpa using h)), (fun h => by simpa using o26_15 (by simpa using h)), (fun h => by simpa using o26_17 (by simpa using h))⟩
        · intro d a2 w2 hd hm ⟨u20, u21, u22, u23, u24, u25, u26, u27, u28, u29, u30, u31, u32, u33, u34, u35, u36, u37, u38, u39, u40, u41, u42, u43, e, HB, f0, f1, f2, f3, f4, f5, f6, f7, f8, f9, f10, f11, f12, f13, f14, f15, f16, f17, f18, f19, f20, f21, f23, f25, kX, kY, kZ, o22_1, o22_3, o24_8, o24_10, o26_15, o26_17⟩ K hK
          subst e
          simp only [Act.put, List.setIfInBounds_toArray, List.set_cons_zero, List.set_cons_succ]
          go_simp
          exact hK.out _ _ ⟨u20, u21, u22, u23, u24, u25, u26, u27, u28, u29, u30, u31, u32, u33, u34, u35, u36, u37, u38, u39, u40, u41, .pointer (some ⟨w.heap.size + 1, 0, none⟩), u43, (by simp only [Act.put, List.setIfInBounds_toArray, List.set_cons_zero, List.set_cons_succ]), HB, (fun h => f0 (by simpa using h)), (fun h => f1 (by simpa using h)), (fun h => f2 (by simpa using h)), (fun h => f3 (by simpa using h)), (fun h => f4 (by simpa using h)), (fun h => f5 (by simpa using h)), (fun h => f6 (by simpa using h)), (fun h => f7 (by simpa using h)), (fun h => f8 (by simpa using h)), (fun h => f9 (by simpa using h)), (fun h => f10 (by simpa using h)), (fun h => f11 (by simpa using h)), (fun h => f12 (by simpa using h)), (fun h => f13 (by simpa using h)), (fun h => f14 (by simpa using h)), (fun h => f15 (by simpa using h)), (fun h => f16 (by simpa using h)), (fun h => f17 (by simpa using h)), (fun h => f18 (by simpa using h)), (fun h => f19 (by simpa using h)), (fun h => f20 (by simpa using h)), (fun h => f21 (by simpa using h)), (fun _ => rfl), (fun h => f25 (by simpa using h)), (by simpa using (kX)), (by simpa using (kY)), (by simpa using (kZ)), (fun h => by simpa using o22_1 (by simpa using h)), (fun h => by simpa using o22_3 (by simpa using h)), (fun h => by simpa using o24_8 (by simpa using h)), (fun h => by simpa using o24_10 (by simpa using h)), (fun h => by simpa using o26_15 (by simpa using h)), (fun h => by simpa using o26_17 (by simpa using h))⟩
        · intro d a2 w2 hd hm ⟨u20, u21, u22, u23, u24, u25, u26, u27, u28, u29, u30, u31, u32, u33, u34, u35, u36, u37, u38, u39, u40, u41, u42, u43, e, HB, f0, f1, f2, f3, f4, f5, f6, f7, f8, f9, f10, f11, f12, f13, f14, f15, f16, f17, f18, f19, f20, f21, f23, f25, kX, kY, kZ, o22_1, o22_3, o24_8, o24_10, o26_15, o26_17⟩ K hK
          subst e
          simp only [Act.put, List.setIfInBounds_toArray, List.set_cons_zero, List.set_cons_succ]
          obtain rfl := f23 (hm ⟨23, .data⟩ (by simp) rfl)
          clear f23
          obtain rfl := f13 (hm ⟨13, .data⟩ (by simp) rfl)
          clear f13
          have hs := kY.1 hd
          obtain ⟨k0, k1, k2, k3, k4⟩ := id hs
          go_simp
          exact hK.out _ _ ⟨u20, u21, u22, u23, u24, u25, u26, u27, u28, u29, u30, u31, u32, .slice A2 l2 c2, u34, u35, u36, u37, u38, u39, u40, u41, .pointer (some ⟨w.heap.size + 1, 0, none⟩), u43, (by simp only [Act.put, List.setIfInBounds_toArray, List.set_cons_zero, List.set_cons_succ]), HB.setCell (by simp <;> omega) _, (fun h => f0 (by simpa using h)), (fun h => f1 (by simpa using h)), (fun h => f2 (by simpa using h)), (fun h => f3 (by simpa using h)), (fun h => f4 (by simpa using h)), (fun h => f5 (by simpa using h)), (fun h => f6 (by simpa using h)), (fun h => f7 (by simpa using h)), (fun h => f8 (by simpa using h)), (fun h => f9 (by simpa using h)), (fun h => f10 (by simpa using h)), (fun h => f11 (by simpa using h)), (fun h => f12 (by simpa using h)), (fun _ => rfl), (fun h => f14 (by simpa using h)), (fun h => f15 (by simpa using h)), (fun h => f16 (by simpa using h)), (fun h => f17 (by simpa using h)), (fun h => f18 (by simpa using h)), (fun h => f19 (by simpa using h)), (fun h => f20 (by simpa using h)), (fun h => f21 (by simpa using h)), (fun _ => rfl), (fun h => f25 (by simpa using h)), (by simpa using (kX).far (by omega) _), (by simpa using BlkS.near hs), (by simpa using (kZ).far (by omega) _), (fun h => by simpa using o22_1 (by simpa using h)), (fun h => by simpa using o22_3 (by simpa using h)), (fun _ => by simpa using hm ⟨8, .phase⟩ (by simp) rfl), (fun _ => by simpa using hm ⟨10, .phase⟩ (by simp) rfl), (fun h => by simpa using o26_15 (by simpa using h)), (fun h => by simpa using o26_17 (by simpa using h))⟩
        · intro d a2 w2 hd hm ⟨u20, u21, u22, u23, u24, u25, u26, u27, u28, u29, u30, u31, u32, u33, u34, u35, u36, u37, u38, u39, u40, u41, u42, u43, e, HB, f0, f1, f2, f3, f4, f5, f6, f7, f8, f9, f10, f11, f12, f13, f14, f15, f16, f17, f18, f19, f20, f21, f23, f25, kX, kY, kZ, o22_1, o22_3, o24_8, o24_10, o26_15, o26_17⟩ K hK
          subst e
          simp only [Act.put, List.setIfInBounds_toArray, List.set_cons_zero, List.set_cons_succ]
          go_simp
          exact hK.out _ _ ⟨u20, u21, u22, u23, u24, u25, u26, u27, u28, u29, u30, u31, u32, u33, u34, u35, u36, u37, u38, u39, u40, u41, u42, .pointer (some ⟨w.heap.size + 1 + 1, 0, none⟩), (by simp only [Act.put, List.setIfInBounds_toArray, List.set_cons_zero, List.set_cons_succ]), HB, (fun h => f0 (by simpa using h)), (fun h => f1 (by simpa using h)), (fun h => f2 (by simpa using h)), (fun h => f3 (by simpa using h)), (fun h => f4 (by simpa using h)), (fun h => f5 (by simpa using h)), (fun h => f6 (by simpa using h)), (fun h => f7 (by simpa using h)), (fun h => f8 (by simpa using h)), (fun h => f9 (by simpa using h)), (fun h => f10 (by simpa using h)), (fun h => f11 (by simpa using h)), (fun h => f12 (by simpa using h)), (fun h => f13 (by simpa using h)), (fun h => f14 (by simpa using h)), (fun h => f15 (by simpa using h)), (fun h => f16 (by simpa using h)), (fun h => f17 (by simpa using h)), (fun h => f18 (by simpa using h)), (fun h => f19 (by simpa using h)), (fun h => f20 (by simpa using h)), (fun h => f21 (by simpa using h)), (fun h => f23 (by simpa using h)), (fun _ => rfl), (by simpa using (kX)), (by simpa using (kY)), (by simpa using (kZ)), (fun h => by simpa using o22_1 (by simpa using h)), (fun h => by simpa using o22_3 (by simpa using h)), (fun h => by simpa using o24_8 (by simpa using h)), (fun h => by simpa using o24_10 (by simpa using h)), (fun h => by simpa using o26_15 (by simpa using h)), (fun h => by simpa using o26_17 (by simpa using h))⟩
        · intro d a2 w2 hd hm ⟨u20, u21, u22, u23, u24, u25, u26, u27, u28, u29, u30, u31, u32, u33, u34, u35, u36, u37, u38, u39, u40, u41, u42, u43, e, HB, f0, f1, f2, f3, f4, f5, f6, f7, f8, f9, f10, f11, f12, f13, f14, f15, f16, f17, f18, f19, f20, f21, f23, f25, kX, kY, kZ, o22_1, o22_3, o24_8, o24_10, o26_15, o26_17⟩ K hK
          subst e
          simp only [Act.put, List.setIfInBounds_toArray, List.set_cons_zero, List.set_cons_succ]
          obtain rfl := f25 (hm ⟨25, .data⟩ (by simp) rfl)
          clear f25
          obtain rfl := f20 (hm ⟨20, .data⟩ (by simp) rfl)
          clear f20
          have hs := kZ.1 hd
          obtain ⟨k0, k1, k2, k3, k4⟩ := id hs
          go_simp
          exact hK.out _ _ ⟨u20, u21, u22, u23, u24, u25, u26, u27, u28, u29, u30, u31, u32, u33, u34, u35, u36, u37, u38, u39, .slice A3 l3 c3, u41, u42, .pointer (some ⟨w.heap.size + 1 + 1, 0, none⟩), (by simp only [Act.put, List.setIfInBounds_toArray, List.set_cons_zero, List.set_cons_succ]), HB.setCell (by simp <;> omega) _, (fun h => f0 (by simpa using h)), (fun h => f1 (by simpa using h)), (fun h => f2 (by simpa using h)), (fun h => f3 (by simpa using h)), (fun h => f4 (by simpa using h)), (fun h => f5 (by simpa using h)), (fun h => f6 (by simpa using h)), (fun h => f7 (by simpa using h)), (fun h => f8 (by simpa using h)), (fun h => f9 (by simpa using h)), (fun h => f10 (by simpa using h)), (fun h => f11 (by simpa using h)), (fun h => f12 (by simpa using h)), (fun h => f13 (by simpa using h)), (fun h => f14 (by simpa using h)), (fun h => f15 (by simpa using h)), (fun h => f16 (by simpa using h)), (fun h => f17 (by simpa using h)), (fun h => f18 (by simpa using h)), (fun h => f19 (by simpa using h)), (fun _ => rfl), (fun h => f21 (by simpa using h)), (fun h => f23 (by simpa using h)), (fun _ => rfl), (by simpa using (kX).far (by omega) _), (by simpa using (kY).far (by omega) _), (by simpa using BlkS.near hs), (fun h => by simpa using o22_1 (by simpa using h)), (fun h => by simpa using o22_3 (by simpa using h)), (fun h => by simpa using o24_8 (by simpa using h)), (fun h => by simpa using o24_10 (by simpa using h)), (fun _ => by simpa using hm ⟨15, .phase⟩ (by simp) rfl), (fun _ => by simpa using hm ⟨17, .phase⟩ (by simp) rfl)⟩
      · intro d a2 w2 hall ⟨u20, u21, u22, u23, u24, u25, u26, u27, u28, u29, u30, u31, u32, u33, u34, u35, u36, u37, u38, u39, u40, u41, u42, u43, e, HB, f0, f1, f2, f3, f4, f5, f6, f7, f8, f9, f10, f11, f12, f13, f14, f15, f16, f17, f18, f19, f20, f21, f23, f25, kX, kY, kZ, o22_1, o22_3, o24_8, o24_10, o26_15, o26_17⟩
        subst e
        simp only [Act.put, List.setIfInBounds_toArray, List.set_cons_zero, List.set_cons_succ]
        obtain rfl := f0 (hall _ (by decide))
        obtain rfl := f1 (hall _ (by decide))
        obtain rfl := f2 (hall _ (by decide))
        obtain rfl := f3 (hall _ (by decide))
        obtain rfl := f4 (hall _ (by decide))
        obtain rfl := f5 (hall _ (by decide))
        obtain rfl := f6 (hall _ (by decide))
        obtain rfl := f7 (hall _ (by decide))
        obtain rfl := f8 (hall _ (by decide))
        obtain rfl := f9 (hall _ (by decide))
        obtain rfl := f10 (hall _ (by decide))
        obtain rfl := f11 (hall _ (by decide))
        obtain rfl := f12 (hall _ (by decide))
        obtain rfl := f13 (hall _ (by decide))
        obtain rfl := f14 (hall _ (by decide))
        obtain rfl := f15 (hall _ (by decide))
        obtain rfl := f16 (hall _ (by decide))
        obtain rfl := f17 (hall _ (by decide))
        obtain rfl := f18 (hall _ (by decide))
        obtain rfl := f19 (hall _ (by decide))
        obtain rfl := f20 (hall _ (by decide))
        obtain rfl := f21 (hall _ (by decide))
        obtain rfl := f23 (hall _ (by decide))
        obtain rfl := f25 (hall _ (by decide))
        have eX := kX.2 (hall _ (by decide))
        have eY := kY.2 (hall _ (by decide))
        have eZ := kZ.2 (hall _ (by decide))
        go_wp2_with fail
        go_meet
        exact ⟨HB, eX, eY, eZ⟩
  case rest =>
  obtain ⟨B2, X2, Y2, Z2⟩ := hcut
  clear X1 Y1 Z1 B1 e1 e2 e3 e4 e5 e6 i1 i2 i3 i4 i5 i6
  obtain ⟨W2, rfl⟩ : ∃ x : World, x = wc := ⟨_, rfl⟩
  go_wp2_with fail
  go_cut [8, 9, 10] (fun p8 p9 p10 wx => ∃ g8 g9 g10 : Nat, p8 = .pointer (some ⟨g8, 0, none⟩) ∧ p9 = .pointer (some ⟨g9, 0, none⟩) ∧ p10 = .pointer (some ⟨g10, 0, none⟩) ∧ Bag wx [(g8, a), (g9, b), (g10, c)] ∧ Below W2.heap.size W2 wx)
  case first =>
    as_aux_lemma =>
      have HX : Hid (∀ W, Below W2.heap.size W2 W → (Slot2 W w.heap.size (.slice A1 l1 c1) (.bool s1) ∧ Slot2 W (w.heap.size + 1) (.slice A2 l2 c2) (.bool s2) ∧ Slot2 W (w.heap.size + 1 + 1) (.slice A3 l3 c3) (.bool s3))) := fun W hW => ⟨X2.after hW, Y2.after hW, Z2.after hW⟩
      clear X2 Y2 Z2
      refine wp_region_ev (fun d a0 a' w' => ∃ u44 u45 u46 u47 u48 u49 u8 u9 u10 : Value, a' = (((((((((a0.put (some 44) u44).put (some 45) u45).put (some 46) u46).put (some 47) u47).put (some 48) u48).put (some 49) u49).put (some 8) u8).put (some 9) u9).put (some 10) u10) ∧ Below W2.heap.size W2 w' ∧ (d 0 = true → u44 = .agg #[.slice A1 l1 c1, .bool s1]) ∧ (d 1 = true → IntV w' u45 (a)) ∧ (d 2 = true → u46 = .agg #[.slice A2 l2 c2, .bool s2]) ∧ (d 3 = true → IntV w' u47 (b)) ∧ (d 4 = true → u48 = .agg #[.slice A3 l3 c3, .bool s3]) ∧ (d 5 = true → IntV w' u49 (c)) ∧ (d 6 = true → OwnP W2.heap.size w' u8 (d 9) (a)) ∧ (d 7 = true → OwnP W2.heap.size w' u9 (d 10) (b)) ∧ (d 8 = true → OwnP W2.heap.size w' u10 (d 11) (c)) ∧ (d 6 = true → d 7 = true → u8 ≠ u9) ∧ (d 6 = true → d 8 = true → u8 ≠ u10) ∧ (d 7 = true → d 8 = true → u9 ≠ u10) ∧ (d 9 = true → d 6 = true) ∧ (d 10 = true → d 7 = true) ∧ (d 11 = true → d 8 = true)) (by kernel_rfl) (by kernel_rfl) ?_ ?_ ?_ ?_
      · intro d d' h a' w' hh
        obtain rfl : d = d' := funext h
        exact hh
      · exact ⟨_, _, _, _, _, _, _, _, _, (by simp only [Act.put, List.setIfInBounds_toArray, List.set_cons_zero, List.set_cons_succ]; rfl), (Below.refl _ _).drew, (fun h => by cases h), (fun h => by cases h), (fun h => by cases h), (fun h => by cases h), (fun h => by cases h), (fun h => by cases h), (fun h => by cases h), (fun h => by cases h), (fun h => by cases h), (fun h => by cases h), (fun h => by cases h), (fun h => by cases h), (fun h => by cases h), (fun h => by cases h), (fun h => by cases h)⟩
      · refine ⟨?_, ?_, ?_, ?_, ?_, ?_, ?_, ?_, ?_, ?_, ?_, ?_, trivial⟩
        · intro d a2 w2 hd hm ⟨u44, u45, u46, u47, u48, u49, u8, u9, u10, e, HB, f0, f1, f2, f3, f4, f5, f6, f7, f8, n01, n02, n12, t0, t1, t2⟩ K hK
          subst e
          simp only [Act.put, List.setIfInBounds_toArray, List.set_cons_zero, List.set_cons_succ]
          obtain ⟨⟨q0, q1, _, _, _⟩, ⟨q2, q3, _, _, _⟩, ⟨q4, q5, _, _, _⟩⟩ := HX.out w2 HB
          go_simp
          exact hK.out _ _ ⟨.agg #[.slice A1 l1 c1, .bool s1], u45, u46, u47, u48, u49, u8, u9, u10, (by simp only [Act.put, List.setIfInBounds_toArray, List.set_cons_zero, List.set_cons_succ]), HB, (fun _ => rfl), (fun h => (f1 (by simpa using h))), (fun h => f2 (by simpa using h)), (fun h => (f3 (by simpa using h))), (fun h => f4 (by simpa using h)), (fun h => (f5 (by simpa using h))), (fun h => by simpa using (f6 (by simpa using h))), (fun h => by simpa using (f7 (by simpa using h))), (fun h => by simpa using (f8 (by simpa using h))), (fun h h' => n01 (by simpa using h) (by simpa using h')), (fun h h' => n02 (by simpa using h) (by simpa using h')), (fun h h' => n12 (by simpa using h) (by simpa using h')), (fun h => by simpa using t0 (by simpa using h)), (fun h => by simpa using t1 (by simpa using h)), (fun h => by simpa using t2 (by simpa using h))⟩
        · intro d a2 w2 hd hm ⟨u44, u45, u46, u47, u48, u49, u8, u9, u10, e, HB, f0, f1, f2, f3, f4, f5, f6, f7, f8, n01, n02, n12, t0, t1, t2⟩ K hK
          subst e
          simp only [Act.put, List.setIfInBounds_toArray, List.set_cons_zero, List.set_cons_succ]
          obtain rfl := f0 (hm ⟨0, .data⟩ (by simp) rfl)
          clear f0
          go_simp
          (with_reducible refine (HM1.out _ (B2.trans (Below.mono HB B2.size))).mono ?_)
          rintro e w3 ⟨gg, AA, nn, cc, rfl, hi, hb⟩
          have HB3 := HB.trans (hb.mono HB.size)
          go_wp2_with fail
          exact hK.out _ _ ⟨.agg #[.slice A1 l1 c1, .bool s1], .agg #[.bool gg, .slice AA nn cc], u46, u47, u48, u49, u8, u9, u10, (by simp only [Act.put, List.setIfInBounds_toArray, List.set_cons_zero, List.set_cons_succ]), HB3, (fun _ => rfl), (fun _ => ⟨_, _, _, _, rfl, hi⟩), (fun h => f2 (by simpa using h)), (fun h => (f3 (by simpa using h)).below hb), (fun h => f4 (by simpa using h)), (fun h => (f5 (by simpa using h)).below hb), (fun h => by simpa using (f6 (by simpa using h)).below hb), (fun h => by simpa using (f7 (by simpa using h)).below hb), (fun h => by simpa using (f8 (by simpa using h)).below hb), (fun h h' => n01 (by simpa using h) (by simpa using h')), (fun h h' => n02 (by simpa using h) (by simpa using h')), (fun h h' => n12 (by simpa using h) (by simpa using h')), (fun h => by simpa using t0 (by simpa using h)), (fun h => by simpa using t1 (by simpa using h)), (fun h => by simpa using t2 (by simpa using h))⟩
        · intro d a2 w2 hd hm ⟨u44, u45, u46, u47, u48, u49, u8, u9, u10, e, HB, f0, f1, f2, f3, f4, f5, f6, f7, f8, n01, n02, n12, t0, t1, t2⟩ K hK
          subst e
          simp only [Act.put, List.setIfInBounds_toArray, List.set_cons_zero, List.set_cons_succ]
          obtain ⟨⟨q0, q1, _, _, _⟩, ⟨q2, q3, _, _, _⟩, ⟨q4, q5, _, _, _⟩⟩ := HX.out w2 HB
          go_simp
          exact hK.out _ _ ⟨u44, u45, .agg #[.slice A2 l2 c2, .bool s2], u47, u48, u49, u8, u9, u10, (by simp only [Act.put, List.setIfInBounds_toArray, List.set_cons_zero, List.set_cons_succ]), HB, (fun h => f0 (by simpa using h)), (fun h => (f1 (by simpa using h))), (fun _ => rfl), (fun h => (f3 (by simpa using h))), (fun h => f4 (by simpa using h)), (fun h => (f5 (by simpa using h))), (fun h => by simpa using (f6 (by simpa using h))), (fun h => by simpa using (f7 (by simpa using h))), (fun h => by simpa using (f8 (by simpa using h))), (fun h h' => n01 (by simpa using h) (by simpa using h')), (fun h h' => n02 (by simpa using h) (by simpa using h')), (fun h h' => n12 (by simpa using h) (by simpa using h')), (fun h => by simpa using t0 (by simpa using h)), (fun h => by simpa using t1 (by simpa using h)), (fun h => by simpa using t2 (by simpa using h))⟩
        · intro d a2 w2 hd hm ⟨u44, u45, u46, u47, u48, u49, u8, u9, u10, e, HB, f0, f1, f2, f3, f4, f5, f6, f7, f8, n01, n02, n12, t0, t1, t2⟩ K hK
          subst e
          simp only [Act.put, List.setIfInBounds_toArray, List.set_cons_zero, List.set_cons_succ]
          obtain rfl := f2 (hm ⟨2, .data⟩ (by simp) rfl)
          clear f2
          go_simp
          (with_reducible refine (HM2.out _ (B2.trans (Below.mono HB B2.size))).mono ?_)
          rintro e w3 ⟨gg, AA, nn, cc, rfl, hi, hb⟩
          have HB3 := HB.trans (hb.mono HB.size)
          go_wp2_with fail
          exact hK.out _ _ ⟨u44, u45, .agg #[.slice A2 l2 c2, .bool s2], .agg #[.bool gg, .slice AA nn cc], u48, u49, u8, u9, u10, (by simp only [Act.put, List.setIfInBounds_toArray, List.set_cons_zero, List.set_cons_succ]), HB3, (fun h => f0 (by simpa using h)), (fun h => (f1 (by simpa using h)).below hb), (fun _ => rfl), (fun _ => ⟨_, _, _, _, rfl, hi⟩), (fun h => f4 (by simpa using h)), (fun h => (f5 (by simpa using h)).below hb), (fun h => by simpa using (f6 (by simpa using h)).below hb), (fun h => by simpa using (f7 (by simpa using h)).below hb), (fun h => by simpa using (f8 (by simpa using h)).below hb), (fun h h' => n01 (by simpa using h) (by simpa using h')), (fun h h' => n02 (by simpa using h) (by simpa using h')), (fun h h' => n12 (by simpa using h) (by simpa using h')), (fun h => by simpa using t0 (by simpa using h)), (fun h => by simpa using t1 (by simpa using h)), (fun h => by simpa using t2 (by simpa using h))⟩
        · intro d a2 w2 hd hm ⟨u44, u45, u46, u47, u48, u49, u8, u9, u10, e, HB, f0, f1, f2, f3, f4, f5, f6, f7, f8, n01, n02, n12, t0, t1, t2⟩ K hK
          subst e
          simp only [Act.put, List.setIfInBounds_toArray, List.set_cons_zero, List.set_cons_succ]
          obtain ⟨⟨q0, q1, _, _, _⟩, ⟨q2, q3, _, _, _⟩, ⟨q4, q5, _, _, _⟩⟩ := HX.out w2 HB
          go_simp
          exact hK.out _ _ ⟨u44, u45, u46, u47, .agg #[.slice A3 l3 c3, .bool s3], u49, u8, u9, u10, (by simp only [Act.put, List.setIfInBounds_toArray, List.set_cons_zero, List.set_cons_succ]), HB, (fun h => f0 (by simpa using h)), (fun h => (f1 (by simpa using h))), (fun h => f2 (by simpa using h)), (fun h => (f3 (by simpa using h))), (fun _ => rfl), (fun h => (f5 (by simpa using h))), (fun h => by simpa using (f6 (by simpa using h))), (fun h => by simpa using (f7 (by simpa using h))), (fun h => by simpa using (f8 (by simpa using h))), (fun h h' => n01 (by simpa using h) (by simpa using h')), (fun h h' => n02 (by simpa using h) (by simpa using h')), (fun h h' => n12 (by simpa using h) (by simpa using h')), (fun h => by simpa using t0 (by simpa using h)), (fun h => by simpa using t1 (by simpa using h)), (fun h => by simpa using t2 (by simpa using h))⟩
        · intro d a2 w2 hd hm ⟨u44, u45, u46, u47, u48, u49, u8, u9, u10, e, HB, f0, f1, f2, f3, f4, f5, f6, f7, f8, n01, n02, n12, t0, t1, t2⟩ K hK
          subst e
          simp only [Act.put, List.setIfInBounds_toArray, List.set_cons_zero, List.set_cons_succ]
          obtain rfl := f4 (hm ⟨4, .data⟩ (by simp) rfl)
          clear f4
          go_simp
          (with_reducible refine (HM3.out _ (B2.trans (Below.mono HB B2.size))).mono ?_)
          rintro e w3 ⟨gg, AA, nn, cc, rfl, hi, hb⟩
          have HB3 := HB.trans (hb.mono HB.size)
          go_wp2_with fail
          exact hK.out _ _ ⟨u44, u45, u46, u47, .agg #[.slice A3 l3 c3, .bool s3], .agg #[.bool gg, .slice AA nn cc], u8, u9, u10, (by simp only [Act.put, List.setIfInBounds_toArray, List.set_cons_zero, List.set_cons_succ]), HB3, (fun h => f0 (by simpa using h)), (fun h => (f1 (by simpa using h)).below hb), (fun h => f2 (by simpa using h)), (fun h => (f3 (by simpa using h)).below hb), (fun _ => rfl), (fun _ => ⟨_, _, _, _, rfl, hi⟩), (fun h => by simpa using (f6 (by simpa using h)).below hb), (fun h => by simpa using (f7 (by simpa using h)).below hb), (fun h => by simpa using (f8 (by simpa using h)).below hb), (fun h h' => n01 (by simpa using h) (by simpa using h')), (fun h h' => n02 (by simpa using h) (by simpa using h')), (fun h h' => n12 (by simpa using h) (by simpa using h')), (fun h => by simpa using t0 (by simpa using h)), (fun h => by simpa using t1 (by simpa using h)), (fun h => by simpa using t2 (by simpa using h))⟩
        · intro d a2 w2 hd hm ⟨u44, u45, u46, u47, u48, u49, u8, u9, u10, e, HB, f0, f1, f2, f3, f4, f5, f6, f7, f8, n01, n02, n12, t0, t1, t2⟩ K hK
          subst e
          simp only [Act.put, List.setIfInBounds_toArray, List.set_cons_zero, List.set_cons_succ]
          have hb : Below w2.heap.size w2 (w2.alloc (.cells #[.bool false, .slice none 0 0] 27)) := (Below.refl _ _).alloc (Nat.le_refl _) _
          have HB3 := HB.trans (hb.mono HB.size)
          go_simp
          exact hK.out _ _ ⟨u44, u45, u46, u47, u48, u49, .pointer (some ⟨w2.heap.size, 0, none⟩), u9, u10, (by simp only [Act.put, List.setIfInBounds_toArray, List.set_cons_zero, List.set_cons_succ]), HB3, (fun h => f0 (by simpa using h)), (fun h => (f1 (by simpa using h)).below hb), (fun h => f2 (by simpa using h)), (fun h => (f3 (by simpa using h)).below hb), (fun h => f4 (by simpa using h)), (fun h => (f5 (by simpa using h)).below hb), (fun _ => by have hs : d 9 = false := (by cases hq : d 9 with | false => rfl | true => (have hz := t0 hq; rw [hd] at hz; cases hz)); simpa [hs] using OwnP.new HB.size (a)), (fun h => by simpa using (f7 (by simpa using h)).below hb), (fun h => by simpa using (f8 (by simpa using h)).below hb), (fun _ h' => ((f7 (by simpa using h')).lt).symm), (fun _ h' => ((f8 (by simpa using h')).lt).symm), (fun h h' => n12 (by simpa using h) (by simpa using h')), (fun _ => by simp), (fun h => by simpa using t1 (by simpa using h)), (fun h => by simpa using t2 (by simpa using h))⟩
        · intro d a2 w2 hd hm ⟨u44, u45, u46, u47, u48, u49, u8, u9, u10, e, HB, f0, f1, f2, f3, f4, f5, f6, f7, f8, n01, n02, n12, t0, t1, t2⟩ K hK
          subst e
          simp only [Act.put, List.setIfInBounds_toArray, List.set_cons_zero, List.set_cons_succ]
          have hb : Below w2.heap.size w2 (w2.alloc (.cells #[.bool false, .slice none 0 0] 27)) := (Below.refl _ _).alloc (Nat.le_refl _) _
          have HB3 := HB.trans (hb.mono HB.size)
          go_simp
          exact hK.out _ _ ⟨u44, u45, u46, u47, u48, u49, u8, .pointer (some ⟨w2.heap.size, 0, none⟩), u10, (by simp only [Act.put, List.setIfInBounds_toArray, List.set_cons_zero, List.set_cons_succ]), HB3, (fun h => f0 (by simpa using h)), (fun h => (f1 (by simpa using h)).below hb), (fun h => f2 (by simpa using h)), (fun h => (f3 (by simpa using h)).below hb), (fun h => f4 (by simpa using h)), (fun h => (f5 (by simpa using h)).below hb), (fun h => by simpa using (f6 (by simpa using h)).below hb), (fun _ => by have hs : d 10 = false := (by cases hq : d 10 with | false => rfl | true => (have hz := t1 hq; rw [hd] at hz; cases hz)); simpa [hs] using OwnP.new HB.size (b)), (fun h => by simpa using (f8 (by simpa using h)).below hb), (fun h _ => (f6 (by simpa using h)).lt), (fun h h' => n02 (by simpa using h) (by simpa using h')), (fun _ h' => ((f8 (by simpa using h')).lt).symm), (fun h => by simpa using t0 (by simpa using h)), (fun _ => by simp), (fun h => by simpa using t2 (by simpa using h))⟩
        · intro d a2 w2 hd hm ⟨u44, u45, u46, u47, u48, u49, u8, u9, u10, e, HB, f0, f1, f2, f3, f4, f5, f6, f7, f8, n01, n02, n12, t0, t1, t2⟩ K hK
          subst e
          simp only [Act.put, List.setIfInBounds_toArray, List.set_cons_zero, List.set_cons_succ]
          have hb : Below w2.heap.size w2 (w2.alloc (.cells #[.bool false, .slice none 0 0] 27)) := (Below.refl _ _).alloc (Nat.le_refl _) _
          have HB3 := HB.trans (hb.mono HB.size)
          go_simp
          exact hK.out _ _ ⟨u44, u45, u46, u47, u48, u49, u8, u9, .pointer (some ⟨w2.heap.size, 0, none⟩), (by simp only [Act.put, List.setIfInBounds_toArray, List.set_cons_zero, List.set_cons_succ]), HB3, (fun h => f0 (by simpa using h)), (fun h => (f1 (by simpa using h)).below hb), (fun h => f2 (by simpa using h)), (fun h => (f3 (by simpa using h)).below hb), (fun h => f4 (by simpa using h)), (fun h => (f5 (by simpa using h)).below hb), (fun h => by simpa using (f6 (by simpa using h)).below hb), (fun h => by simpa using (f7 (by simpa using h)).below hb), (fun _ => by have hs : d 11 = false := (by cases hq : d 11 with | false => rfl | true => (have hz := t2 hq; rw [hd] at hz; cases hz)); simpa [hs] using OwnP.new HB.size (c)), (fun h h' => n01 (by simpa using h) (by simpa using h')), (fun h _ => (f6 (by simpa using h)).lt), (fun h _ => (f7 (by simpa using h)).lt), (fun h => by simpa using t0 (by simpa using h)), (fun h => by simpa using t1 (by simpa using h)), (fun _ => by simp)⟩
        · intro d a2 w2 hd hm ⟨u44, u45, u46, u47, u48, u49, u8, u9, u10, e, HB, f0, f1, f2, f3, f4, f5, f6, f7, f8, n01, n02, n12, t0, t1, t2⟩ K hK
          subst e
          simp only [Act.put, List.setIfInBounds_toArray, List.set_cons_zero, List.set_cons_succ]
          obtain ⟨gg, AA, nn, cc, rfl, hi⟩ := f1 (hm ⟨1, .data⟩ (by simp) rfl)
          obtain ⟨g, rfl, hg, b0, b1, hs, n0, n1, _⟩ := f6 (hm ⟨6, .data⟩ (by simp) rfl)
          obtain ⟨k0, k1, k2, k3, k4⟩ := id hs
          go_simp
          exact hK.out _ _ ⟨u44, .agg #[.bool gg, .slice AA nn cc], u46, u47, u48, u49, .pointer (some ⟨g, 0, none⟩), u9, u10, (by simp only [Act.put, List.setIfInBounds_toArray, List.set_cons_zero, List.set_cons_succ]), Below.set2 HB hg _ _, (fun h => f0 (by simpa using h)), (fun h => (f1 (by simpa using h)).set2 hs n0 n1 _ _), (fun h => f2 (by simpa using h)), (fun h => (f3 (by simpa using h)).set2 hs n0 n1 _ _), (fun h => f4 (by simpa using h)), (fun h => (f5 (by simpa using h)).set2 hs n0 n1 _ _), (fun _ => by simpa using OwnP.near hi hg hs n0 n1), (fun h => by simpa using (f7 (by simpa using h)).far ((n01 (hm ⟨6, .data⟩ (by simp) rfl) (by simpa using h)).symm) hs n0 n1 _ _), (fun h => by simpa using (f8 (by simpa using h)).far ((n02 (hm ⟨6, .data⟩ (by simp) rfl) (by simpa using h)).symm) hs n0 n1 _ _), (fun h h' => n01 (by simpa using h) (by simpa using h')), (fun h h' => n02 (by simpa using h) (by simpa using h')), (fun h h' => n12 (by simpa using h) (by simpa using h')), (fun _ => by simpa using hm ⟨6, .data⟩ (by simp) rfl), (fun h => by simpa using t1 (by simpa using h)), (fun h => by simpa using t2 (by simpa using h))⟩
        · intro d a2 w2 hd hm ⟨u44, u45, u46, u47, u48, u49, u8, u9, u10, e, HB, f0, f1, f2, f3, f4, f5, f6, f7, f8, n01, n02, n12, t0, t1, t2⟩ K hK
          subst e
          simp only [Act.put, List.setIfInBounds_toArray, List.set_cons_zero, List.set_cons_succ]
          obtain ⟨gg, AA, nn, cc, rfl, hi⟩ := f3 (hm ⟨3, .data⟩ (by simp) rfl)
          obtain ⟨g, rfl, hg, b0, b1, hs, n0, n1, _⟩ := f7 (hm ⟨7, .data⟩ (by simp) rfl)
          obtain ⟨k0, k1, k2, k3, k4⟩ := id hs
          go_simp
          exact hK.out _ _ ⟨u44, u45, u46, .agg #[.bool gg, .slice AA nn cc], u48, u49, u8, .pointer (some ⟨g, 0, none⟩), u10, (by simp only [Act.put, List.setIfInBounds_toArray, List.set_cons_zero, List.set_cons_succ]), Below.set2 HB hg _ _, (fun h => f0 (by simpa using h)), (fun h => (f1 (by simpa using h)).set2 hs n0 n1 _ _), (fun h => f2 (by simpa using h)), (fun h => (f3 (by simpa using h)).set2 hs n0 n1 _ _), (fun h => f4 (by simpa using h)), (fun h => (f5 (by simpa using h)).set2 hs n0 n1 _ _), (fun h => by simpa using (f6 (by simpa using h)).far (n01 (by simpa using h) (hm ⟨7, .data⟩ (by simp) rfl)) hs n0 n1 _ _), (fun _ => by simpa using OwnP.near hi hg hs n0 n1), (fun h => by simpa using (f8 (by simpa using h)).far ((n12 (hm ⟨7, .data⟩ (by simp) rfl) (by simpa using h)).symm) hs n0 n1 _ _), (fun h h' => n01 (by simpa using h) (by simpa using h')), (fun h h' => n02 (by simpa using h) (by simpa using h')), (fun h h' => n12 (by simpa using h) (by simpa using h')), (fun h => by simpa using t0 (by simpa using h)), (fun _ => by simpa using hm ⟨7, .data⟩ (by simp) rfl), (fun h => by simpa using t2 (by simpa using h))⟩
        · intro d a2 w2 hd hm ⟨u44, u45, u46, u47, u48, u49, u8, u9, u10, e, HB, f0, f1, f2, f3, f4, f5, f6, f7, f8, n01, n02, n12, t0, t1, t2⟩ K hK
          subst e
          simp only [Act.put, List.setIfInBounds_toArray, List.set_cons_zero, List.set_cons_succ]
          obtain ⟨gg, AA, nn, cc, rfl, hi⟩ := f5 (hm ⟨5, .data⟩ (by simp) rfl)
          obtain ⟨g, rfl, hg, b0, b1, hs, n0, n1, _⟩ := f8 (hm ⟨8, .data⟩ (by simp) rfl)
          obtain ⟨k0, k1, k2, k3, k4⟩ := id hs
          go_simp
          exact hK.out _ _ ⟨u44, u45, u46, u47, u48, .agg #[.bool gg, .slice AA nn cc], u8, u9, .pointer (some ⟨g, 0, none⟩), (by simp only [Act.put, List.setIfInBounds_toArray, List.set_cons_zero, List.set_cons_succ]), Below.set2 HB hg _ _, (fun h => f0 (by simpa using h)), (fun h => (f1 (by simpa using h)).set2 hs n0 n1 _ _), (fun h => f2 (by simpa using h)), (fun h => (f3 (by simpa using h)).set2 hs n0 n1 _ _), (fun h => f4 (by simpa using h)), (fun h => (f5 (by simpa using h)).set2 hs n0 n1 _ _), (fun h => by simpa using (f6 (by simpa using h)).far (n02 (by simpa using h) (hm ⟨8, .data⟩ (by simp) rfl)) hs n0 n1 _ _), (fun h => by simpa using (f7 (by simpa using h)).far (n12 (by simpa using h) (hm ⟨8, .data⟩ (by simp) rfl)) hs n0 n1 _ _), (fun _ => by simpa using OwnP.near hi hg hs n0 n1), (fun h h' => n01 (by simpa using h) (by simpa using h')), (fun h h' => n02 (by simpa using h) (by simpa using h')), (fun h h' => n12 (by simpa using h) (by simpa using h')), (fun h => by simpa using t0 (by simpa using h)), (fun h => by simpa using t1 (by simpa using h)), (fun _ => by simpa using hm ⟨8, .data⟩ (by simp) rfl)⟩
      · intro d a2 w2 hall ⟨u44, u45, u46, u47, u48, u49, u8, u9, u10, e, HB, f0, f1, f2, f3, f4, f5, f6, f7, f8, n01, n02, n12, t0, t1, t2⟩
        subst e
        simp only [Act.put, List.setIfInBounds_toArray, List.set_cons_zero, List.set_cons_succ]
        obtain rfl := f0 (hall _ (by decide))
        obtain rfl := f2 (hall _ (by decide))
        obtain rfl := f4 (hall _ (by decide))
        obtain ⟨g0, rfl, h0, b0⟩ := OwnP.intAtB (by have := f6 (hall _ (by decide)); rwa [hall 9 (by decide)] at this)
        obtain ⟨g1, rfl, h1, b1⟩ := OwnP.intAtB (by have := f7 (hall _ (by decide)); rwa [hall 10 (by decide)] at this)
        obtain ⟨g2, rfl, h2, b2⟩ := OwnP.intAtB (by have := f8 (hall _ (by decide)); rwa [hall 11 (by decide)] at this)
        go_wp2_with fail
        go_meet
        exact ⟨g0, g1, g2, rfl, rfl, rfl, Bag.cons h0 (Bag.cons h1 (Bag.cons h2 (bag_nil _))), HB⟩
  case rest =>
  obtain ⟨ba, bb, bc, rfl, rfl, rfl, BG3, D3⟩ := hcut
  have B3 := B2.trans (D3.mono B2.size)
  clear X2 Y2 Z2 B2 D3
  obtain ⟨W3, rfl⟩ : ∃ x : World, x = wc := ⟨_, rfl⟩
  go_wp2_with fail
  go_cut [11, 12] (fun p11 p12 wx => ∃ g11 g12 : Nat, p11 = .pointer (some ⟨g11, 0, none⟩) ∧ p12 = .pointer (some ⟨g12, 0, none⟩) ∧ Bag wx [(g11, ((Nat.gcd a.natAbs b.natAbs : Nat) : Int)), (g12, ((Nat.gcd (a * c).natAbs (b * c).natAbs : Nat) : Int))] ∧ Below W3.heap.size W3 wx)
  case first =>
    as_aux_lemma =>
      obtain ⟨ga, Aa, na, ca, Sa, Ia⟩ := BG3 (ba, a) (by simp)
      obtain ⟨gb, Ab, nb, cb, Sb, Ib⟩ := BG3 (bb, b) (by simp)
      obtain ⟨gc, Ac, nc, cc0, Sc, Ic⟩ := BG3 (bc, c) (by simp)
      have HX : Hid (∀ W, Below W3.heap.size W3 W → (Slot2 W ba (.bool ga) (.slice Aa na ca) ∧ Slot2 W bb (.bool gb) (.slice Ab nb cb) ∧ Slot2 W bc (.bool gc) (.slice Ac nc cc0))) := fun W hW => ⟨Sa.after hW, Sb.after hW, Sc.after hW⟩
      have Zac := Sz.mul Za Zc (by decide)
      have Zbc := Sz.mul Zb Zc (by decide)
      clear Sa Sb Sc BG3
      refine wp_region_ev (fun d a0 a' w' => ∃ u50 u51 u52 u53 u54 u55 u56 u57 u58 u59 u11 u12 : Value, a' = ((((((((((((a0.put (some 50) u50).put (some 51) u51).put (some 52) u52).put (some 53) u53).put (some 54) u54).put (some 55) u55).put (some 56) u56).put (some 57) u57).put (some 58) u58).put (some 59) u59).put (some 11) u11).put (some 12) u12) ∧ Below W3.heap.size W3 w' ∧ (d 0 = true → u50 = .agg #[.bool ga, .slice Aa na ca]) ∧ (d 1 = true → u51 = .agg #[.bool gb, .slice Ab nb cb]) ∧ (d 2 = true → IntV w' u52 (((Nat.gcd a.natAbs b.natAbs : Nat) : Int))) ∧ (d 3 = true → u53 = .agg #[.bool ga, .slice Aa na ca]) ∧ (d 4 = true → u54 = .agg #[.bool gc, .slice Ac nc cc0]) ∧ (d 5 = true → IntV w' u55 (a * c)) ∧ (d 6 = true → u56 = .agg #[.bool gb, .slice Ab nb cb]) ∧ (d 7 = true → u57 = .agg #[.bool gc, .slice Ac nc cc0]) ∧ (d 8 = true → IntV w' u58 (b * c)) ∧ (d 9 = true → IntV w' u59 (((Nat.gcd (a * c).natAbs (b * c).natAbs : Nat) : Int))) ∧ (d 10 = true → OwnP W3.heap.size w' u11 (d 12) (((Nat.gcd a.natAbs b.natAbs : Nat) : Int))) ∧ (d 11 = true → OwnP W3.heap.size w' u12 (d 13) (((Nat.gcd (a * c).natAbs (b * c).natAbs : Nat) : Int))) ∧ (d 10 = true → d 11 = true → u11 ≠ u12) ∧ (d 12 = true → d 10 = true) ∧ (d 13 = true → d 11 = true)) (by kernel_rfl) (by kernel_rfl) ?_ ?_ ?_ ?_
      · intro d d' h a' w' hh
        obtain rfl : d = d' := funext h
        exact hh
      · exact ⟨_, _, _, _, _, _, _, _, _, _, _, _, (by simp only [Act.put, List.setIfInBounds_toArray, List.set_cons_zero, List.set_cons_succ]; rfl), (Below.refl _ _).drew, (fun h => by cases h), (fun h => by cases h), (fun h => by cases h), (fun h => by cases h), (fun h => by cases h), (fun h => by cases h), (fun h => by cases h), (fun h => by cases h), (fun h => by cases h), (fun h => by cases h), (fun h => by cases h), (fun h => by cases h), (fun h => by cases h), (fun h => by cases h), (fun h => by cases h)⟩
      · refine ⟨?_, ?_, ?_, ?_, ?_, ?_, ?_, ?_, ?_, ?_, ?_, ?_, ?_, ?_, trivial⟩
        · intro d a2 w2 hd hm ⟨u50, u51, u52, u53, u54, u55, u56, u57, u58, u59, u11, u12, e, HB, f0, f1, f2, f3, f4, f5, f6, f7, f8, f9, f10, f11, n01, t0, t1⟩ K hK
          subst e
          simp only [Act.put, List.setIfInBounds_toArray, List.set_cons_zero, List.set_cons_succ]
          obtain ⟨⟨q0, q1, _, _, _⟩, ⟨q2, q3, _, _, _⟩, ⟨q4, q5, _, _, _⟩⟩ := HX.out w2 HB
          go_simp
          exact hK.out _ _ ⟨.agg #[.bool ga, .slice Aa na ca], u51, u52, u53, u54, u55, u56, u57, u58, u59, u11, u12, (by simp only [Act.put, List.setIfInBounds_toArray, List.set_cons_zero, List.set_cons_succ]), HB, (fun _ => rfl), (fun h => f1 (by simpa using h)), (fun h => (f2 (by simpa using h))), (fun h => f3 (by simpa using h)), (fun h => f4 (by simpa using h)), (fun h => (f5 (by simpa using h))), (fun h => f6 (by simpa using h)), (fun h => f7 (by simpa using h)), (fun h => (f8 (by simpa using h))), (fun h => (f9 (by simpa using h))), (fun h => by simpa using (f10 (by simpa using h))), (fun h => by simpa using (f11 (by simpa using h))), (fun h h' => n01 (by simpa using h) (by simpa using h')), (fun h => by simpa using t0 (by simpa using h)), (fun h => by simpa using t1 (by simpa using h))⟩
        · intro d a2 w2 hd hm ⟨u50, u51, u52, u53, u54, u55, u56, u57, u58, u59, u11, u12, e, HB, f0, f1, f2, f3, f4, f5, f6, f7, f8, f9, f10, f11, n01, t0, t1⟩ K hK
          subst e
          simp only [Act.put, List.setIfInBounds_toArray, List.set_cons_zero, List.set_cons_succ]
          obtain ⟨⟨q0, q1, _, _, _⟩, ⟨q2, q3, _, _, _⟩, ⟨q4, q5, _, _, _⟩⟩ := HX.out w2 HB
          go_simp
          exact hK.out _ _ ⟨u50, .agg #[.bool gb, .slice Ab nb cb], u52, u53, u54, u55, u56, u57, u58, u59, u11, u12, (by simp only [Act.put, List.setIfInBounds_toArray, List.set_cons_zero, List.set_cons_succ]), HB, (fun h => f0 (by simpa using h)), (fun _ => rfl), (fun h => (f2 (by simpa using h))), (fun h => f3 (by simpa using h)), (fun h => f4 (by simpa using h)), (fun h => (f5 (by simpa using h))), (fun h => f6 (by simpa using h)), (fun h => f7 (by simpa using h)), (fun h => (f8 (by simpa using h))), (fun h => (f9 (by simpa using h))), (fun h => by simpa using (f10 (by simpa using h))), (fun h => by simpa using (f11 (by simpa using h))), (fun h h' => n01 (by simpa using h) (by simpa using h')), (fun h => by simpa using t0 (by simpa using h)), (fun h => by simpa using t1 (by simpa using h))⟩
        · intro d a2 w2 hd hm ⟨u50, u51, u52, u53, u54, u55, u56, u57, u58, u59, u11, u12, e, HB, f0, f1, f2, f3, f4, f5, f6, f7, f8, f9, f10, f11, n01, t0, t1⟩ K hK
          subst e
          simp only [Act.put, List.setIfInBounds_toArray, List.set_cons_zero, List.set_cons_succ]
          obtain rfl := f0 (hm ⟨0, .data⟩ (by simp) rfl)
          clear f0
          obtain rfl := f1 (hm ⟨1, .data⟩ (by simp) rfl)
          clear f1
          go_simp
          (with_reducible refine (gcd_z ga gb Aa Ab na ca nb cb _ (Ia.below HB) (Ib.below HB) Za Zb).mono ?_)
          rintro e w3 ⟨gg, AA, nn, cc, rfl, hi, hb⟩
          have HB3 := HB.trans (hb.mono HB.size)
          go_wp2_with fail
          exact hK.out _ _ ⟨.agg #[.bool ga, .slice Aa na ca], .agg #[.bool gb, .slice Ab nb cb], .agg #[.bool gg, .slice AA nn cc], u53, u54, u55, u56, u57, u58, u59, u11, u12, (by simp only [Act.put, List.setIfInBounds_toArray, List.set_cons_zero, List.set_cons_succ]), HB3, (fun _ => rfl), (fun _ => rfl), (fun _ => ⟨_, _, _, _, rfl, hi⟩), (fun h => f3 (by simpa using h)), (fun h => f4 (by simpa using h)), (fun h => (f5 (by simpa using h)).below hb), (fun h => f6 (by simpa using h)), (fun h => f7 (by simpa using h)), (fun h => (f8 (by simpa using h)).below hb), (fun h => (f9 (by simpa using h)).below hb), (fun h => by simpa using (f10 (by simpa using h)).below hb), (fun h => by simpa using (f11 (by simpa using h)).below hb), (fun h h' => n01 (by simpa using h) (by simpa using h')), (fun h => by simpa using t0 (by simpa using h)), (fun h => by simpa using t1 (by simpa using h))⟩
        · intro d a2 w2 hd hm ⟨u50, u51, u52, u53, u54, u55, u56, u57, u58, u59, u11, u12, e, HB, f0, f1, f2, f3, f4, f5, f6, f7, f8, f9, f10, f11, n01, t0, t1⟩ K hK
          subst e
          simp only [Act.put, List.setIfInBounds_toArray, List.set_cons_zero, List.set_cons_succ]
          obtain ⟨⟨q0, q1, _, _, _⟩, ⟨q2, q3, _, _, _⟩, ⟨q4, q5, _, _, _⟩⟩ := HX.out w2 HB
          go_simp
          exact hK.out _ _ ⟨u50, u51, u52, .agg #[.bool ga, .slice Aa na ca], u54, u55, u56, u57, u58, u59, u11, u12, (by simp only [Act.put, List.setIfInBounds_toArray, List.set_cons_zero, List.set_cons_succ]), HB, (fun h => f0 (by simpa using h)), (fun h => f1 (by simpa using h)), (fun h => (f2 (by simpa using h))), (fun _ => rfl), (fun h => f4 (by simpa using h)), (fun h => (f5 (by simpa using h))), (fun h => f6 (by simpa using h)), (fun h => f7 (by simpa using h)), (fun h => (f8 (by simpa using h))), (fun h => (f9 (by simpa using h))), (fun h => by simpa using (f10 (by simpa using h))), (fun h => by simpa using (f11 (by simpa using h))), (fun h h' => n01 (by simpa using h) (by simpa using h')), (fun h => by simpa using t0 (by simpa using h)), (fun h => by simpa using t1 (by simpa using h))⟩
        · intro d a2 w2 hd hm ⟨u50, u51, u52, u53, u54, u55, u56, u57, u58, u59, u11, u12, e, HB, f0, f1, f2, f3, f4, f5, f6, f7, f8, f9, f10, f11, n01, t0, t1⟩ K hK
          subst e
          simp only [Act.put, List.setIfInBounds_toArray, List.set_cons_zero, List.set_cons_succ]
          obtain ⟨⟨q0, q1, _, _, _⟩, ⟨q2, q3, _, _, _⟩, ⟨q4, q5, _, _, _⟩⟩ := HX.out w2 HB
          go_simp
          exact hK.out _ _ ⟨u50, u51, u52, u53, .agg #[.bool gc, .slice Ac nc cc0], u55, u56, u57, u58, u59, u11, u12, (by simp only [Act.put, List.setIfInBounds_toArray, List.set_cons_zero, List.set_cons_succ]), HB, (fun h => f0 (by simpa using h)), (fun h => f1 (by simpa using h)), (fun h => (f2 (by simpa using h))), (fun h => f3 (by simpa using h)), (fun _ => rfl), (fun h => (f5 (by simpa using h))), (fun h => f6 (by simpa using h)), (fun h => f7 (by simpa using h)), (fun h => (f8 (by simpa using h))), (fun h => (f9 (by simpa using h))), (fun h => by simpa using (f10 (by simpa using h))), (fun h => by simpa using (f11 (by simpa using h))), (fun h h' => n01 (by simpa using h) (by simpa using h')), (fun h => by simpa using t0 (by simpa using h)), (fun h => by simpa using t1 (by simpa using h))⟩
        · intro d a2 w2 hd hm ⟨u50, u51, u52, u53, u54, u55, u56, u57, u58, u59, u11, u12, e, HB, f0, f1, f2, f3, f4, f5, f6, f7, f8, f9, f10, f11, n01, t0, t1⟩ K hK
          subst e
          simp only [Act.put, List.setIfInBounds_toArray, List.set_cons_zero, List.set_cons_succ]
          obtain rfl := f3 (hm ⟨3, .data⟩ (by simp) rfl)
          clear f3
          obtain rfl := f4 (hm ⟨4, .data⟩ (by simp) rfl)
          clear f4
          go_simp
          (with_reducible refine (rmul_z ga gc Aa Ac na ca nc cc0 _ (Ia.below HB) (Ic.below HB) Za Zc).mono ?_)
          rintro e w3 ⟨gg, AA, nn, cc, rfl, hi, hb⟩
          have HB3 := HB.trans (hb.mono HB.size)
          go_wp2_with fail
          exact hK.out _ _ ⟨u50, u51, u52, .agg #[.bool ga, .slice Aa na ca], .agg #[.bool gc, .slice Ac nc cc0], .agg #[.bool gg, .slice AA nn cc], u56, u57, u58, u59, u11, u12, (by simp only [Act.put, List.setIfInBounds_toArray, List.set_cons_zero, List.set_cons_succ]), HB3, (fun h => f0 (by simpa using h)), (fun h => f1 (by simpa using h)), (fun h => (f2 (by simpa using h)).below hb), (fun _ => rfl), (fun _ => rfl), (fun _ => ⟨_, _, _, _, rfl, hi⟩), (fun h => f6 (by simpa using h)), (fun h => f7 (by simpa using h)), (fun h => (f8 (by simpa using h)).below hb), (fun h => (f9 (by simpa using h)).below hb), (fun h => by simpa using (f10 (by simpa using h)).below hb), (fun h => by simpa using (f11 (by simpa using h)).below hb), (fun h h' => n01 (by simpa using h) (by simpa using h')), (fun h => by simpa using t0 (by simpa using h)), (fun h => by simpa using t1 (by simpa using h))⟩
        · intro d a2 w2 hd hm ⟨u50, u51, u52, u53, u54, u55, u56, u57, u58, u59, u11, u12, e, HB, f0, f1, f2, f3, f4, f5, f6, f7, f8, f9, f10, f11, n01, t0, t1⟩ K hK
          subst e
          simp only [Act.put, List.setIfInBounds_toArray, List.set_cons_zero, List.set_cons_succ]
          obtain ⟨⟨q0, q1, _, _, _⟩, ⟨q2, q3, _, _, _⟩, ⟨q4, q5, _, _, _⟩⟩ := HX.out w2 HB
          go_simp
          exact hK.out _ _ ⟨u50, u51, u52, u53, u54, u55, .agg #[.bool gb, .slice Ab nb cb], u57, u58, u59, u11, u12, (by simp only [Act.put, List.setIfInBounds_toArray, List.set_cons_zero, List.set_cons_succ]), HB, (fun h => f0 (by simpa using h)), (fun h => f1 (by simpa using h)), (fun h => (f2 (by simpa using h))), (fun h => f3 (by simpa using h)), (fun h => f4 (by simpa using h)), (fun h => (f5 (by simpa using h))), (fun _ => rfl), (fun h => f7 (by simpa using h)), (fun h => (f8 (by simpa using h))), (fun h => (f9 (by simpa using h))), (fun h => by simpa using (f10 (by simpa using h))), (fun h => by simpa using (f11 (by simpa using h))), (fun h h' => n01 (by simpa using h) (by simpa using h')), (fun h => by simpa using t0 (by simpa using h)), (fun h => by simpa using t1 (by simpa using h))⟩
        · intro d a2 w2 hd hm ⟨u50, u51, u52, u53, u54, u55, u56, u57, u58, u59, u11, u12, e, HB, f0, f1, f2, f3, f4, f5, f6, f7, f8, f9, f10, f11, n01, t0, t1⟩ K hK
          subst e
          simp only [Act.put, List.setIfInBounds_toArray, List.set_cons_zero, List.set_cons_succ]
          obtain ⟨⟨q0, q1, _, _, _⟩, ⟨q2, q3, _, _, _⟩, ⟨q4, q5, _, _, _⟩⟩ := HX.out w2 HB
          go_simp
          exact hK.out _ _ ⟨u50, u51, u52, u53, u54, u55, u56, .agg #[.bool gc, .slice Ac nc cc0], u58, u59, u11, u12, (by simp only [Act.put, List.setIfInBounds_toArray, List.set_cons_zero, List.set_cons_succ]), HB, (fun h => f0 (by simpa using h)), (fun h => f1 (by simpa using h)), (fun h => (f2 (by simpa using h))), (fun h => f3 (by simpa using h)), (fun h => f4 (by simpa using h)), (fun h => (f5 (by simpa using h))), (fun h => f6 (by simpa using h)), (fun _ => rfl), (fun h => (f8 (by simpa using h))), (fun h => (f9 (by simpa using h))), (fun h => by simpa using (f10 (by simpa using h))), (fun h => by simpa using (f11 (by simpa using h))), (fun h h' => n01 (by simpa using h) (by simpa using h')), (fun h => by simpa using t0 (by simpa using h)), (fun h => by simpa using t1 (by simpa using h))⟩
        · intro d a2 w2 hd hm ⟨u50, u51, u52, u53, u54, u55, u56, u57, u58, u59, u11, u12, e, HB, f0, f1, f2, f3, f4, f5, f6, f7, f8, f9, f10, f11, n01, t0, t1⟩ K hK
          subst e
          simp only [Act.put, List.setIfInBounds_toArray, List.set_cons_zero, List.set_cons_succ]
          obtain rfl := f6 (hm ⟨6, .data⟩ (by simp) rfl)
          clear f6
          obtain rfl := f7 (hm ⟨7, .data⟩ (by simp) rfl)
          clear f7
          go_simp
          (with_reducible refine (rmul_z gb gc Ab Ac nb cb nc cc0 _ (Ib.below HB) (Ic.below HB) Zb Zc).mono ?_)
          rintro e w3 ⟨gg, AA, nn, cc, rfl, hi, hb⟩
          have HB3 := HB.trans (hb.mono HB.size)
          go_wp2_with fail
          exact hK.out _ _ ⟨u50, u51, u52, u53, u54, u55, .agg #[.bool gb, .slice Ab nb cb], .agg #[.bool gc, .slice Ac nc cc0], .agg #[.bool gg, .slice AA nn cc], u59, u11, u12, (by simp only [Act.put, List.setIfInBounds_toArray, List.set_cons_zero, List.set_cons_succ]), HB3, (fun h => f0 (by simpa using h)), (fun h => f1 (by simpa using h)), (fun h => (f2 (by simpa using h)).below hb), (fun h => f3 (by simpa using h)), (fun h => f4 (by simpa using h)), (fun h => (f5 (by simpa using h)).below hb), (fun _ => rfl), (fun _ => rfl), (fun _ => ⟨_, _, _, _, rfl, hi⟩), (fun h => (f9 (by simpa using h)).below hb), (fun h => by simpa using (f10 (by simpa using h)).below hb), (fun h => by simpa using (f11 (by simpa using h)).below hb), (fun h h' => n01 (by simpa using h) (by simpa using h')), (fun h => by simpa using t0 (by simpa using h)), (fun h => by simpa using t1 (by simpa using h))⟩
        · intro d a2 w2 hd hm ⟨u50, u51, u52, u53, u54, u55, u56, u57, u58, u59, u11, u12, e, HB, f0, f1, f2, f3, f4, f5, f6, f7, f8, f9, f10, f11, n01, t0, t1⟩ K hK
          subst e
          simp only [Act.put, List.setIfInBounds_toArray, List.set_cons_zero, List.set_cons_succ]
          obtain ⟨G5, A5, N5, C5, rfl, I5⟩ := f5 (hm ⟨5, .data⟩ (by simp) rfl)
          obtain ⟨G8, A8, N8, C8, rfl, I8⟩ := f8 (hm ⟨8, .data⟩ (by simp) rfl)
          go_simp
          (with_reducible refine (gcd_z G5 G8 A5 A8 N5 C5 N8 C8 _ I5 I8 Zac Zbc).mono ?_)
          rintro e w3 ⟨gg, AA, nn, cc, rfl, hi, hb⟩
          have HB3 := HB.trans (hb.mono HB.size)
          go_wp2_with fail
          exact hK.out _ _ ⟨u50, u51, u52, u53, u54, .agg #[.bool G5, .slice A5 N5 C5], u56, u57, .agg #[.bool G8, .slice A8 N8 C8], .agg #[.bool gg, .slice AA nn cc], u11, u12, (by simp only [Act.put, List.setIfInBounds_toArray, List.set_cons_zero, List.set_cons_succ]), HB3, (fun h => f0 (by simpa using h)), (fun h => f1 (by simpa using h)), (fun h => (f2 (by simpa using h)).below hb), (fun h => f3 (by simpa using h)), (fun h => f4 (by simpa using h)), (fun h => (f5 (by simpa using h)).below hb), (fun h => f6 (by simpa using h)), (fun h => f7 (by simpa using h)), (fun h => (f8 (by simpa using h)).below hb), (fun _ => ⟨_, _, _, _, rfl, hi⟩), (fun h => by simpa using (f10 (by simpa using h)).below hb), (fun h => by simpa using (f11 (by simpa using h)).below hb), (fun h h' => n01 (by simpa using h) (by simpa using h')), (fun h => by simpa using t0 (by simpa using h)), (fun h => by simpa using t1 (by simpa using h))⟩
        · intro d a2 w2 hd hm ⟨u50, u51, u52, u53, u54, u55, u56, u57, u58, u59, u11, u12, e, HB, f0, f1, f2, f3, f4, f5, f6, f7, f8, f9, f10, f11, n01, t0, t1⟩ K hK
          subst e
          simp only [Act.put, List.setIfInBounds_toArray, List.set_cons_zero, List.set_cons_succ]
          have hb : Below w2.heap.size w2 (w2.alloc (.cells #[.bool false, .slice none 0 0] 27)) := (Below.refl _ _).alloc (Nat.le_refl _) _
          have HB3 := HB.trans (hb.mono HB.size)
          go_simp
          exact hK.out _ _ ⟨u50, u51, u52, u53, u54, u55, u56, u57, u58, u59, .pointer (some ⟨w2.heap.size, 0, none⟩), u12, (by simp only [Act.put, List.setIfInBounds_toArray, List.set_cons_zero, List.set_cons_succ]), HB3, (fun h => f0 (by simpa using h)), (fun h => f1 (by simpa using h)), (fun h => (f2 (by simpa using h)).below hb), (fun h => f3 (by simpa using h)), (fun h => f4 (by simpa using h)), (fun h => (f5 (by simpa using h)).below hb), (fun h => f6 (by simpa using h)), (fun h => f7 (by simpa using h)), (fun h => (f8 (by simpa using h)).below hb), (fun h => (f9 (by simpa using h)).below hb), (fun _ => by have hs : d 12 = false := (by cases hq : d 12 with | false => rfl | true => (have hz := t0 hq; rw [hd] at hz; cases hz)); simpa [hs] using OwnP.new HB.size (((Nat.gcd a.natAbs b.natAbs : Nat) : Int))), (fun h => by simpa using (f11 (by simpa using h)).below hb), (fun _ h' => ((f11 (by simpa using h')).lt).symm), (fun _ => by simp), (fun h => by simpa using t1 (by simpa using h))⟩
        · intro d a2 w2 hd hm ⟨u50, u51, u52, u53, u54, u55, u56, u57, u58, u59, u11, u12, e, HB, f0, f1, f2, f3, f4, f5, f6, f7, f8, f9, f10, f11, n01, t0, t1⟩ K hK
          subst e
          simp only [Act.put, List.setIfInBounds_toArray, List.set_cons_zero, List.set_cons_succ]
          have hb : Below w2.heap.size w2 (w2.alloc (.cells #[.bool false, .slice none 0 0] 27)) := (Below.refl _ _).alloc (Nat.le_refl _) _
          have HB3 := HB.trans (hb.mono HB.size)
          go_simp
          exact hK.out _ _ ⟨u50, u51, u52, u53, u54, u55, u56, u57, u58, u59, u11, .pointer (some ⟨w2.heap.size, 0, none⟩), (by simp only [Act.put, List.setIfInBounds_toArray, List.set_cons_zero, List.set_cons_succ]), HB3, (fun h => f0 (by simpa using h)), (fun h => f1 (by simpa using h)), (fun h => (f2 (by simpa using h)).below hb), (fun h => f3 (by simpa using h)), (fun h => f4 (by simpa using h)), (fun h => (f5 (by simpa using h)).below hb), (fun h => f6 (by simpa using h)), (fun h => f7 (by simpa using h)), (fun h => (f8 (by simpa using h)).below hb), (fun h => (f9 (by simpa using h)).below hb), (fun h => by simpa using (f10 (by simpa using h)).below hb), (fun _ => by have hs : d 13 = false := (by cases hq : d 13 with | false => rfl | true => (have hz := t1 hq; rw [hd] at hz; cases hz)); simpa [hs] using OwnP.new HB.size (((Nat.gcd (a * c).natAbs (b * c).natAbs : Nat) : Int))), (fun h _ => (f10 (by simpa using h)).lt), (fun h => by simpa using t0 (by simpa using h)), (fun _ => by simp)⟩
        · intro d a2 w2 hd hm ⟨u50, u51, u52, u53, u54, u55, u56, u57, u58, u59, u11, u12, e, HB, f0, f1, f2, f3, f4, f5, f6, f7, f8, f9, f10, f11, n01, t0, t1⟩ K hK
          subst e
          simp only [Act.put, List.setIfInBounds_toArray, List.set_cons_zero, List.set_cons_succ]
          obtain ⟨gg, AA, nn, cc, rfl, hi⟩ := f2 (hm ⟨2, .data⟩ (by simp) rfl)
          obtain ⟨g, rfl, hg, b0, b1, hs, n0, n1, _⟩ := f10 (hm ⟨10, .data⟩ (by simp) rfl)
          obtain ⟨k0, k1, k2, k3, k4⟩ := id hs
          go_simp
          exact hK.out _ _ ⟨u50, u51, .agg #[.bool gg, .slice AA nn cc], u53, u54, u55, u56, u57, u58, u59, .pointer (some ⟨g, 0, none⟩), u12, (by simp only [Act.put, List.setIfInBounds_toArray, List.set_cons_zero, List.set_cons_succ]), Below.set2 HB hg _ _, (fun h => f0 (by simpa using h)), (fun h => f1 (by simpa using h)), (fun h => (f2 (by simpa using h)).set2 hs n0 n1 _ _), (fun h => f3 (by simpa using h)), (fun h => f4 (by simpa using h)), (fun h => (f5 (by simpa using h)).set2 hs n0 n1 _ _), (fun h => f6 (by simpa using h)), (fun h => f7 (by simpa using h)), (fun h => (f8 (by simpa using h)).set2 hs n0 n1 _ _), (fun h => (f9 (by simpa using h)).set2 hs n0 n1 _ _), (fun _ => by simpa using OwnP.near hi hg hs n0 n1), (fun h => by simpa using (f11 (by simpa using h)).far ((n01 (hm ⟨10, .data⟩ (by simp) rfl) (by simpa using h)).symm) hs n0 n1 _ _), (fun h h' => n01 (by simpa using h) (by simpa using h')), (fun _ => by simpa using hm ⟨10, .data⟩ (by simp) rfl), (fun h => by simpa using t1 (by simpa using h))⟩
        · intro d a2 w2 hd hm ⟨u50, u51, u52, u53, u54, u55, u56, u57, u58, u59, u11, u12, e, HB, f0, f1, f2, f3, f4, f5, f6, f7, f8, f9, f10, f11, n01, t0, t1⟩ K hK
          subst e
          simp only [Act.put, List.setIfInBounds_toArray, List.set_cons_zero, List.set_cons_succ]
          obtain ⟨gg, AA, nn, cc, rfl, hi⟩ := f9 (hm ⟨9, .data⟩ (by simp) rfl)
          obtain ⟨g, rfl, hg, b0, b1, hs, n0, n1, _⟩ := f11 (hm ⟨11, .data⟩ (by simp) rfl)
          obtain ⟨k0, k1, k2, k3, k4⟩ := id hs
          go_simp
          exact hK.out _ _ ⟨u50, u51, u52, u53, u54, u55, u56, u57, u58, .agg #[.bool gg, .slice AA nn cc], u11, .pointer (some ⟨g, 0, none⟩), (by simp only [Act.put, List.setIfInBounds_toArray, List.set_cons_zero, List.set_cons_succ]), Below.set2 HB hg _ _, (fun h => f0 (by simpa using h)), (fun h => f1 (by simpa using h)), (fun h => (f2 (by simpa using h)).set2 hs n0 n1 _ _), (fun h => f3 (by simpa using h)), (fun h => f4 (by simpa using h)), (fun h => (f5 (by simpa using h)).set2 hs n0 n1 _ _), (fun h => f6 (by simpa using h)), (fun h => f7 (by simpa using h)), (fun h => (f8 (by simpa using h)).set2 hs n0 n1 _ _), (fun h => (f9 (by simpa using h)).set2 hs n0 n1 _ _), (fun h => by simpa using (f10 (by simpa using h)).far (n01 (by simpa using h) (hm ⟨11, .data⟩ (by simp) rfl)) hs n0 n1 _ _), (fun _ => by simpa using OwnP.near hi hg hs n0 n1), (fun h h' => n01 (by simpa using h) (by simpa using h')), (fun h => by simpa using t0 (by simpa using h)), (fun _ => by simpa using hm ⟨11, .data⟩ (by simp) rfl)⟩
      · intro d a2 w2 hall ⟨u50, u51, u52, u53, u54, u55, u56, u57, u58, u59, u11, u12, e, HB, f0, f1, f2, f3, f4, f5, f6, f7, f8, f9, f10, f11, n01, t0, t1⟩
        subst e
        simp only [Act.put, List.setIfInBounds_toArray, List.set_cons_zero, List.set_cons_succ]
        obtain rfl := f0 (hall _ (by decide))
        obtain rfl := f1 (hall _ (by decide))
        obtain rfl := f3 (hall _ (by decide))
        obtain rfl := f4 (hall _ (by decide))
        obtain rfl := f6 (hall _ (by decide))
        obtain rfl := f7 (hall _ (by decide))
        obtain ⟨g0, rfl, h0, b0⟩ := OwnP.intAtB (by have := f10 (hall _ (by decide)); rwa [hall 12 (by decide)] at this)
        obtain ⟨g1, rfl, h1, b1⟩ := OwnP.intAtB (by have := f11 (hall _ (by decide)); rwa [hall 13 (by decide)] at this)
        go_wp2_with fail
        go_meet
        exact ⟨g0, g1, rfl, rfl, Bag.cons h0 (Bag.cons h1 (bag_nil _)), HB⟩
  case rest =>
  obtain ⟨bg, bh, rfl, rfl, BH4, D4⟩ := hcut
  have BG4 := BG3.after D4
  have B4 := B3.trans (D4.mono B3.size)
  clear BG3 B3 D4
  obtain ⟨W4, rfl⟩ : ∃ x : World, x = wc := ⟨_, rfl⟩
  have E2 : ((Nat.gcd a.natAbs b.natAbs : Nat) : Int) = ((Nat.gcd b.natAbs a.natAbs : Nat) : Int) := by rw [Nat.gcd_comm]
  have HE2 := Lib.hid E2
  have HE3 := Lib.hid (gcd_mulc a b c)
  have h8 : 6 + 1 + 1 ≤ 10000 := by decide
  clear E2
  go_wp2_with fail
  go_cut [88] (fun p88 wx => p88 = .bool false ∧ Below W4.heap.size W4 wx)
  case first =>
    refine gcd_r5 (BH4 (bg, ((Nat.gcd a.natAbs b.natAbs : Nat) : Int)) (by simp)) (BG4 (ba, a) (by simp)) (BG4 (bb, b) (by simp)) (BH4 (bh, ((Nat.gcd (a * c).natAbs (b * c).natAbs : Nat) : Int)) (by simp)) (BG4 (bc, c) (by simp)) Zg Za Zb Zc h8 (Lib.hid rfl) HE2 HE3 ?_
    intros
    go_wp2_with fail
    go_meet
    exact ⟨rfl, by assumption⟩
  case rest =>
  obtain ⟨rfl, D5⟩ := hcut
  have BG5 := BG4.after D5
  have BH5 := BH4.after D5
  have B5 := B4.trans (D5.mono B4.size)
  clear BG4 BH4 B4 D5 HE2 HE3
  obtain ⟨W5, rfl⟩ : ∃ x : World, x = wc := ⟨_, rfl⟩
  obtain ⟨gg, Ag, ng, cg, Sg, Ig⟩ := BH5 (bg, ((Nat.gcd a.natAbs b.natAbs : Nat) : Int)) (by simp)
  obtain ⟨ga, Aa, na, ca, Sa, Ia⟩ := BG5 (ba, a) (by simp)
  obtain ⟨gb, Ab, nb, cb, Sb, Ib⟩ := BG5 (bb, b) (by simp)
  have ⟨xg, yg, _, _, _⟩ := Sg
  rcases Nat.eq_zero_or_pos (Nat.gcd a.natAbs b.natAbs) with hg0 | hg0
  · as_aux_lemma =>
      have ha0 : a = 0 := by have := Nat.eq_zero_of_gcd_eq_zero_left hg0; omega
      have hb0 : b = 0 := by have := Nat.eq_zero_of_gcd_eq_zero_right hg0; omega
      have HG0 : Hid (sgn ((Nat.gcd a.natAbs b.natAbs : Nat) : Int) = 0) := by rw [hg0]; rfl
      have HA0 := Lib.hid (sgn_zero ha0)
      have HB0 := Lib.hid (sgn_zero hb0)
      clear ha0 hb0 hg0
      go_wp2_with fail
      (with_reducible refine (rsign_z gg Ag ng cg _ 0 Ig HG0.out).mono ?_)
      rintro e w6 ⟨rfl, h6⟩
      have ⟨x1, y1, _, _, _⟩ := Sa.after h6
      go_wp2_with fail
      (with_reducible refine (rsign_z ga Aa na ca _ 0 (Ia.below h6) HA0.out).mono ?_)
      rintro e w7 ⟨rfl, h7⟩
      have H7 := h6.trans (h7.mono h6.size)
      have ⟨x2, y2, _, _, _⟩ := Sb.after H7
      go_wp2_with fail
      (with_reducible refine (rsign_z gb Ab nb cb _ 0 (Ib.below H7) HB0.out).mono ?_)
      rintro e w8 ⟨rfl, h8⟩
      have H8 := H7.trans (h8.mono H7.size)
      go_wp2_with fail
      go_ret
      exact ⟨rfl, B5.trans (H8.mono B5.size)⟩
  · as_aux_lemma =>
      have HG1 : Hid (sgn ((Nat.gcd a.natAbs b.natAbs : Nat) : Int) = 1) := Lib.hid (show sgn ((Nat.gcd a.natAbs b.natAbs : Nat) : Int) = 1 by unfold sgn; rw [if_neg (by omega), if_pos (by omega)])
      have hgne : ((Nat.gcd a.natAbs b.natAbs : Nat) : Int) ≠ 0 := by omega
      have HR1 := Lib.hid (gcd_mod a _ (Nat.gcd_dvd_left a.natAbs b.natAbs))
      have HR2 := Lib.hid (gcd_mod b _ (Nat.gcd_dvd_right a.natAbs b.natAbs))
      have HD1 := fun W (hW : Below W5.heap.size W5 W) => rdm_z ga gg Aa Ag na ca ng cg W (Ia.below hW) (Ig.below hW) Za Zg hgne h8
      have HD2 := fun W (hW : Below W5.heap.size W5 W) => rdm_z gb gg Ab Ag nb cb ng cg W (Ib.below hW) (Ig.below hW) Zb Zg hgne h8
      have HD1' := Lib.hid HD1
      have HD2' := Lib.hid HD2
      clear HD1 HD2 hgne hg0
      go_wp2_with fail
      (with_reducible refine (rsign_z gg Ag ng cg _ 1 Ig HG1.out).mono ?_)
      rintro e w6 ⟨rfl, h6⟩
      have ⟨x1, y1, _, _, _⟩ := Sa.after h6
      have ⟨x2, y2, _, _, _⟩ := Sg.after h6
      clear xg yg
      go_wp2_with fail
      (with_reducible refine (HD1'.out _ h6).mono ?_)
      rintro e w7 ⟨g1, A1', n1', c1', g2, A2', n2', c2', rfl, i1, i2, h7⟩
      obtain ⟨BQ, DQ⟩ := two_new i1 i2
      have H7 := h6.trans (h7.mono h6.size)
      have H8 := H7.trans (DQ.mono H7.size)
      have ⟨x3, y3, _, _, _⟩ := Sb.after H8
      have ⟨x4, y4, _, _, _⟩ := Sg.after H8
      clear x1 y1 x2 y2 i1 i2 DQ H7
      go_wp2_with fail
      generalize (w7.alloc (.cells #[.bool g1, .slice A1' n1' c1'] 27)).alloc (.cells #[.bool g2, .slice A2' n2' c2'] 27) = W8 at *
      generalize w7.heap.size = b13 at *
      (with_reducible refine (HD2'.out _ H8).mono ?_)
      rintro e w9 ⟨g3, A3', n3', c3', g4, A4', n4', c4', rfl, i3, i4, h9⟩
      obtain ⟨BP, DP⟩ := two_new i3 i4
      have K9 := h9.trans (DP.mono h9.size)
      have H10 := H8.trans (K9.mono H8.size)
      have BQ10 := BQ.after K9
      have Sg10 := Sg.after H10
      have Ig10 := Ig.below H10
      have ⟨x5, y5, _, _, _⟩ := Sg10
      clear x3 y3 x4 y4 i3 i4 DP K9 BQ h9
      go_wp2_with fail
      generalize (w9.alloc (.cells #[.bool g3, .slice A3' n3' c3'] 27)).alloc (.cells #[.bool g4, .slice A4' n4' c4'] 27) = W10 at *
      generalize w9.heap.size = b16 at *
      (with_reducible refine (rsign_z gg Ag ng cg _ 1 Ig10 HG1.out).mono ?_)
      rintro e w11 ⟨rfl, h11⟩
      obtain ⟨gt, At, nt, ct, St, It⟩ := BQ10 (b13 + 1, a % ((Nat.gcd a.natAbs b.natAbs : Nat) : Int)) (by simp)
      obtain ⟨gu, Au, nu, cu, Su, Iu⟩ := BP (b16 + 1, b % ((Nat.gcd a.natAbs b.natAbs : Nat) : Int)) (by simp)
      have ⟨x6, y6, _, _, _⟩ := St.after h11
      clear x5 y5
      go_wp2_with fail
      (with_reducible refine (rsign_z gt At nt ct _ 0 (It.below h11) HR1.out).mono ?_)
      rintro e w12 ⟨rfl, h12⟩
      have H12 := h11.trans (h12.mono h11.size)
      have ⟨x7, y7, _, _, _⟩ := Su.after H12
      go_wp2_with fail
      (with_reducible refine (rsign_z gu Au nu cu _ 0 (Iu.below H12) HR2.out).mono ?_)
      rintro e w13 ⟨rfl, h13⟩
      have H13 := H10.trans ((H12.trans (h13.mono H12.size)).mono H10.size)
      go_wp2_with fail
      go_ret
      exact ⟨rfl, B5.trans (H13.mono B5.size)⟩
end Go.Proofs.YtnlmdjbakcjhbaaDoor
