/- The walk of the law IntegerExt, given what its fixed examples return. -/
import Derived.Test.YtnlmdjbakcjhbaaDoorVLawExtR
import Derived.RegionTactic
import Derived.ChangeAlike
namespace Go.Proofs.YtnlmdjbakcjhbaaDoor
open Go.RowKit
set_option maxRecDepth 1000000 in
set_option maxHeartbeats 4000000 in
theorem law_ext (HS : SanOk) (A1 A2 : Option Addr) (n1 c1 n2 c2 : Nat) (s1 s2 : Bool) (xs ys : List Nat) (w : World) (ha : Lim w w.heap.size A1 n1 c1 xs) (hb : Lim w w.heap.size A2 n2 c2 ys) :
    Calls Tryd.prog 5 #[.agg #[.slice A1 n1 c1, .bool s1], .agg #[.slice A2 n2 c2, .bool s2]] w fun e w' => e = .returned (.bool true) ∧ Below w.heap.size w w' := by
  have HS' := Lib.hid HS
  clear HS
  have hc1 := ha.cap
  have hc2 := hb.cap
  obtain ⟨l1, hl1, hl12, hl1n⟩ := cut_len n1 6
  obtain ⟨l2, hl2, hl22, hl2n⟩ := cut_len n2 6
  obtain ⟨B0, X0, Y0⟩ := frameR2 w (.slice A1 n1 c1) (.bool s1) (.slice A2 n2 c2) (.bool s2)
  have M1 := fun W (hW : Below w.heap.size w W) => made_any s1 A1 l1 c1 w.heap.size (xs.take l1) W ((ha.take l1 hl1n).below hW) hW.size
  have M2 := fun W (hW : Below w.heap.size w W) => made_any s2 A2 l2 c2 w.heap.size (ys.take l2) W ((hb.take l2 hl2n).below hW) hW.size
  have Za := Sz.cut s1 xs l1 6 ha.lt hl12 (by decide)
  have Zb := Sz.cut s2 ys l2 6 hb.lt hl22 (by decide)
  generalize zOf s1 (val ((xs.take l1).take 12)) = a at M1 Za
  generalize zOf s2 (val ((ys.take l2).take 12)) = b at M2 Zb
  have HM1 := Lib.hid M1
  have HM2 := Lib.hid M2
  have HK1 := Lib.hid hl1
  have HK2 := Lib.hid hl2
  have Zg := Sz.gcd Za Zb
  clear M1 M2 ha hb hl1 hl2
  go_enter Tryd.func5, Tryd.ntmps5
  go_wp2_with fail
  refine (HS'.out _).mono ?_
  rintro e w1 ⟨rfl, hb1⟩
  have B1 := B0.trans (hb1.mono B0.size)
  have X1 := X0.after hb1
  have Y1 := Y0.after hb1
  clear X0 Y0 B0 hb1
  go_wp2_with fail
  obtain ⟨e1, e2⟩ := HK1.out
  obtain ⟨e3, e4⟩ := HK2.out
  have e1 : min (n1 : Int) 6 = (l1 : Int) := e1
  have e2 : (if (6 : Int) < n1 then (6 : Int) else n1) = (l1 : Int) := e2
  have e3 : min (n2 : Int) 6 = (l2 : Int) := e3
  have e4 : (if (6 : Int) < n2 then (6 : Int) else n2) = (l2 : Int) := e4
  have i1 : (l1 : Int) ≤ c1 := by omega
  have i2 : (l2 : Int) ≤ c2 := by omega
  have i3 : (0 : Int) ≤ l1 := by omega
  have i4 : (0 : Int) ≤ l2 := by omega
  go_cut [] (fun wx => Below w.heap.size w wx ∧ Slot2 wx w.heap.size (.slice A1 l1 c1) (.bool s1) ∧ Slot2 wx (w.heap.size + 1) (.slice A2 l2 c2) (.bool s2))
  case first =>
    as_aux_lemma =>
      refine wp_region_ev (fun d a0 a' w' => ∃ u19 u20 u21 u22 u23 u24 u25 u26 u27 u28 u29 u30 u31 u32 u33 u34 : Value, a' = ((((((((((((((((a0.put (some 19) u19).put (some 20) u20).put (some 21) u21).put (some 22) u22).put (some 23) u23).put (some 24) u24).put (some 25) u25).put (some 26) u26).put (some 27) u27).put (some 28) u28).put (some 29) u29).put (some 30) u30).put (some 31) u31).put (some 32) u32).put (some 33) u33).put (some 34) u34) ∧ Below w.heap.size w w' ∧ (d 0 = true → u19 = .pointer (some ⟨w.heap.size, 0, none⟩)) ∧ (d 1 = true → u20 = .slice A1 n1 c1) ∧ (d 2 = true → u21 = .pointer (some ⟨w.heap.size, 0, none⟩)) ∧ (d 3 = true → u22 = .slice A1 n1 c1) ∧ (d 4 = true → u23 = .int .i64 (n1 : Int)) ∧ (d 5 = true → u24 = .int .i64 (l1 : Int)) ∧ (d 6 = true → u25 = .slice A1 l1 c1) ∧ (d 7 = true → u26 = .pointer (some ⟨w.heap.size + 1, 0, none⟩)) ∧ (d 8 = true → u27 = .slice A2 n2 c2) ∧ (d 9 = true → u28 = .pointer (some ⟨w.heap.size + 1, 0, none⟩)) ∧ (d 10 = true → u29 = .slice A2 n2 c2) ∧ (d 11 = true → u30 = .int .i64 (n2 : Int)) ∧ (d 12 = true → u31 = .int .i64 (l2 : Int)) ∧ (d 13 = true → u32 = .slice A2 l2 c2) ∧ (d 14 = true → u33 = .pointer (some ⟨w.heap.size, 0, none⟩)) ∧ (d 16 = true → u34 = .pointer (some ⟨w.heap.size + 1, 0, none⟩)) ∧ (BlkS w' (w.heap.size) (.slice A1 n1 c1) (.slice A1 l1 c1) (.bool s1) (d 15)) ∧ (BlkS w' (w.heap.size + 1) (.slice A2 n2 c2) (.slice A2 l2 c2) (.bool s2) (d 17)) ∧ (d 15 = true → d 1 = true) ∧ (d 15 = true → d 3 = true) ∧ (d 17 = true → d 8 = true) ∧ (d 17 = true → d 10 = true)) (by kernel_rfl) (by kernel_rfl) ?_ ?_ ?_ ?_
      · intro d d' h a' w' hh
        obtain rfl : d = d' := funext h
        exact hh
      · exact ⟨_, _, _, _, _, _, _, _, _, _, _, _, _, _, _, _, (by simp only [Act.put, List.setIfInBounds_toArray, List.set_cons_zero, List.set_cons_succ]; rfl), Below.drew (B1), (fun h => by cases h), (fun h => by cases h), (fun h => by cases h), (fun h => by cases h), (fun h => by cases h), (fun h => by cases h), (fun h => by cases h), (fun h => by cases h), (fun h => by cases h), (fun h => by cases h), (fun h => by cases h), (fun h => by cases h), (fun h => by cases h), (fun h => by cases h), (fun h => by cases h), (fun h => by cases h), (BlkS.start (Slot2.drew X1)), (BlkS.start (Slot2.drew Y1)), (fun h => by cases h), (fun h => by cases h), (fun h => by cases h), (fun h => by cases h)⟩
      · refine ⟨?_, ?_, ?_, ?_, ?_, ?_, ?_, ?_, ?_, ?_, ?_, ?_, ?_, ?_, ?_, ?_, ?_, ?_, trivial⟩
        · intro d a2 w2 hd hm ⟨u19, u20, u21, u22, u23, u24, u25, u26, u27, u28, u29, u30, u31, u32, u33, u34, e, HB, f0, f1, f2, f3, f4, f5, f6, f7, f8, f9, f10, f11, f12, f13, f14, f16, kX, kY, o15_1, o15_3, o17_8, o17_10⟩ K hK
          subst e
          simp only [Act.put, List.setIfInBounds_toArray, List.set_cons_zero, List.set_cons_succ]
          go_simp
          exact hK.out _ _ ⟨.pointer (some ⟨w.heap.size, 0, none⟩), u20, u21, u22, u23, u24, u25, u26, u27, u28, u29, u30, u31, u32, u33, u34, (by simp only [Act.put, List.setIfInBounds_toArray, List.set_cons_zero, List.set_cons_succ]), HB, (fun _ => rfl), (fun h => f1 (by simpa using h)), (fun h => f2 (by simpa using h)), (fun h => f3 (by simpa using h)), (fun h => f4 (by simpa using h)), (fun h => f5 (by simpa using h)), (fun h => f6 (by simpa using h)), (fun h => f7 (by simpa using h)), (fun h => f8 (by simpa using h)), (fun h => f9 (by simpa using h)), (fun h => f10 (by simpa using h)), (fun h => f11 (by simpa using h)), (fun h => f12 (by simpa using h)), (fun h => f13 (by simpa using h)), (fun h => f14 (by simpa using h)), (fun h => f16 (by simpa using h)), (by simpa using (kX)), (by simpa using (kY)), (fun h => by simpa using o15_1 (by simpa using h)), (fun h => by simpa using o15_3 (by simpa using h)), (fun h => by simpa using o17_8 (by simpa using h)), (fun h => by simpa using o17_10 (by simpa using h))⟩
        · intro d a2 w2 hd hm ⟨u19, u20, u21, u22, u23, u24, u25, u26, u27, u28, u29, u30, u31, u32, u33, u34, e, HB, f0, f1, f2, f3, f4, f5, f6, f7, f8, f9, f10, f11, f12, f13, f14, f16, kX, kY, o15_1, o15_3, o17_8, o17_10⟩ K hK
          subst e
          simp only [Act.put, List.setIfInBounds_toArray, List.set_cons_zero, List.set_cons_succ]
          obtain rfl := f0 (hm ⟨0, .data⟩ (by simp) rfl)
          clear f0
          have hs : d 15 = false := by cases hq : d 15 with | false => rfl | true => (have hz := o15_1 hq; rw [hd] at hz; cases hz)
          have ⟨y0, y1, _, _, _⟩ := kX.1 hs
          clear hs
          go_simp
          exact hK.out _ _ ⟨.pointer (some ⟨w.heap.size, 0, none⟩), .slice A1 n1 c1, u21, u22, u23, u24, u25, u26, u27, u28, u29, u30, u31, u32, u33, u34, (by simp only [Act.put, List.setIfInBounds_toArray, List.set_cons_zero, List.set_cons_succ]), HB, (fun _ => rfl), (fun _ => rfl), (fun h => f2 (by simpa using h)), (fun h => f3 (by simpa using h)), (fun h => f4 (by simpa using h)), (fun h => f5 (by simpa using h)), (fun h => f6 (by simpa using h)), (fun h => f7 (by simpa using h)), (fun h => f8 (by simpa using h)), (fun h => f9 (by simpa using h)), (fun h => f10 (by simpa using h)), (fun h => f11 (by simpa using h)), (fun h => f12 (by simpa using h)), (fun h => f13 (by simpa using h)), (fun h => f14 (by simpa using h)), (fun h => f16 (by simpa using h)), (by simpa using (kX)), (by simpa using (kY)), (fun _ => by simp), (fun h => by simpa using o15_3 (by simpa using h)), (fun h => by simpa using o17_8 (by simpa using h)), (fun h => by simpa using o17_10 (by simpa using h))⟩
        · intro d a2 w2 hd hm ⟨u19, u20, u21, u22, u23, u24, u25, u26, u27, u28, u29, u30, u31, u32, u33, u34, e, HB, f0, f1, f2, f3, f4, f5, f6, f7, f8, f9, f10, f11, f12, f13, f14, f16, kX, kY, o15_1, o15_3, o17_8, o17_10⟩ K hK
          subst e
          simp only [Act.put, List.setIfInBounds_toArray, List.set_cons_zero, List.set_cons_succ]
          go_simp
          exact hK.out _ _ ⟨u19, u20, .pointer (some ⟨w.heap.size, 0, none⟩), u22, u23, u24, u25, u26, u27, u28, u29, u30, u31, u32, u33, u34, (by simp only [Act.put, List.setIfInBounds_toArray, List.set_cons_zero, List.set_cons_succ]), HB, (fun h => f0 (by simpa using h)), (fun h => f1 (by simpa using h)), (fun _ => rfl), (fun h => f3 (by simpa using h)), (fun h => f4 (by simpa using h)), (fun h => f5 (by simpa using h)), (fun h => f6 (by simpa using h)), (fun h => f7 (by simpa using h)), (fun h => f8 (by simpa using h)), (fun h => f9 (by simpa using h)), (fun h => f10 (by simpa using h)), (fun h => f11 (by simpa using h)), (fun h => f12 (by simpa using h)), (fun h => f13 (by simpa using h)), (fun h => f14 (by simpa using h)), (fun h => f16 (by simpa using h)), (by simpa using (kX)), (by simpa using (kY)), (fun h => by simpa using o15_1 (by simpa using h)), (fun h => by simpa using o15_3 (by simpa using h)), (fun h => by simpa using o17_8 (by simpa using h)), (fun h => by simpa using o17_10 (by simpa using h))⟩
        · intro d a2 w2 hd hm ⟨u19, u20, u21, u22, u23, u24, u25, u26, u27, u28, u29, u30, u31, u32, u33, u34, e, HB, f0, f1, f2, f3, f4, f5, f6, f7, f8, f9, f10, f11, f12, f13, f14, f16, kX, kY, o15_1, o15_3, o17_8, o17_10⟩ K hK
          subst e
          simp only [Act.put, List.setIfInBounds_toArray, List.set_cons_zero, List.set_cons_succ]
          obtain rfl := f2 (hm ⟨2, .data⟩ (by simp) rfl)
          clear f2
          have hs : d 15 = false := by cases hq : d 15 with | false => rfl | true => (have hz := o15_3 hq; rw [hd] at hz; cases hz)
          have ⟨y0, y1, _, _, _⟩ := kX.1 hs
          clear hs
          go_simp
          exact hK.out _ _ ⟨u19, u20, .pointer (some ⟨w.heap.size, 0, none⟩), .slice A1 n1 c1, u23, u24, u25, u26, u27, u28, u29, u30, u31, u32, u33, u34, (by simp only [Act.put, List.setIfInBounds_toArray, List.set_cons_zero, List.set_cons_succ]), HB, (fun h => f0 (by simpa using h)), (fun h => f1 (by simpa using h)), (fun _ => rfl), (fun _ => rfl), (fun h => f4 (by simpa using h)), (fun h => f5 (by simpa using h)), (fun h => f6 (by simpa using h)), (fun h => f7 (by simpa using h)), (fun h => f8 (by simpa using h)), (fun h => f9 (by simpa using h)), (fun h => f10 (by simpa using h)), (fun h => f11 (by simpa using h)), (fun h => f12 (by simpa using h)), (fun h => f13 (by simpa using h)), (fun h => f14 (by simpa using h)), (fun h => f16 (by simpa using h)), (by simpa using (kX)), (by simpa using (kY)), (fun h => by simpa using o15_1 (by simpa using h)), (fun _ => by simp), (fun h => by simpa using o17_8 (by simpa using h)), (fun h => by simpa using o17_10 (by simpa using h))⟩
        · intro d a2 w2 hd hm ⟨u19, u20, u21, u22, u23, u24, u25, u26, u27, u28, u29, u30, u31, u32, u33, u34, e, HB, f0, f1, f2, f3, f4, f5, f6, f7, f8, f9, f10, f11, f12, f13, f14, f16, kX, kY, o15_1, o15_3, o17_8, o17_10⟩ K hK
          subst e
          simp only [Act.put, List.setIfInBounds_toArray, List.set_cons_zero, List.set_cons_succ]
          obtain rfl := f3 (hm ⟨3, .data⟩ (by simp) rfl)
          clear f3
          go_simp
          exact hK.out _ _ ⟨u19, u20, u21, .slice A1 n1 c1, .int .i64 (n1 : Int), u24, u25, u26, u27, u28, u29, u30, u31, u32, u33, u34, (by simp only [Act.put, List.setIfInBounds_toArray, List.set_cons_zero, List.set_cons_succ]), HB, (fun h => f0 (by simpa using h)), (fun h => f1 (by simpa using h)), (fun h => f2 (by simpa using h)), (fun _ => rfl), (fun _ => rfl), (fun h => f5 (by simpa using h)), (fun h => f6 (by simpa using h)), (fun h => f7 (by simpa using h)), (fun h => f8 (by simpa using h)), (fun h => f9 (by simpa using h)), (fun h => f10 (by simpa using h)), (fun h => f11 (by simpa using h)), (fun h => f12 (by simpa using h)), (fun h => f13 (by simpa using h)), (fun h => f14 (by simpa using h)), (fun h => f16 (by simpa using h)), (by simpa using (kX)), (by simpa using (kY)), (fun h => by simpa using o15_1 (by simpa using h)), (fun h => by simpa using o15_3 (by simpa using h)), (fun h => by simpa using o17_8 (by simpa using h)), (fun h => by simpa using o17_10 (by simpa using h))⟩
        · intro d a2 w2 hd hm ⟨u19, u20, u21, u22, u23, u24, u25, u26, u27, u28, u29, u30, u31, u32, u33, u34, e, HB, f0, f1, f2, f3, f4, f5, f6, f7, f8, f9, f10, f11, f12, f13, f14, f16, kX, kY, o15_1, o15_3, o17_8, o17_10⟩ K hK
          subst e
          simp only [Act.put, List.setIfInBounds_toArray, List.set_cons_zero, List.set_cons_succ]
          obtain rfl := f4 (hm ⟨4, .data⟩ (by simp) rfl)
          clear f4
          go_simp
          exact hK.out _ _ ⟨u19, u20, u21, u22, .int .i64 (n1 : Int), .int .i64 (l1 : Int), u25, u26, u27, u28, u29, u30, u31, u32, u33, u34, (by simp only [Act.put, List.setIfInBounds_toArray, List.set_cons_zero, List.set_cons_succ]), HB, (fun h => f0 (by simpa using h)), (fun h => f1 (by simpa using h)), (fun h => f2 (by simpa using h)), (fun h => f3 (by simpa using h)), (fun _ => rfl), (fun _ => rfl), (fun h => f6 (by simpa using h)), (fun h => f7 (by simpa using h)), (fun h => f8 (by simpa using h)), (fun h => f9 (by simpa using h)), (fun h => f10 (by simpa using h)), (fun h => f11 (by simpa using h)), (fun h => f12 (by simpa using h)), (fun h => f13 (by simpa using h)), (fun h => f14 (by simpa using h)), (fun h => f16 (by simpa using h)), (by simpa using (kX)), (by simpa using (kY)), (fun h => by simpa using o15_1 (by simpa using h)), (fun h => by simpa using o15_3 (by simpa using h)), (fun h => by simpa using o17_8 (by simpa using h)), (fun h => by simpa using o17_10 (by simpa using h))⟩
        · intro d a2 w2 hd hm ⟨u19, u20, u21, u22, u23, u24, u25, u26, u27, u28, u29, u30, u31, u32, u33, u34, e, HB, f0, f1, f2, f3, f4, f5, f6, f7, f8, f9, f10, f11, f12, f13, f14, f16, kX, kY, o15_1, o15_3, o17_8, o17_10⟩ K hK
          subst e
          simp only [Act.put, List.setIfInBounds_toArray, List.set_cons_zero, List.set_cons_succ]
          obtain rfl := f1 (hm ⟨1, .data⟩ (by simp) rfl)
          clear f1
          obtain rfl := f5 (hm ⟨5, .data⟩ (by simp) rfl)
          clear f5
          go_simp
          exact hK.out _ _ ⟨u19, .slice A1 n1 c1, u21, u22, u23, .int .i64 (l1 : Int), .slice A1 l1 c1, u26, u27, u28, u29, u30, u31, u32, u33, u34, (by simp only [Act.put, List.setIfInBounds_toArray, List.set_cons_zero, List.set_cons_succ]), HB, (fun h => f0 (by simpa using h)), (fun _ => rfl), (fun h => f2 (by simpa using h)), (fun h => f3 (by simpa using h)), (fun h => f4 (by simpa using h)), (fun _ => rfl), (fun _ => rfl), (fun h => f7 (by simpa using h)), (fun h => f8 (by simpa using h)), (fun h => f9 (by simpa using h)), (fun h => f10 (by simpa using h)), (fun h => f11 (by simpa using h)), (fun h => f12 (by simpa using h)), (fun h => f13 (by simpa using h)), (fun h => f14 (by simpa using h)), (fun h => f16 (by simpa using h)), (by simpa using (kX)), (by simpa using (kY)), (fun h => by simpa using o15_1 (by simpa using h)), (fun h => by simpa using o15_3 (by simpa using h)), (fun h => by simpa using o17_8 (by simpa using h)), (fun h => by simpa using o17_10 (by simpa using h))⟩
        · intro d a2 w2 hd hm ⟨u19, u20, u21, u22, u23, u24, u25, u26, u27, u28, u29, u30, u31, u32, u33, u34, e, HB, f0, f1, f2, f3, f4, f5, f6, f7, f8, f9, f10, f11, f12, f13, f14, f16, kX, kY, o15_1, o15_3, o17_8, o17_10⟩ K hK
          subst e
          simp only [Act.put, List.setIfInBounds_toArray, List.set_cons_zero, List.set_cons_succ]
          go_simp
          exact hK.out _ _ ⟨u19, u20, u21, u22, u23, u24, u25, .pointer (some ⟨w.heap.size + 1, 0, none⟩), u27, u28, u29, u30, u31, u32, u33, u34, (by simp only [Act.put, List.setIfInBounds_toArray, List.set_cons_zero, List.set_cons_succ]), HB, (fun h => f0 (by simpa using h)), (fun h => f1 (by simpa using h)), (fun h => f2 (by simpa using h)), (fun h => f3 (by simpa using h)), (fun h => f4 (by simpa using h)), (fun h => f5 (by simpa using h)), (fun h => f6 (by simpa using h)), (fun _ => rfl), (fun h => f8 (by simpa using h)), (fun h => f9 (by simpa using h)), (fun h => f10 (by simpa using h)), (fun h => f11 (by simpa using h)), (fun h => f12 (by simpa using h)), (fun h => f13 (by simpa using h)), (fun h => f14 (by simpa using h)), (fun h => f16 (by simpa using h)), (by simpa using (kX)), (by simpa using (kY)), (fun h => by simpa using o15_1 (by simpa using h)), (fun h => by simpa using o15_3 (by simpa using h)), (fun h => by simpa using o17_8 (by simpa using h)), (fun h => by simpa using o17_10 (by simpa using h))⟩
        · intro d a2 w2 hd hm ⟨u19, u20, u21, u22, u23, u24, u25, u26, u27, u28, u29, u30, u31, u32, u33, u34, e, HB, f0, f1, f2, f3, f4, f5, f6, f7, f8, f9, f10, f11, f12, f13, f14, f16, kX, kY, o15_1, o15_3, o17_8, o17_10⟩ K hK
          subst e
          simp only [Act.put, List.setIfInBounds_toArray, List.set_cons_zero, List.set_cons_succ]
          obtain rfl := f7 (hm ⟨7, .data⟩ (by simp) rfl)
          clear f7
          have hs : d 17 = false := by cases hq : d 17 with | false => rfl | true => (have hz := o17_8 hq; rw [hd] at hz; cases hz)
          have ⟨y0, y1, _, _, _⟩ := kY.1 hs
          clear hs
          go_simp
          exact hK.out _ _ ⟨u19, u20, u21, u22, u23, u24, u25, .pointer (some ⟨w.heap.size + 1, 0, none⟩), .slice A2 n2 c2, u28, u29, u30, u31, u32, u33, u34, (by simp only [Act.put, List.setIfInBounds_toArray, List.set_cons_zero, List.set_cons_succ]), HB, (fun h => f0 (by simpa using h)), (fun h => f1 (by simpa using h)), (fun h => f2 (by simpa using h)), (fun h => f3 (by simpa using h)), (fun h => f4 (by simpa using h)), (fun h => f5 (by simpa using h)), (fun h => f6 (by simpa using h)), (fun _ => rfl), (fun _ => rfl), (fun h => f9 (by simpa using h)), (fun h => f10 (by simpa using h)), (fun h => f11 (by simpa using h)), (fun h => f12 (by simpa using h)), (fun h => f13 (by simpa using h)), (fun h => f14 (by simpa using h)), (fun h => f16 (by simpa using h)), (by simpa using (kX)), (by simpa using (kY)), (fun h => by simpa using o15_1 (by simpa using h)), (fun h => by simpa using o15_3 (by simpa using h)), (fun _ => by simp), (fun h => by simpa using o17_10 (by simpa using h))⟩
        · intro d a2 w2 hd hm ⟨u19, u20, u21, u22, u23, u24, u25, u26, u27, u28, u29, u30, u31, u32, u33, u34, e, HB, f0, f1, f2, f3, f4, f5, f6, f7, f8, f9, f10, f11, f12, f13, f14, f16, kX, kY, o15_1, o15_3, o17_8, o17_10⟩ K hK
          subst e
          simp only [Act.put, List.setIfInBounds_toArray, List.set_cons_zero, List.set_cons_succ]
          go_simp
          exact hK.out _ _ ⟨u19, u20, u21, u22, u23, u24, u25, u26, u27, .pointer (some ⟨w.heap.size + 1, 0, none⟩), u29, u30, u31, u32, u33, u34, (by simp only [Act.put, List.setIfInBounds_toArray, List.set_cons_zero, List.set_cons_succ]), HB, (fun h => f0 (by simpa using h)), (fun h => f1 (by simpa using h)), (fun h => f2 (by simpa using h)), (fun h => f3 (by simpa using h)), (fun h => f4 (by simpa using h)), (fun h => f5 (by simpa using h)), (fun h => f6 (by simpa using h)), (fun h => f7 (by simpa using h)), (fun h => f8 (by simpa using h)), (fun _ => rfl), (fun h => f10 (by simpa using h)), (fun h => f11 (by simpa using h)), (fun h => f12 (by simpa using h)), (fun h => f13 (by simpa using h)), (fun h => f14 (by simpa using h)), (fun h => f16 (by simpa using h)), (by simpa using (kX)), (by simpa using (kY)), (fun h => by simpa using o15_1 (by simpa using h)), (fun h => by simpa using o15_3 (by simpa using h)), (fun h => by simpa using o17_8 (by simpa using h)), (fun h => by simpa using o17_10 (by simpa using h))⟩
        · intro d a2 w2 hd hm ⟨u19, u20, u21, u22, u23, u24, u25, u26, u27, u28, u29, u30, u31, u32, u33, u34, e, HB, f0, f1, f2, f3, f4, f5, f6, f7, f8, f9, f10, f11, f12, f13, f14, f16, kX, kY, o15_1, o15_3, o17_8, o17_10⟩ K hK
          subst e
          simp only [Act.put, List.setIfInBounds_toArray, List.set_cons_zero, List.set_cons_succ]
          obtain rfl := f9 (hm ⟨9, .data⟩ (by simp) rfl)
          clear f9
          have hs : d 17 = false := by cases hq : d 17 with | false => rfl | true => (have hz := o17_10 hq; rw [hd] at hz; cases hz)
          have ⟨y0, y1, _, _, _⟩ := kY.1 hs
          clear hs
          go_simp
          exact hK.out _ _ ⟨u19, u20, u21, u22, u23, u24, u25, u26, u27, .pointer (some ⟨w.heap.size + 1, 0, none⟩), .slice A2 n2 c2, u30, u31, u32, u33, u34, (by simp only [Act.put, List.setIfInBounds_toArray, List.set_cons_zero, List.set_cons_succ]), HB, (fun h => f0 (by simpa using h)), (fun h => f1 (by simpa using h)), (fun h => f2 (by simpa using h)), (fun h => f3 (by simpa using h)), (fun h => f4 (by simpa using h)), (fun h => f5 (by simpa using h)), (fun h => f6 (by simpa using h)), (fun h => f7 (by simpa using h)), (fun h => f8 (by simpa using h)), (fun _ => rfl), (fun _ => rfl), (fun h => f11 (by simpa using h)), (fun h => f12 (by simpa using h)), (fun h => f13 (by simpa using h)), (fun h => f14 (by simpa using h)), (fun h => f16 (by simpa using h)), (by simpa using (kX)), (by simpa using (kY)), (fun h => by simpa using o15_1 (by simpa using h)), (fun h => by simpa using o15_3 (by simpa using h)), (fun h => by simpa using o17_8 (by simpa using h)), (fun _ => by simp)⟩
        · intro d a2 w2 hd hm ⟨u19, u20, u21, u22, u23, u24, u25, u26, u27, u28, u29, u30, u31, u32, u33, u34, e, HB, f0, f1, f2, f3, f4, f5, f6, f7, f8, f9, f10, f11, f12, f13, f14, f16, kX, kY, o15_1, o15_3, o17_8, o17_10⟩ K hK
          subst e
          simp only [Act.put, List.setIfInBounds_toArray, List.set_cons_zero, List.set_cons_succ]
          obtain rfl := f10 (hm ⟨10, .data⟩ (by simp) rfl)
          clear f10
          go_simp
          exact hK.out _ _ ⟨u19, u20, u21, u22, u23, u24, u25, u26, u27, u28, .slice A2 n2 c2, .int .i64 (n2 : Int), u31, u32, u33, u34, (by simp only [Act.put, List.setIfInBounds_toArray, List.set_cons_zero, List.set_cons_succ]), HB, (fun h => f0 (by simpa using h)), (fun h => f1 (by simpa using h)), (fun h => f2 (by simpa using h)), (fun h => f3 (by simpa using h)), (fun h => f4 (by simpa using h)), (fun h => f5 (by simpa using h)), (fun h => f6 (by simpa using h)), (fun h => f7 (by simpa using h)), (fun h => f8 (by simpa using h)), (fun h => f9 (by simpa using h)), (fun _ => rfl), (fun _ => rfl), (fun h => f12 (by simpa using h)), (fun h => f13 (by simpa using h)), (fun h => f14 (by simpa using h)), (fun h => f16 (by simpa using h)), (by simpa using (kX)), (by simpa using (kY)), (fun h => by simpa using o15_1 (by simpa using h)), (fun h => by simpa using o15_3 (by simpa using h)), (fun h => by simpa using o17_8 (by simpa using h)), (fun h => by simpa using o17_10 (by simpa using h))⟩
        · intro d a2 w2 hd hm ⟨u19, u20, u21, u22, u23, u24, u25, u26, u27, u28, u29, u30, u31, u32, u33, u34, e, HB, f0, f1, f2, f3, f4, f5, f6, f7, f8, f9, f10, f11, f12, f13, f14, f16, kX, kY, o15_1, o15_3, o17_8, o17_10⟩ K hK
          subst e
          simp only [Act.put, List.setIfInBounds_toArray, List.set_cons_zero, List.set_cons_succ]
          obtain rfl := f11 (hm ⟨11, .data⟩ (by simp) rfl)
          clear f11
          go_simp
          exact hK.out _ _ ⟨u19, u20, u21, u22, u23, u24, u25, u26, u27, u28, u29, .int .i64 (n2 : Int), .int .i64 (l2 : Int), u32, u33, u34, (by simp only [Act.put, List.setIfInBounds_toArray, List.set_cons_zero, List.set_cons_succ]), HB, (fun h => f0 (by simpa using h)), (fun h => f1 (by simpa using h)), (fun h => f2 (by simpa using h)), (fun h => f3 (by simpa using h)), (fun h => f4 (by simpa using h)), (fun h => f5 (by simpa using h)), (fun h => f6 (by simpa using h)), (fun h => f7 (by simpa using h)), (fun h => f8 (by simpa using h)), (fun h => f9 (by simpa using h)), (fun h => f10 (by simpa using h)), (fun _ => rfl), (fun _ => rfl), (fun h => f13 (by simpa using h)), (fun h => f14 (by simpa using h)), (fun h => f16 (by simpa using h)), (by simpa using (kX)), (by simpa using (kY)), (fun h => by simpa using o15_1 (by simpa using h)), (fun h => by simpa using o15_3 (by simpa using h)), (fun h => by simpa using o17_8 (by simpa using h)), (fun h => by simpa using o17_10 (by simpa using h))⟩
        · intro d a2 w2 hd hm ⟨u19, u20, u21, u22, u23, u24, u25, u26, u27, u28, u29, u30, u31, u32, u33, u34, e, HB, f0, f1, f2, f3, f4, f5, f6, f7, f8, f9, f10, f11, f12, f13, f14, f16, kX, kY, o15_1, o15_3, o17_8, o17_10⟩ K hK
          subst e
          simp only [Act.put, List.setIfInBounds_toArray, List.set_cons_zero, List.set_cons_succ]
          obtain rfl := f8 (hm ⟨8, .data⟩ (by simp) rfl)
          clear f8
          obtain rfl := f12 (hm ⟨12, .data⟩ (by simp) rfl)
          clear f12
          go_simp
          exact hK.out _ _ ⟨u19, u20, u21, u22, u23, u24, u25, u26, .slice A2 n2 c2, u28, u29, u30, .int .i64 (l2 : Int), .slice A2 l2 c2, u33, u34, (by simp only [Act.put, List.setIfInBounds_toArray, List.set_cons_zero, List.set_cons_succ]), HB, (fun h => f0 (by simpa using h)), (fun h => f1 (by simpa using h)), (fun h => f2 (by simpa using h)), (fun h => f3 (by simpa using h)), (fun h => f4 (by simpa using h)), (fun h => f5 (by simpa using h)), (fun h => f6 (by simpa using h)), (fun h => f7 (by simpa using h)), (fun _ => rfl), (fun h => f9 (by simpa using h)), (fun h => f10 (by simpa using h)), (fun h => f11 (by simpa using h)), (fun _ => rfl), (fun _ => rfl), (fun h => f14 (by simpa using h)), (fun h => f16 (by simpa using h)), (by simpa using (kX)), (by simpa using (kY)), (fun h => by simpa using o15_1 (by simpa using h)), (fun h => by simpa using o15_3 (by simpa using h)), (fun h => by simpa using o17_8 (by simpa using h)), (fun h => by simpa using o17_10 (by simpa using h))⟩
        · intro d a2 w2 hd hm ⟨u19, u20, u21, u22, u23, u24, u25, u26, u27, u28, u29, u30, u31, u32, u33, u34, e, HB, f0, f1, f2, f3, f4, f5, f6, f7, f8, f9, f10, f11, f12, f13, f14, f16, kX, kY, o15_1, o15_3, o17_8, o17_10⟩ K hK
          subst e
          simp only [Act.put, List.setIfInBounds_toArray, List.set_cons_zero, List.set_cons_succ]
          go_simp
          exact hK.out _ _ ⟨u19, u20, u21, u22, u23, u24, u25, u26, u27, u28, u29, u30, u31, u32, .pointer (some ⟨w.heap.size, 0, none⟩), u34, (by simp only [Act.put, List.setIfInBounds_toArray, List.set_cons_zero, List.set_cons_succ]), HB, (fun h => f0 (by simpa using h)), (fun h => f1 (by simpa using h)), (fun h => f2 (by simpa using h)), (fun h => f3 (by simpa using h)), (fun h => f4 (by simpa using h)), (fun h => f5 (by simpa using h)), (fun h => f6 (by simpa using h)), (fun h => f7 (by simpa using h)), (fun h => f8 (by simpa using h)), (fun h => f9 (by simpa using h)), (fun h => f10 (by simpa using h)), (fun h => f11 (by simpa using h)), (fun h => f12 (by simpa using h)), (fun h => f13 (by simpa using h)), (fun _ => rfl), (fun h => f16 (by simpa using h)), (by simpa using (kX)), (by simpa using (kY)), (fun h => by simpa using o15_1 (by simpa using h)), (fun h => by simpa using o15_3 (by simpa using h)), (fun h => by simpa using o17_8 (by simpa using h)), (fun h => by simpa using o17_10 (by simpa using h))⟩
        · intro d a2 w2 hd hm ⟨u19, u20, u21, u22, u23, u24, u25, u26, u27, u28, u29, u30, u31, u32, u33, u34, e, HB, f0, f1, f2, f3, f4, f5, f6, f7, f8, f9, f10, f11, f12, f13, f14, f16, kX, kY, o15_1, o15_3, o17_8, o17_10⟩ K hK
          subst e
          simp only [Act.put, List.setIfInBounds_toArray, List.set_cons_zero, List.set_cons_succ]
          obtain rfl := f14 (hm ⟨14, .data⟩ (by simp) rfl)
          clear f14
          obtain rfl := f6 (hm ⟨6, .data⟩ (by simp) rfl)
          clear f6
          have hs := kX.1 hd
          obtain ⟨k0, k1, k2, k3, k4⟩ := id hs
          go_simp
          exact hK.out _ _ ⟨u19, u20, u21, u22, u23, u24, .slice A1 l1 c1, u26, u27, u28, u29, u30, u31, u32, .pointer (some ⟨w.heap.size, 0, none⟩), u34, (by simp only [Act.put, List.setIfInBounds_toArray, List.set_cons_zero, List.set_cons_succ]), HB.setCell (by simp <;> omega) _, (fun h => f0 (by simpa using h)), (fun h => f1 (by simpa using h)), (fun h => f2 (by simpa using h)), (fun h => f3 (by simpa using h)), (fun h => f4 (by simpa using h)), (fun h => f5 (by simpa using h)), (fun _ => rfl), (fun h => f7 (by simpa using h)), (fun h => f8 (by simpa using h)), (fun h => f9 (by simpa using h)), (fun h => f10 (by simpa using h)), (fun h => f11 (by simpa using h)), (fun h => f12 (by simpa using h)), (fun h => f13 (by simpa using h)), (fun _ => rfl), (fun h => f16 (by simpa using h)), (by simpa using BlkS.near hs), (by simpa using (kY).far (by omega) _), (fun _ => by simpa using hm ⟨1, .phase⟩ (by simp) rfl), (fun _ => by simpa using hm ⟨3, .phase⟩ (by simp) rfl), (fun h => by simpa using o17_8 (by simpa using h)), (fun h => by simpa using o17_10 (by simpa using h))⟩
        · intro d a2 w2 hd hm ⟨u19, u20, u21, u22, u23, u24, u25, u26, u27, u28, u29, u30, u31, u32, u33, u34, e, HB, f0, f1, f2, f3, f4, f5, f6, f7, f8, f9, f10, f11, f12, f13, f14, f16, kX, kY, o15_1, o15_3, o17_8, o17_10⟩ K hK
          subst e
          simp only [Act.put, List.setIfInBounds_toArray, List.set_cons_zero, List.set_cons_succ]
          go_simp
          exact hK.out _ _ ⟨u19, u20, u21, u22, u23, u24, u25, u26, u27, u28, u29, u30, u31, u32, u33, .pointer (some ⟨w.heap.size + 1, 0, none⟩), (by simp only [Act.put, List.setIfInBounds_toArray, List.set_cons_zero, List.set_cons_succ]), HB, (fun h => f0 (by simpa using h)), (fun h => f1 (by simpa using h)), (fun h => f2 (by simpa using h)), (fun h => f3 (by simpa using h)), (fun h => f4 (by simpa using h)), (fun h => f5 (by simpa using h)), (fun h => f6 (by simpa using h)), (fun h => f7 (by simpa using h)), (fun h => f8 (by simpa using h)), (fun h => f9 (by simpa using h)), (fun h => f10 (by simpa using h)), (fun h => f11 (by simpa using h)), (fun h => f12 (by simpa using h)), (fun h => f13 (by simpa using h)), (fun h => f14 (by simpa using h)), (fun _ => rfl), (by simpa using (kX)), (by simpa using (kY)), (fun h => by simpa using o15_1 (by simpa using h)), (fun h => by simpa using o15_3 (by simpa using h)), (fun h => by simpa using o17_8 (by simpa using h)), (fun h => by simpa using o17_10 (by simpa using h))⟩
        · intro d a2 w2 hd hm ⟨u19, u20, u21, u22, u23, u24, u25, u26, u27, u28, u29, u30, u31, u32, u33, u34, e, HB, f0, f1, f2, f3, f4, f5, f6, f7, f8, f9, f10, f11, f12, f13, f14, f16, kX, kY, o15_1, o15_3, o17_8, o17_10⟩ K hK
          subst e
          simp only [Act.put, List.setIfInBounds_toArray, List.set_cons_zero, List.set_cons_succ]
          obtain rfl := f16 (hm ⟨16, .data⟩ (by simp) rfl)
          clear f16
          obtain rfl := f13 (hm ⟨13, .data⟩ (by simp) rfl)
          clear f13
          have hs := kY.1 hd
          obtain ⟨k0, k1, k2, k3, k4⟩ := id hs
          go_simp
          exact hK.out _ _ ⟨u19, u20, u21, u22, u23, u24, u25, u26, u27, u28, u29, u30, u31, .slice A2 l2 c2, u33, .pointer (some ⟨w.heap.size + 1, 0, none⟩), (by simp only [Act.put, List.setIfInBounds_toArray, List.set_cons_zero, List.set_cons_succ]), HB.setCell (by simp <;> omega) _, (fun h => f0 (by simpa using h)), (fun h => f1 (by simpa using h)), (fun h => f2 (by simpa using h)), (fun h => f3 (by simpa using h)), (fun h => f4 (by simpa using h)), (fun h => f5 (by simpa using h)), (fun h => f6 (by simpa using h)), (fun h => f7 (by simpa using h)), (fun h => f8 (by simpa using h)), (fun h => f9 (by simpa using h)), (fun h => f10 (by simpa using h)), (fun h => f11 (by simpa using h)), (fun h => f12 (by simpa using h)), (fun _ => rfl), (fun h => f14 (by simpa using h)), (fun _ => rfl), (by simpa using (kX).far (by omega) _), (by simpa using BlkS.near hs), (fun h => by simpa using o15_1 (by simpa using h)), (fun h => by simpa using o15_3 (by simpa using h)), (fun _ => by simpa using hm ⟨8, .phase⟩ (by simp) rfl), (fun _ => by simpa using hm ⟨10, .phase⟩ (by simp) rfl)⟩
      · intro d a2 w2 hall ⟨u19, u20, u21, u22, u23, u24, u25, u26, u27, u28, u29, u30, u31, u32, u33, u34, e, HB, f0, f1, f2, f3, f4, f5, f6, f7, f8, f9, f10, f11, f12, f13, f14, f16, kX, kY, o15_1, o15_3, o17_8, o17_10⟩
        subst e
        simp only [Act.put, List.setIfInBounds_toArray, List.set_cons_zero, List.set_cons_succ]
        obtain rfl := f0 (hall _ (by decide))
        obtain rfl := f1 (hall _ (by decide))
        obtain rfl := f2 (hall _ (by decide))
        obtain rfl := f3 (hall _ (by decide))
        obtain rfl := f4 (hall _ (by decide))
        obtain rfl := f5 (hall _ (by decide))
        obtain rfl := f6 (hall _ (by decide))
        obtain rfl := f7 (hall _ (by decide))
        obtain rfl := f8 (hall _ (by decide))
        obtain rfl := f9 (hall _ (by decide))
        obtain rfl := f10 (hall _ (by decide))
        obtain rfl := f11 (hall _ (by decide))
        obtain rfl := f12 (hall _ (by decide))
        obtain rfl := f13 (hall _ (by decide))
        obtain rfl := f14 (hall _ (by decide))
        obtain rfl := f16 (hall _ (by decide))
        have eX := kX.2 (hall _ (by decide))
        have eY := kY.2 (hall _ (by decide))
        go_wp2_with fail
        go_meet
        exact ⟨HB, eX, eY⟩
  case rest =>
  obtain ⟨B2, X2, Y2⟩ := hcut
  clear X1 Y1 B1 e1 e2 e3 e4 i1 i2 i3 i4
  obtain ⟨W2, rfl⟩ : ∃ x : World, x = wc := ⟨_, rfl⟩
  go_wp2_with fail
  go_cut [6, 7] (fun p6 p7 wx => ∃ g6 g7 : Nat, p6 = .pointer (some ⟨g6, 0, none⟩) ∧ p7 = .pointer (some ⟨g7, 0, none⟩) ∧ Bag wx [(g6, a), (g7, b)] ∧ Below W2.heap.size W2 wx)
  case first =>
    as_aux_lemma =>
      have HX : Hid (∀ W, Below W2.heap.size W2 W → (Slot2 W w.heap.size (.slice A1 l1 c1) (.bool s1) ∧ Slot2 W (w.heap.size + 1) (.slice A2 l2 c2) (.bool s2))) := fun W hW => ⟨X2.after hW, Y2.after hW⟩
      clear X2 Y2
      refine wp_region_ev (fun d a0 a' w' => ∃ u35 u36 u37 u38 u6 u7 : Value, a' = ((((((a0.put (some 35) u35).put (some 36) u36).put (some 37) u37).put (some 38) u38).put (some 6) u6).put (some 7) u7) ∧ Below W2.heap.size W2 w' ∧ (d 0 = true → u35 = .agg #[.slice A1 l1 c1, .bool s1]) ∧ (d 1 = true → IntV w' u36 (a)) ∧ (d 2 = true → u37 = .agg #[.slice A2 l2 c2, .bool s2]) ∧ (d 3 = true → IntV w' u38 (b)) ∧ (d 4 = true → OwnP W2.heap.size w' u6 (d 6) (a)) ∧ (d 5 = true → OwnP W2.heap.size w' u7 (d 7) (b)) ∧ (d 4 = true → d 5 = true → u6 ≠ u7) ∧ (d 6 = true → d 4 = true) ∧ (d 7 = true → d 5 = true)) (by kernel_rfl) (by kernel_rfl) ?_ ?_ ?_ ?_
      · intro d d' h a' w' hh
        obtain rfl : d = d' := funext h
        exact hh
      · exact ⟨_, _, _, _, _, _, (by simp only [Act.put, List.setIfInBounds_toArray, List.set_cons_zero, List.set_cons_succ]; rfl), (Below.refl _ _).drew, (fun h => by cases h), (fun h => by cases h), (fun h => by cases h), (fun h => by cases h), (fun h => by cases h), (fun h => by cases h), (fun h => by cases h), (fun h => by cases h), (fun h => by cases h)⟩
      · refine ⟨?_, ?_, ?_, ?_, ?_, ?_, ?_, ?_, trivial⟩
        · intro d a2 w2 hd hm ⟨u35, u36, u37, u38, u6, u7, e, HB, f0, f1, f2, f3, f4, f5, n01, t0, t1⟩ K hK
          subst e
          simp only [Act.put, List.setIfInBounds_toArray, List.set_cons_zero, List.set_cons_succ]
          obtain ⟨⟨q0, q1, _, _, _⟩, ⟨q2, q3, _, _, _⟩⟩ := HX.out w2 HB
          go_simp
          exact hK.out _ _ ⟨.agg #[.slice A1 l1 c1, .bool s1], u36, u37, u38, u6, u7, (by simp only [Act.put, List.setIfInBounds_toArray, List.set_cons_zero, List.set_cons_succ]), HB, (fun _ => rfl), (fun h => (f1 (by simpa using h))), (fun h => f2 (by simpa using h)), (fun h => (f3 (by simpa using h))), (fun h => by simpa using (f4 (by simpa using h))), (fun h => by simpa using (f5 (by simpa using h))), (fun h h' => n01 (by simpa using h) (by simpa using h')), (fun h => by simpa using t0 (by simpa using h)), (fun h => by simpa using t1 (by simpa using h))⟩
        · intro d a2 w2 hd hm ⟨u35, u36, u37, u38, u6, u7, e, HB, f0, f1, f2, f3, f4, f5, n01, t0, t1⟩ K hK
          subst e
          simp only [Act.put, List.setIfInBounds_toArray, List.set_cons_zero, List.set_cons_succ]
          obtain rfl := f0 (hm ⟨0, .data⟩ (by simp) rfl)
          clear f0
          go_simp
          (with_reducible refine (HM1.out _ (B2.trans (Below.mono HB B2.size))).mono ?_)
          rintro e w3 ⟨gg, AA, nn, cc, rfl, hi, hb⟩
          have HB3 := HB.trans (hb.mono HB.size)
          go_wp2_with fail
          exact hK.out _ _ ⟨.agg #[.slice A1 l1 c1, .bool s1], .agg #[.bool gg, .slice AA nn cc], u37, u38, u6, u7, (by simp only [Act.put, List.setIfInBounds_toArray, List.set_cons_zero, List.set_cons_succ]), HB3, (fun _ => rfl), (fun _ => ⟨_, _, _, _, rfl, hi⟩), (fun h => f2 (by simpa using h)), (fun h => (f3 (by simpa using h)).below hb), (fun h => by simpa using (f4 (by simpa using h)).below hb), (fun h => by simpa using (f5 (by simpa using h)).below hb), (fun h h' => n01 (by simpa using h) (by simpa using h')), (fun h => by simpa using t0 (by simpa using h)), (fun h => by simpa using t1 (by simpa using h))⟩
        · intro d a2 w2 hd hm ⟨u35, u36, u37, u38, u6, u7, e, HB, f0, f1, f2, f3, f4, f5, n01, t0, t1⟩ K hK
          subst e
          simp only [Act.put, List.setIfInBounds_toArray, List.set_cons_zero, List.set_cons_succ]
          obtain ⟨⟨q0, q1, _, _, _⟩, ⟨q2, q3, _, _, _⟩⟩ := HX.out w2 HB
          go_simp
          exact hK.out _ _ ⟨u35, u36, .agg #[.slice A2 l2 c2, .bool s2], u38, u6, u7, (by simp only [Act.put, List.setIfInBounds_toArray, List.set_cons_zero, List.set_cons_succ]), HB, (fun h => f0 (by simpa using h)), (fun h => (f1 (by simpa using h))), (fun _ => rfl), (fun h => (f3 (by simpa using h))), (fun h => by simpa using (f4 (by simpa using h))), (fun h => by simpa using (f5 (by simpa using h))), (fun h h' => n01 (by simpa using h) (by simpa using h')), (fun h => by simpa using t0 (by simpa using h)), (fun h => by simpa using t1 (by simpa using h))⟩
        · intro d a2 w2 hd hm ⟨u35, u36, u37, u38, u6, u7, e, HB, f0, f1, f2, f3, f4, f5, n01, t0, t1⟩ K hK
          subst e
          simp only [Act.put, List.setIfInBounds_toArray, List.set_cons_zero, List.set_cons_succ]
          obtain rfl := f2 (hm ⟨2, .data⟩ (by simp) rfl)
          clear f2
          go_simp
          (with_reducible refine (HM2.out _ (B2.trans (Below.mono HB B2.size))).mono ?_)
          rintro e w3 ⟨gg, AA, nn, cc, rfl, hi, hb⟩
          have HB3 := HB.trans (hb.mono HB.size)
          go_wp2_with fail
          exact hK.out _ _ ⟨u35, u36, .agg #[.slice A2 l2 c2, .bool s2], .agg #[.bool gg, .slice AA nn cc], u6, u7, (by simp only [Act.put, List.setIfInBounds_toArray, List.set_cons_zero, List.set_cons_succ]), HB3, (fun h => f0 (by simpa using h)), (fun h => (f1 (by simpa using h)).below hb), (fun _ => rfl), (fun _ => ⟨_, _, _, _, rfl, hi⟩), (fun h => by simpa using (f4 (by simpa using h)).below hb), (fun h => by simpa using (f5 (by simpa using h)).below hb), (fun h h' => n01 (by simpa using h) (by simpa using h')), (fun h => by simpa using t0 (by simpa using h)), (fun h => by simpa using t1 (by simpa using h))⟩
        · intro d a2 w2 hd hm ⟨u35, u36, u37, u38, u6, u7, e, HB, f0, f1, f2, f3, f4, f5, n01, t0, t1⟩ K hK
          subst e
          simp only [Act.put, List.setIfInBounds_toArray, List.set_cons_zero, List.set_cons_succ]
          have hb : Below w2.heap.size w2 (w2.alloc (.cells #[.bool false, .slice none 0 0] 27)) := (Below.refl _ _).alloc (Nat.le_refl _) _
          have HB3 := HB.trans (hb.mono HB.size)
          go_simp
          exact hK.out _ _ ⟨u35, u36, u37, u38, .pointer (some ⟨w2.heap.size, 0, none⟩), u7, (by simp only [Act.put, List.setIfInBounds_toArray, List.set_cons_zero, List.set_cons_succ]), HB3, (fun h => f0 (by simpa using h)), (fun h => (f1 (by simpa using h)).below hb), (fun h => f2 (by simpa using h)), (fun h => (f3 (by simpa using h)).below hb), (fun _ => by have hs : d 6 = false := (by cases hq : d 6 with | false => rfl | true => (have hz := t0 hq; rw [hd] at hz; cases hz)); simpa [hs] using OwnP.new HB.size (a)), (fun h => by simpa using (f5 (by simpa using h)).below hb), (fun _ h' => ((f5 (by simpa using h')).lt).symm), (fun _ => by simp), (fun h => by simpa using t1 (by simpa using h))⟩
        · intro d a2 w2 hd hm ⟨u35, u36, u37, u38, u6, u7, e, HB, f0, f1, f2, f3, f4, f5, n01, t0, t1⟩ K hK
          subst e
          simp only [Act.put, List.setIfInBounds_toArray, List.set_cons_zero, List.set_cons_succ]
          have hb : Below w2.heap.size w2 (w2.alloc (.cells #[.bool false, .slice none 0 0] 27)) := (Below.refl _ _).alloc (Nat.le_refl _) _
          have HB3 := HB.trans (hb.mono HB.size)
          go_simp
          exact hK.out _ _ ⟨u35, u36, u37, u38, u6, .pointer (some ⟨w2.heap.size, 0, none⟩), (by simp only [Act.put, List.setIfInBounds_toArray, List.set_cons_zero, List.set_cons_succ]), HB3, (fun h => f0 (by simpa using h)), (fun h => (f1 (by simpa using h)).below hb), (fun h => f2 (by simpa using h)), (fun h => (f3 (by simpa using h)).below hb), (fun h => by simpa using (f4 (by simpa using h)).below hb), (fun _ => by have hs : d 7 = false := (by cases hq : d 7 with | false => rfl | true => (have hz := t1 hq; rw [hd] at hz; cases hz)); simpa [hs] using OwnP.new HB.size (b)), (fun h _ => (f4 (by simpa using h)).lt), (fun h => by simpa using t0 (by simpa using h)), (fun _ => by simp)⟩
        · intro d a2 w2 hd hm ⟨u35, u36, u37, u38, u6, u7, e, HB, f0, f1, f2, f3, f4, f5, n01, t0, t1⟩ K hK
          subst e
          simp only [Act.put, List.setIfInBounds_toArray, List.set_cons_zero, List.set_cons_succ]
          obtain ⟨gg, AA, nn, cc, rfl, hi⟩ := f1 (hm ⟨1, .data⟩ (by simp) rfl)
          obtain ⟨g, rfl, hg, b0, b1, hs, n0, n1, _⟩ := f4 (hm ⟨4, .data⟩ (by simp) rfl)
          obtain ⟨k0, k1, k2, k3, k4⟩ := id hs
          go_simp
          exact hK.out _ _ ⟨u35, .agg #[.bool gg, .slice AA nn cc], u37, u38, .pointer (some ⟨g, 0, none⟩), u7, (by simp only [Act.put, List.setIfInBounds_toArray, List.set_cons_zero, List.set_cons_succ]), Below.set2 HB hg _ _, (fun h => f0 (by simpa using h)), (fun h => (f1 (by simpa using h)).set2 hs n0 n1 _ _), (fun h => f2 (by simpa using h)), (fun h => (f3 (by simpa using h)).set2 hs n0 n1 _ _), (fun _ => by simpa using OwnP.near hi hg hs n0 n1), (fun h => by simpa using (f5 (by simpa using h)).far ((n01 (hm ⟨4, .data⟩ (by simp) rfl) (by simpa using h)).symm) hs n0 n1 _ _), (fun h h' => n01 (by simpa using h) (by simpa using h')), (fun _ => by simpa using hm ⟨4, .data⟩ (by simp) rfl), (fun h => by simpa using t1 (by simpa using h))⟩
        · intro d a2 w2 hd hm ⟨u35, u36, u37, u38, u6, u7, e, HB, f0, f1, f2, f3, f4, f5, n01, t0, t1⟩ K hK
          subst e
          simp only [Act.put, List.setIfInBounds_toArray, List.set_cons_zero, List.set_cons_succ]
          obtain ⟨gg, AA, nn, cc, rfl, hi⟩ := f3 (hm ⟨3, .data⟩ (by simp) rfl)
          obtain ⟨g, rfl, hg, b0, b1, hs, n0, n1, _⟩ := f5 (hm ⟨5, .data⟩ (by simp) rfl)
          obtain ⟨k0, k1, k2, k3, k4⟩ := id hs
          go_simp
          exact hK.out _ _ ⟨u35, u36, u37, .agg #[.bool gg, .slice AA nn cc], u6, .pointer (some ⟨g, 0, none⟩), (by simp only [Act.put, List.setIfInBounds_toArray, List.set_cons_zero, List.set_cons_succ]), Below.set2 HB hg _ _, (fun h => f0 (by simpa using h)), (fun h => (f1 (by simpa using h)).set2 hs n0 n1 _ _), (fun h => f2 (by simpa using h)), (fun h => (f3 (by simpa using h)).set2 hs n0 n1 _ _), (fun h => by simpa using (f4 (by simpa using h)).far (n01 (by simpa using h) (hm ⟨5, .data⟩ (by simp) rfl)) hs n0 n1 _ _), (fun _ => by simpa using OwnP.near hi hg hs n0 n1), (fun h h' => n01 (by simpa using h) (by simpa using h')), (fun h => by simpa using t0 (by simpa using h)), (fun _ => by simpa using hm ⟨5, .data⟩ (by simp) rfl)⟩
      · intro d a2 w2 hall ⟨u35, u36, u37, u38, u6, u7, e, HB, f0, f1, f2, f3, f4, f5, n01, t0, t1⟩
        subst e
        simp only [Act.put, List.setIfInBounds_toArray, List.set_cons_zero, List.set_cons_succ]
        obtain rfl := f0 (hall _ (by decide))
        obtain rfl := f2 (hall _ (by decide))
        obtain ⟨g0, rfl, h0, b0⟩ := OwnP.intAtB (by have := f4 (hall _ (by decide)); rwa [hall 6 (by decide)] at this)
        obtain ⟨g1, rfl, h1, b1⟩ := OwnP.intAtB (by have := f5 (hall _ (by decide)); rwa [hall 7 (by decide)] at this)
        go_wp2_with fail
        go_meet
        exact ⟨g0, g1, rfl, rfl, Bag.cons h0 (Bag.cons h1 (bag_nil _)), HB⟩
  case rest =>
  obtain ⟨ba, bb, rfl, rfl, BG3, D3⟩ := hcut
  have B3 := B2.trans (D3.mono B2.size)
  clear X2 Y2 B2 D3
  obtain ⟨W3, rfl⟩ : ∃ x : World, x = wc := ⟨_, rfl⟩
  obtain ⟨ga, Aa, na, ca, Sa, Ia⟩ := BG3 (ba, a) (by simp)
  obtain ⟨gb, Ab, nb, cb, Sb, Ib⟩ := BG3 (bb, b) (by simp)
  have CE := Lib.hid (extL ga gb Aa Ab na ca nb cb a b W3 Ia Ib Za Zb)
  have ⟨x0, x1, _, _, _⟩ := Sa
  have ⟨x2, x3, _, _, _⟩ := Sb
  go_wp2_with fail
  refine CE.out.mono ?_
  rintro e w4 ⟨s, t, ⟨h1, H1, k1, d1, h2, H2, k2, d2, h3, H3, k3, d3, rfl, j1, j2, j3, hb4⟩, HF, Zs, Zt⟩
  obtain ⟨BQ, DQ⟩ := three_new j1 j2 j3
  have D4 := hb4.trans (DQ.mono hb4.size)
  have BG4 := BG3.after D4
  have B4 := B3.trans (D4.mono B3.size)
  clear x0 x1 x2 x3 Sa Sb Ia Ib CE j1 j2 j3 hb4 DQ D4 BG3 B3
  go_upto_region 5 with (fail)
  generalize ((w4.alloc (.cells #[.bool h1, .slice H1 k1 d1] 27)).alloc (.cells #[.bool h2, .slice H2 k2 d2] 27)).alloc (.cells #[.bool h3, .slice H3 k3 d3] 27) = W4 at *
  generalize w4.heap.size = bg at *
  have h8 : 6 + 1 + 1 ≤ 10000 := by decide
  go_cut [66] (fun p66 wx => p66 = .bool false ∧ Below W4.heap.size W4 wx)
  case first =>
    refine ext_r5 (BQ (bg, ((Nat.gcd a.natAbs b.natAbs : Nat) : Int)) (by simp)) (BQ (bg + 1, s) (by simp)) (BQ (bg + 1 + 1, t) (by simp)) (BG4 (ba, a) (by simp)) (BG4 (bb, b) (by simp)) Za Zb h8 (Lib.hid rfl) ?_
    intros
    go_wp2_with fail
    go_meet
    exact ⟨rfl, by assumption⟩
  case rest =>
  obtain ⟨rfl, D5⟩ := hcut
  have BG5 := BG4.after D5
  have BQ5 := BQ.after D5
  have B5 := B4.trans (D5.mono B4.size)
  clear BG4 BQ B4 D5
  obtain ⟨W5, rfl⟩ : ∃ x : World, x = wc := ⟨_, rfl⟩
  obtain ⟨gg0, Ag, ng, cg, Sg, Ig⟩ := BQ5 (bg, ((Nat.gcd a.natAbs b.natAbs : Nat) : Int)) (by simp)
  have ⟨x0, x1, _, _, _⟩ := Sg
  by_cases hG : Nat.gcd a.natAbs b.natAbs = 0
  · obtain ⟨hs0, ht0⟩ := HF.out.1 hG
    have HS1 : Hid (sgn ((Nat.gcd a.natAbs b.natAbs : Nat) : Int) = 0) := Lib.hid (by rw [hG]; rfl)
    have HS2 : Hid (sgn s = 0) := Lib.hid (by rw [hs0]; rfl)
    have HS3 : Hid (sgn t = 0) := Lib.hid (by rw [ht0]; rfl)
    clear hG hs0 ht0 HF
    go_wp2_with fail
    refine (rsign_z gg0 Ag ng cg _ 0 Ig HS1.out).mono ?_
    rintro e w6 ⟨rfl, hb6⟩
    obtain ⟨gs, As, ns, cs, Ss, Is⟩ := (BQ5.after hb6) (bg + 1, s) (by simp)
    have ⟨y0, y1, _, _, _⟩ := Ss
    go_wp2_with fail
    refine (rsign_z gs As ns cs _ 0 Is HS2.out).mono ?_
    rintro e w7 ⟨rfl, hb7⟩
    obtain ⟨gt, At, nt, ct, St, It⟩ := ((BQ5.after hb6).after hb7) (bg + 1 + 1, t) (by simp)
    have ⟨z0, z1, _, _, _⟩ := St
    go_wp2_with fail
    refine (rsign_z gt At nt ct _ 0 It HS3.out).mono ?_
    rintro e w8 ⟨rfl, hb8⟩
    go_wp2_with fail
    go_ret
    exact ⟨rfl, ((B5.trans (hb6.mono B5.size)).trans (hb7.mono (B5.trans (hb6.mono B5.size)).size)).trans (hb8.mono ((B5.trans (hb6.mono B5.size)).trans (hb7.mono (B5.trans (hb6.mono B5.size)).size)).size)⟩
  · obtain ⟨f1, f2, f3⟩ := HF.out.2 hG
    have hsg : sgn ((Nat.gcd a.natAbs b.natAbs : Nat) : Int) = 1 := by unfold sgn; rw [if_neg (by omega), if_pos (by omega)]
    have HS1 := Lib.hid hsg
    have hgz : ((Nat.gcd a.natAbs b.natAbs : Nat) : Int) ≠ 0 := by omega
    have F1 := Lib.hid f1
    have F2 := Lib.hid f2
    have F3 := Lib.hid f3
    have HGG := Lib.hid hG
    clear hG hsg f1 f2 f3 HF
    go_wp2_with fail
    refine (rsign_z gg0 Ag ng cg _ 1 Ig HS1.out).mono ?_
    rintro e w6 ⟨rfl, hb6⟩
    have BG6 := BG5.after hb6
    have BQ6 := BQ5.after hb6
    have B6 := B5.trans (hb6.mono B5.size)
    clear x0 x1 Sg Ig BG5 BQ5 B5 hb6
    obtain ⟨W5, rfl⟩ : ∃ x : World, x = w6 := ⟨_, rfl⟩
    go_wp2_with fail
    go_cut [11, 12, 13] (fun p11 p12 p13 wx => ∃ g11 g12 : Nat, p11 = .pointer (some ⟨g11, 0, none⟩) ∧ p12 = .pointer (some ⟨g12, 0, none⟩) ∧ p13 = .int .i64 0 ∧ IntAt wx g11 (((b.natAbs : Nat) : Int) / ((Nat.gcd a.natAbs b.natAbs : Nat) : Int)) ∧ Below W5.heap.size W5 wx)
    case first =>
      as_aux_lemma =>
        obtain ⟨gb, Ab, nb, cb, Sb, Ib⟩ := BG6 (bb, b) (by simp)
        obtain ⟨gg0, Ag, ng, cg, Sg, Ig⟩ := BQ6 (bg, ((Nat.gcd a.natAbs b.natAbs : Nat) : Int)) (by simp)
        have HX : Hid (∀ W, Below W5.heap.size W5 W → (Slot2 W bb (.bool gb) (.slice Ab nb cb) ∧ Slot2 W bg (.bool gg0) (.slice Ag ng cg))) := fun W hW => ⟨Sb.after hW, Sg.after hW⟩
        clear Sb Sg BG6 BQ6
        refine wp_region_ev (fun d a0 a' w' => ∃ u82 u83 u84 u85 u81 u86 u87 u88 u11 u12 u13 : Value, a' = (((((((((((a0.put (some 82) u82).put (some 83) u83).put (some 84) u84).put (some 85) u85).put (some 81) u81).put (some 86) u86).put (some 87) u87).put (some 88) u88).put (some 11) u11).put (some 12) u12).put (some 13) u13) ∧ Below W5.heap.size W5 w' ∧ (d 0 = true → u82 = .agg #[.bool gb, .slice Ab nb cb]) ∧ (d 1 = true → IntV w' u83 (((b.natAbs : Nat) : Int))) ∧ (d 2 = true → u84 = .agg #[.bool gg0, .slice Ag ng cg]) ∧ (d 3 = true → TupV w' u85 (((b.natAbs : Nat) : Int) / ((Nat.gcd a.natAbs b.natAbs : Nat) : Int)) (((b.natAbs : Nat) : Int) % ((Nat.gcd a.natAbs b.natAbs : Nat) : Int)) (0)) ∧ (d 4 = true → TupV w' u81 (((b.natAbs : Nat) : Int) / ((Nat.gcd a.natAbs b.natAbs : Nat) : Int)) (((b.natAbs : Nat) : Int) % ((Nat.gcd a.natAbs b.natAbs : Nat) : Int)) (0)) ∧ (d 5 = true → IntV w' u86 (((b.natAbs : Nat) : Int) / ((Nat.gcd a.natAbs b.natAbs : Nat) : Int))) ∧ (d 6 = true → IntV w' u87 (((b.natAbs : Nat) : Int) % ((Nat.gcd a.natAbs b.natAbs : Nat) : Int))) ∧ (d 7 = true → u88 = .int .i64 (0)) ∧ (d 12 = true → u13 = .int .i64 (0)) ∧ (d 8 = true → OwnP W5.heap.size w' u11 (d 10) (((b.natAbs : Nat) : Int) / ((Nat.gcd a.natAbs b.natAbs : Nat) : Int))) ∧ (d 9 = true → OwnP W5.heap.size w' u12 (d 11) (((b.natAbs : Nat) : Int) % ((Nat.gcd a.natAbs b.natAbs : Nat) : Int))) ∧ (d 8 = true → d 9 = true → u11 ≠ u12) ∧ (d 10 = true → d 8 = true) ∧ (d 11 = true → d 9 = true)) (by kernel_rfl) (by kernel_rfl) ?_ ?_ ?_ ?_
        · intro d d' h a' w' hh
          obtain rfl : d = d' := funext h
          exact hh
        · exact ⟨_, _, _, _, _, _, _, _, _, _, _, (by simp only [Act.put, List.setIfInBounds_toArray, List.set_cons_zero, List.set_cons_succ]; rfl), (Below.refl _ _).drew, (fun h => by cases h), (fun h => by cases h), (fun h => by cases h), (fun h => by cases h), (fun h => by cases h), (fun h => by cases h), (fun h => by cases h), (fun h => by cases h), (fun h => by cases h), (fun h => by cases h), (fun h => by cases h), (fun h => by cases h), (fun h => by cases h), (fun h => by cases h)⟩
        · refine ⟨?_, ?_, ?_, ?_, ?_, ?_, ?_, ?_, ?_, ?_, ?_, ?_, ?_, trivial⟩
          · intro d a2 w2 hd hm ⟨u82, u83, u84, u85, u81, u86, u87, u88, u11, u12, u13, e, HB, f0, f1, f2, f3, f4, f5, f6, f7, f12, f8, f9, n01, t0, t1⟩ K hK
            subst e
            simp only [Act.put, List.setIfInBounds_toArray, List.set_cons_zero, List.set_cons_succ]
            obtain ⟨⟨q0, q1, _, _, _⟩, ⟨q2, q3, _, _, _⟩⟩ := HX.out w2 HB
            go_simp
            exact hK.out _ _ ⟨.agg #[.bool gb, .slice Ab nb cb], u83, u84, u85, u81, u86, u87, u88, u11, u12, u13, (by simp only [Act.put, List.setIfInBounds_toArray, List.set_cons_zero, List.set_cons_succ]), HB, (fun _ => rfl), (fun h => (f1 (by simpa using h))), (fun h => f2 (by simpa using h)), (fun h => (f3 (by simpa using h))), (fun h => (f4 (by simpa using h))), (fun h => (f5 (by simpa using h))), (fun h => (f6 (by simpa using h))), (fun h => f7 (by simpa using h)), (fun h => f12 (by simpa using h)), (fun h => by simpa using (f8 (by simpa using h))), (fun h => by simpa using (f9 (by simpa using h))), (fun h h' => n01 (by simpa using h) (by simpa using h')), (fun h => by simpa using t0 (by simpa using h)), (fun h => by simpa using t1 (by simpa using h))⟩
          · intro d a2 w2 hd hm ⟨u82, u83, u84, u85, u81, u86, u87, u88, u11, u12, u13, e, HB, f0, f1, f2, f3, f4, f5, f6, f7, f12, f8, f9, n01, t0, t1⟩ K hK
            subst e
            simp only [Act.put, List.setIfInBounds_toArray, List.set_cons_zero, List.set_cons_succ]
            obtain rfl := f0 (hm ⟨0, .data⟩ (by simp) rfl)
            clear f0
            go_simp
            (with_reducible refine (rabs_z gb Ab nb cb _ (Ib.below HB) Zb).mono ?_)
            rintro e w3 ⟨gg, AA, nn, cc, rfl, hi, hb⟩
            have HB3 := HB.trans (hb.mono HB.size)
            go_wp2_with fail
            exact hK.out _ _ ⟨.agg #[.bool gb, .slice Ab nb cb], .agg #[.bool gg, .slice AA nn cc], u84, u85, u81, u86, u87, u88, u11, u12, u13, (by simp only [Act.put, List.setIfInBounds_toArray, List.set_cons_zero, List.set_cons_succ]), HB3, (fun _ => rfl), (fun _ => ⟨_, _, _, _, rfl, hi⟩), (fun h => f2 (by simpa using h)), (fun h => (f3 (by simpa using h)).below hb), (fun h => (f4 (by simpa using h)).below hb), (fun h => (f5 (by simpa using h)).below hb), (fun h => (f6 (by simpa using h)).below hb), (fun h => f7 (by simpa using h)), (fun h => f12 (by simpa using h)), (fun h => by simpa using (f8 (by simpa using h)).below hb), (fun h => by simpa using (f9 (by simpa using h)).below hb), (fun h h' => n01 (by simpa using h) (by simpa using h')), (fun h => by simpa using t0 (by simpa using h)), (fun h => by simpa using t1 (by simpa using h))⟩
          · intro d a2 w2 hd hm ⟨u82, u83, u84, u85, u81, u86, u87, u88, u11, u12, u13, e, HB, f0, f1, f2, f3, f4, f5, f6, f7, f12, f8, f9, n01, t0, t1⟩ K hK
            subst e
            simp only [Act.put, List.setIfInBounds_toArray, List.set_cons_zero, List.set_cons_succ]
            obtain ⟨⟨q0, q1, _, _, _⟩, ⟨q2, q3, _, _, _⟩⟩ := HX.out w2 HB
            go_simp
            exact hK.out _ _ ⟨u82, u83, .agg #[.bool gg0, .slice Ag ng cg], u85, u81, u86, u87, u88, u11, u12, u13, (by simp only [Act.put, List.setIfInBounds_toArray, List.set_cons_zero, List.set_cons_succ]), HB, (fun h => f0 (by simpa using h)), (fun h => (f1 (by simpa using h))), (fun _ => rfl), (fun h => (f3 (by simpa using h))), (fun h => (f4 (by simpa using h))), (fun h => (f5 (by simpa using h))), (fun h => (f6 (by simpa using h))), (fun h => f7 (by simpa using h)), (fun h => f12 (by simpa using h)), (fun h => by simpa using (f8 (by simpa using h))), (fun h => by simpa using (f9 (by simpa using h))), (fun h h' => n01 (by simpa using h) (by simpa using h')), (fun h => by simpa using t0 (by simpa using h)), (fun h => by simpa using t1 (by simpa using h))⟩
          · intro d a2 w2 hd hm ⟨u82, u83, u84, u85, u81, u86, u87, u88, u11, u12, u13, e, HB, f0, f1, f2, f3, f4, f5, f6, f7, f12, f8, f9, n01, t0, t1⟩ K hK
            subst e
            simp only [Act.put, List.setIfInBounds_toArray, List.set_cons_zero, List.set_cons_succ]
            obtain ⟨G1, A1, N1, C1, rfl, I1⟩ := f1 (hm ⟨1, .data⟩ (by simp) rfl)
            obtain rfl := f2 (hm ⟨2, .data⟩ (by simp) rfl)
            clear f2
            go_simp
            (with_reducible refine (rdm_z G1 gg0 A1 Ag N1 C1 ng cg _ I1 (Ig.below HB) (Sz.abs Zb) Zg hgz h8).mono ?_)
            rintro e w3 ⟨g1, A1', n1', c1', g2, A2', n2', c2', rfl, hi1, hi2, hb⟩
            have HB3 := HB.trans (hb.mono HB.size)
            go_wp2_with fail
            exact hK.out _ _ ⟨u82, .agg #[.bool G1, .slice A1 N1 C1], .agg #[.bool gg0, .slice Ag ng cg], .tuple #[.agg #[.bool g1, .slice A1' n1' c1'], .agg #[.bool g2, .slice A2' n2' c2'], .int .i64 (0)], u81, u86, u87, u88, u11, u12, u13, (by simp only [Act.put, List.setIfInBounds_toArray, List.set_cons_zero, List.set_cons_succ]), HB3, (fun h => f0 (by simpa using h)), (fun h => (f1 (by simpa using h)).below hb), (fun _ => rfl), (fun _ => ⟨_, _, rfl, ⟨_, _, _, _, rfl, hi1⟩, ⟨_, _, _, _, rfl, hi2⟩⟩), (fun h => (f4 (by simpa using h)).below hb), (fun h => (f5 (by simpa using h)).below hb), (fun h => (f6 (by simpa using h)).below hb), (fun h => f7 (by simpa using h)), (fun h => f12 (by simpa using h)), (fun h => by simpa using (f8 (by simpa using h)).below hb), (fun h => by simpa using (f9 (by simpa using h)).below hb), (fun h h' => n01 (by simpa using h) (by simpa using h')), (fun h => by simpa using t0 (by simpa using h)), (fun h => by simpa using t1 (by simpa using h))⟩
          · intro d a2 w2 hd hm ⟨u82, u83, u84, u85, u81, u86, u87, u88, u11, u12, u13, e, HB, f0, f1, f2, f3, f4, f5, f6, f7, f12, f8, f9, n01, t0, t1⟩ K hK
            subst e
            simp only [Act.put, List.setIfInBounds_toArray, List.set_cons_zero, List.set_cons_succ]
            obtain ⟨V3, U3, rfl, I3, J3⟩ := f3 (hm ⟨3, .data⟩ (by simp) rfl)
            go_simp
            exact hK.out _ _ ⟨u82, u83, u84, .tuple #[V3, U3, .int .i64 (0)], .tuple #[V3, U3, .int .i64 (0)], u86, u87, u88, u11, u12, u13, (by simp only [Act.put, List.setIfInBounds_toArray, List.set_cons_zero, List.set_cons_succ]), HB, (fun h => f0 (by simpa using h)), (fun h => (f1 (by simpa using h))), (fun h => f2 (by simpa using h)), (fun h => (f3 (by simpa using h))), (fun _ => ⟨V3, U3, rfl, I3, J3⟩), (fun h => (f5 (by simpa using h))), (fun h => (f6 (by simpa using h))), (fun h => f7 (by simpa using h)), (fun h => f12 (by simpa using h)), (fun h => by simpa using (f8 (by simpa using h))), (fun h => by simpa using (f9 (by simpa using h))), (fun h h' => n01 (by simpa using h) (by simpa using h')), (fun h => by simpa using t0 (by simpa using h)), (fun h => by simpa using t1 (by simpa using h))⟩
          · intro d a2 w2 hd hm ⟨u82, u83, u84, u85, u81, u86, u87, u88, u11, u12, u13, e, HB, f0, f1, f2, f3, f4, f5, f6, f7, f12, f8, f9, n01, t0, t1⟩ K hK
            subst e
            simp only [Act.put, List.setIfInBounds_toArray, List.set_cons_zero, List.set_cons_succ]
            obtain ⟨V4, U4, rfl, I4, J4⟩ := f4 (hm ⟨4, .data⟩ (by simp) rfl)
            go_simp
            exact hK.out _ _ ⟨u82, u83, u84, u85, .tuple #[V4, U4, .int .i64 (0)], V4, u87, u88, u11, u12, u13, (by simp only [Act.put, List.setIfInBounds_toArray, List.set_cons_zero, List.set_cons_succ]), HB, (fun h => f0 (by simpa using h)), (fun h => (f1 (by simpa using h))), (fun h => f2 (by simpa using h)), (fun h => (f3 (by simpa using h))), (fun h => (f4 (by simpa using h))), (fun _ => I4), (fun h => (f6 (by simpa using h))), (fun h => f7 (by simpa using h)), (fun h => f12 (by simpa using h)), (fun h => by simpa using (f8 (by simpa using h))), (fun h => by simpa using (f9 (by simpa using h))), (fun h h' => n01 (by simpa using h) (by simpa using h')), (fun h => by simpa using t0 (by simpa using h)), (fun h => by simpa using t1 (by simpa using h))⟩
          · intro d a2 w2 hd hm ⟨u82, u83, u84, u85, u81, u86, u87, u88, u11, u12, u13, e, HB, f0, f1, f2, f3, f4, f5, f6, f7, f12, f8, f9, n01, t0, t1⟩ K hK
            subst e
            simp only [Act.put, List.setIfInBounds_toArray, List.set_cons_zero, List.set_cons_succ]
            obtain ⟨V4, U4, rfl, I4, J4⟩ := f4 (hm ⟨4, .data⟩ (by simp) rfl)
            go_simp
            exact hK.out _ _ ⟨u82, u83, u84, u85, .tuple #[V4, U4, .int .i64 (0)], u86, U4, u88, u11, u12, u13, (by simp only [Act.put, List.setIfInBounds_toArray, List.set_cons_zero, List.set_cons_succ]), HB, (fun h => f0 (by simpa using h)), (fun h => (f1 (by simpa using h))), (fun h => f2 (by simpa using h)), (fun h => (f3 (by simpa using h))), (fun h => (f4 (by simpa using h))), (fun h => (f5 (by simpa using h))), (fun _ => J4), (fun h => f7 (by simpa using h)), (fun h => f12 (by simpa using h)), (fun h => by simpa using (f8 (by simpa using h))), (fun h => by simpa using (f9 (by simpa using h))), (fun h h' => n01 (by simpa using h) (by simpa using h')), (fun h => by simpa using t0 (by simpa using h)), (fun h => by simpa using t1 (by simpa using h))⟩
          · intro d a2 w2 hd hm ⟨u82, u83, u84, u85, u81, u86, u87, u88, u11, u12, u13, e, HB, f0, f1, f2, f3, f4, f5, f6, f7, f12, f8, f9, n01, t0, t1⟩ K hK
            subst e
            simp only [Act.put, List.setIfInBounds_toArray, List.set_cons_zero, List.set_cons_succ]
            obtain ⟨V4, U4, rfl, I4, J4⟩ := f4 (hm ⟨4, .data⟩ (by simp) rfl)
            go_simp
            exact hK.out _ _ ⟨u82, u83, u84, u85, .tuple #[V4, U4, .int .i64 (0)], u86, u87, .int .i64 (0), u11, u12, u13, (by simp only [Act.put, List.setIfInBounds_toArray, List.set_cons_zero, List.set_cons_succ]), HB, (fun h => f0 (by simpa using h)), (fun h => (f1 (by simpa using h))), (fun h => f2 (by simpa using h)), (fun h => (f3 (by simpa using h))), (fun h => (f4 (by simpa using h))), (fun h => (f5 (by simpa using h))), (fun h => (f6 (by simpa using h))), (fun _ => rfl), (fun h => f12 (by simpa using h)), (fun h => by simpa using (f8 (by simpa using h))), (fun h => by simpa using (f9 (by simpa using h))), (fun h h' => n01 (by simpa using h) (by simpa using h')), (fun h => by simpa using t0 (by simpa using h)), (fun h => by simpa using t1 (by simpa using h))⟩
          · intro d a2 w2 hd hm ⟨u82, u83, u84, u85, u81, u86, u87, u88, u11, u12, u13, e, HB, f0, f1, f2, f3, f4, f5, f6, f7, f12, f8, f9, n01, t0, t1⟩ K hK
            subst e
            simp only [Act.put, List.setIfInBounds_toArray, List.set_cons_zero, List.set_cons_succ]
            have hb : Below w2.heap.size w2 (w2.alloc (.cells #[.bool false, .slice none 0 0] 27)) := (Below.refl _ _).alloc (Nat.le_refl _) _
            have HB3 := HB.trans (hb.mono HB.size)
            go_simp
            exact hK.out _ _ ⟨u82, u83, u84, u85, u81, u86, u87, u88, .pointer (some ⟨w2.heap.size, 0, none⟩), u12, u13, (by simp only [Act.put, List.setIfInBounds_toArray, List.set_cons_zero, List.set_cons_succ]), HB3, (fun h => f0 (by simpa using h)), (fun h => (f1 (by simpa using h)).below hb), (fun h => f2 (by simpa using h)), (fun h => (f3 (by simpa using h)).below hb), (fun h => (f4 (by simpa using h)).below hb), (fun h => (f5 (by simpa using h)).below hb), (fun h => (f6 (by simpa using h)).below hb), (fun h => f7 (by simpa using h)), (fun h => f12 (by simpa using h)), (fun _ => by have hs : d 10 = false := (by cases hq : d 10 with | false => rfl | true => (have hz := t0 hq; rw [hd] at hz; cases hz)); simpa [hs] using OwnP.new HB.size (((b.natAbs : Nat) : Int) / ((Nat.gcd a.natAbs b.natAbs : Nat) : Int))), (fun h => by simpa using (f9 (by simpa using h)).below hb), (fun _ h' => ((f9 (by simpa using h')).lt).symm), (fun _ => by simp), (fun h => by simpa using t1 (by simpa using h))⟩
          · intro d a2 w2 hd hm ⟨u82, u83, u84, u85, u81, u86, u87, u88, u11, u12, u13, e, HB, f0, f1, f2, f3, f4, f5, f6, f7, f12, f8, f9, n01, t0, t1⟩ K hK
            subst e
            simp only [Act.put, List.setIfInBounds_toArray, List.set_cons_zero, List.set_cons_succ]
            have hb : Below w2.heap.size w2 (w2.alloc (.cells #[.bool false, .slice none 0 0] 27)) := (Below.refl _ _).alloc (Nat.le_refl _) _
            have HB3 := HB.trans (hb.mono HB.size)
            go_simp
            exact hK.out _ _ ⟨u82, u83, u84, u85, u81, u86, u87, u88, u11, .pointer (some ⟨w2.heap.size, 0, none⟩), u13, (by simp only [Act.put, List.setIfInBounds_toArray, List.set_cons_zero, List.set_cons_succ]), HB3, (fun h => f0 (by simpa using h)), (fun h => (f1 (by simpa using h)).below hb), (fun h => f2 (by simpa using h)), (fun h => (f3 (by simpa using h)).below hb), (fun h => (f4 (by simpa using h)).below hb), (fun h => (f5 (by simpa using h)).below hb), (fun h => (f6 (by simpa using h)).below hb), (fun h => f7 (by simpa using h)), (fun h => f12 (by simpa using h)), (fun h => by simpa using (f8 (by simpa using h)).below hb), (fun _ => by have hs : d 11 = false := (by cases hq : d 11 with | false => rfl | true => (have hz := t1 hq; rw [hd] at hz; cases hz)); simpa [hs] using OwnP.new HB.size (((b.natAbs : Nat) : Int) % ((Nat.gcd a.natAbs b.natAbs : Nat) : Int))), (fun h _ => (f8 (by simpa using h)).lt), (fun h => by simpa using t0 (by simpa using h)), (fun _ => by simp)⟩
          · intro d a2 w2 hd hm ⟨u82, u83, u84, u85, u81, u86, u87, u88, u11, u12, u13, e, HB, f0, f1, f2, f3, f4, f5, f6, f7, f12, f8, f9, n01, t0, t1⟩ K hK
            subst e
            simp only [Act.put, List.setIfInBounds_toArray, List.set_cons_zero, List.set_cons_succ]
            obtain ⟨gg, AA, nn, cc, rfl, hi⟩ := f5 (hm ⟨5, .data⟩ (by simp) rfl)
            obtain ⟨g, rfl, hg, b0, b1, hs, n0, n1, _⟩ := f8 (hm ⟨8, .data⟩ (by simp) rfl)
            obtain ⟨k0, k1, k2, k3, k4⟩ := id hs
            go_simp
            exact hK.out _ _ ⟨u82, u83, u84, u85, u81, .agg #[.bool gg, .slice AA nn cc], u87, u88, .pointer (some ⟨g, 0, none⟩), u12, u13, (by simp only [Act.put, List.setIfInBounds_toArray, List.set_cons_zero, List.set_cons_succ]), Below.set2 HB hg _ _, (fun h => f0 (by simpa using h)), (fun h => (f1 (by simpa using h)).set2 hs n0 n1 _ _), (fun h => f2 (by simpa using h)), (fun h => (f3 (by simpa using h)).set2 hs n0 n1 _ _), (fun h => (f4 (by simpa using h)).set2 hs n0 n1 _ _), (fun h => (f5 (by simpa using h)).set2 hs n0 n1 _ _), (fun h => (f6 (by simpa using h)).set2 hs n0 n1 _ _), (fun h => f7 (by simpa using h)), (fun h => f12 (by simpa using h)), (fun _ => by simpa using OwnP.near hi hg hs n0 n1), (fun h => by simpa using (f9 (by simpa using h)).far ((n01 (hm ⟨8, .data⟩ (by simp) rfl) (by simpa using h)).symm) hs n0 n1 _ _), (fun h h' => n01 (by simpa using h) (by simpa using h')), (fun _ => by simpa using hm ⟨8, .data⟩ (by simp) rfl), (fun h => by simpa using t1 (by simpa using h))⟩
          · intro d a2 w2 hd hm ⟨u82, u83, u84, u85, u81, u86, u87, u88, u11, u12, u13, e, HB, f0, f1, f2, f3, f4, f5, f6, f7, f12, f8, f9, n01, t0, t1⟩ K hK
            subst e
            simp only [Act.put, List.setIfInBounds_toArray, List.set_cons_zero, List.set_cons_succ]
            obtain ⟨gg, AA, nn, cc, rfl, hi⟩ := f6 (hm ⟨6, .data⟩ (by simp) rfl)
            obtain ⟨g, rfl, hg, b0, b1, hs, n0, n1, _⟩ := f9 (hm ⟨9, .data⟩ (by simp) rfl)
            obtain ⟨k0, k1, k2, k3, k4⟩ := id hs
            go_simp
            exact hK.out _ _ ⟨u82, u83, u84, u85, u81, u86, .agg #[.bool gg, .slice AA nn cc], u88, u11, .pointer (some ⟨g, 0, none⟩), u13, (by simp only [Act.put, List.setIfInBounds_toArray, List.set_cons_zero, List.set_cons_succ]), Below.set2 HB hg _ _, (fun h => f0 (by simpa using h)), (fun h => (f1 (by simpa using h)).set2 hs n0 n1 _ _), (fun h => f2 (by simpa using h)), (fun h => (f3 (by simpa using h)).set2 hs n0 n1 _ _), (fun h => (f4 (by simpa using h)).set2 hs n0 n1 _ _), (fun h => (f5 (by simpa using h)).set2 hs n0 n1 _ _), (fun h => (f6 (by simpa using h)).set2 hs n0 n1 _ _), (fun h => f7 (by simpa using h)), (fun h => f12 (by simpa using h)), (fun h => by simpa using (f8 (by simpa using h)).far (n01 (by simpa using h) (hm ⟨9, .data⟩ (by simp) rfl)) hs n0 n1 _ _), (fun _ => by simpa using OwnP.near hi hg hs n0 n1), (fun h h' => n01 (by simpa using h) (by simpa using h')), (fun h => by simpa using t0 (by simpa using h)), (fun _ => by simpa using hm ⟨9, .data⟩ (by simp) rfl)⟩
          · intro d a2 w2 hd hm ⟨u82, u83, u84, u85, u81, u86, u87, u88, u11, u12, u13, e, HB, f0, f1, f2, f3, f4, f5, f6, f7, f12, f8, f9, n01, t0, t1⟩ K hK
            subst e
            simp only [Act.put, List.setIfInBounds_toArray, List.set_cons_zero, List.set_cons_succ]
            obtain rfl := f7 (hm ⟨7, .data⟩ (by simp) rfl)
            clear f7
            go_simp
            exact hK.out _ _ ⟨u82, u83, u84, u85, u81, u86, u87, .int .i64 (0), u11, u12, .int .i64 (0), (by simp only [Act.put, List.setIfInBounds_toArray, List.set_cons_zero, List.set_cons_succ]), HB, (fun h => f0 (by simpa using h)), (fun h => (f1 (by simpa using h))), (fun h => f2 (by simpa using h)), (fun h => (f3 (by simpa using h))), (fun h => (f4 (by simpa using h))), (fun h => (f5 (by simpa using h))), (fun h => (f6 (by simpa using h))), (fun _ => rfl), (fun _ => rfl), (fun h => by simpa using (f8 (by simpa using h))), (fun h => by simpa using (f9 (by simpa using h))), (fun h h' => n01 (by simpa using h) (by simpa using h')), (fun h => by simpa using t0 (by simpa using h)), (fun h => by simpa using t1 (by simpa using h))⟩
        · intro d a2 w2 hall ⟨u82, u83, u84, u85, u81, u86, u87, u88, u11, u12, u13, e, HB, f0, f1, f2, f3, f4, f5, f6, f7, f12, f8, f9, n01, t0, t1⟩
          subst e
          simp only [Act.put, List.setIfInBounds_toArray, List.set_cons_zero, List.set_cons_succ]
          obtain rfl := f0 (hall _ (by decide))
          obtain rfl := f2 (hall _ (by decide))
          obtain rfl := f7 (hall _ (by decide))
          obtain rfl := f12 (hall _ (by decide))
          obtain ⟨g0, rfl, h0, b0⟩ := OwnP.intAtB (by have := f8 (hall _ (by decide)); rwa [hall 10 (by decide)] at this)
          obtain ⟨g1, rfl, h1, b1⟩ := OwnP.intAtB (by have := f9 (hall _ (by decide)); rwa [hall 11 (by decide)] at this)
          go_wp2_with fail
          go_meet
          exact ⟨g0, g1, rfl, rfl, rfl, h0, HB⟩
    case rest =>
    obtain ⟨bp, bp2, rfl, rfl, rfl, IP, D6⟩ := hcut
    have BG7 := BG6.after D6
    have BQ7 := BQ6.after D6
    have B7 := B6.trans (D6.mono B6.size)
    clear BG6 BQ6 B6 D6
    obtain ⟨W6, rfl⟩ : ∃ x : World, x = wc := ⟨_, rfl⟩
    go_wp2_with fail
    go_cut [14, 15, 16] (fun p14 p15 p16 wx => ∃ g14 g15 : Nat, p14 = .pointer (some ⟨g14, 0, none⟩) ∧ p15 = .pointer (some ⟨g15, 0, none⟩) ∧ p16 = .int .i64 0 ∧ IntAt wx g14 (((a.natAbs : Nat) : Int) / ((Nat.gcd a.natAbs b.natAbs : Nat) : Int)) ∧ Below W6.heap.size W6 wx)
    case first =>
      as_aux_lemma =>
        obtain ⟨ga, Aa, na, ca, Sa, Ia⟩ := BG7 (ba, a) (by simp)
        obtain ⟨gg0, Ag, ng, cg, Sg, Ig⟩ := BQ7 (bg, ((Nat.gcd a.natAbs b.natAbs : Nat) : Int)) (by simp)
        have HX : Hid (∀ W, Below W6.heap.size W6 W → (Slot2 W ba (.bool ga) (.slice Aa na ca) ∧ Slot2 W bg (.bool gg0) (.slice Ag ng cg))) := fun W hW => ⟨Sa.after hW, Sg.after hW⟩
        clear Sa Sg BG7 BQ7
        refine wp_region_ev (fun d a0 a' w' => ∃ u90 u91 u92 u93 u89 u94 u95 u96 u14 u15 u16 : Value, a' = (((((((((((a0.put (some 90) u90).put (some 91) u91).put (some 92) u92).put (some 93) u93).put (some 89) u89).put (some 94) u94).put (some 95) u95).put (some 96) u96).put (some 14) u14).put (some 15) u15).put (some 16) u16) ∧ Below W6.heap.size W6 w' ∧ (d 0 = true → u90 = .agg #[.bool ga, .slice Aa na ca]) ∧ (d 1 = true → IntV w' u91 (((a.natAbs : Nat) : Int))) ∧ (d 2 = true → u92 = .agg #[.bool gg0, .slice Ag ng cg]) ∧ (d 3 = true → TupV w' u93 (((a.natAbs : Nat) : Int) / ((Nat.gcd a.natAbs b.natAbs : Nat) : Int)) (((a.natAbs : Nat) : Int) % ((Nat.gcd a.natAbs b.natAbs : Nat) : Int)) (0)) ∧ (d 4 = true → TupV w' u89 (((a.natAbs : Nat) : Int) / ((Nat.gcd a.natAbs b.natAbs : Nat) : Int)) (((a.natAbs : Nat) : Int) % ((Nat.gcd a.natAbs b.natAbs : Nat) : Int)) (0)) ∧ (d 5 = true → IntV w' u94 (((a.natAbs : Nat) : Int) / ((Nat.gcd a.natAbs b.natAbs : Nat) : Int))) ∧ (d 6 = true → IntV w' u95 (((a.natAbs : Nat) : Int) % ((Nat.gcd a.natAbs b.natAbs : Nat) : Int))) ∧ (d 7 = true → u96 = .int .i64 (0)) ∧ (d 12 = true → u16 = .int .i64 (0)) ∧ (d 8 = true → OwnP W6.heap.size w' u14 (d 10) (((a.natAbs : Nat) : Int) / ((Nat.gcd a.natAbs b.natAbs : Nat) : Int))) ∧ (d 9 = true → OwnP W6.heap.size w' u15 (d 11) (((a.natAbs : Nat) : Int) % ((Nat.gcd a.natAbs b.natAbs : Nat) : Int))) ∧ (d 8 = true → d 9 = true → u14 ≠ u15) ∧ (d 10 = true → d 8 = true) ∧ (d 11 = true → d 9 = true)) (by kernel_rfl) (by kernel_rfl) ?_ ?_ ?_ ?_
        · intro d d' h a' w' hh
          obtain rfl : d = d' := funext h
          exact hh
        · exact ⟨_, _, _, _, _, _, _, _, _, _, _, (by simp only [Act.put, List.setIfInBounds_toArray, List.set_cons_zero, List.set_cons_succ]; rfl), (Below.refl _ _).drew, (fun h => by cases h), (fun h => by cases h), (fun h => by cases h), (fun h => by cases h), (fun h => by cases h), (fun h => by cases h), (fun h => by cases h), (fun h => by cases h), (fun h => by cases h), (fun h => by cases h), (fun h => by cases h), (fun h => by cases h), (fun h => by cases h), (fun h => by cases h)⟩
        · refine ⟨?_, ?_, ?_, ?_, ?_, ?_, ?_, ?_, ?_, ?_, ?_, ?_, ?_, trivial⟩
          · intro d a2 w2 hd hm ⟨u90, u91, u92, u93, u89, u94, u95, u96, u14, u15, u16, e, HB, f0, f1, f2, f3, f4, f5, f6, f7, f12, f8, f9, n01, t0, t1⟩ K hK
            subst e
            simp only [Act.put, List.setIfInBounds_toArray, List.set_cons_zero, List.set_cons_succ]
            obtain ⟨⟨q0, q1, _, _, _⟩, ⟨q2, q3, _, _, _⟩⟩ := HX.out w2 HB
            go_simp
            exact hK.out _ _ ⟨.agg #[.bool ga, .slice Aa na ca], u91, u92, u93, u89, u94, u95, u96, u14, u15, u16, (by simp only [Act.put, List.setIfInBounds_toArray, List.set_cons_zero, List.set_cons_succ]), HB, (fun _ => rfl), (fun h => (f1 (by simpa using h))), (fun h => f2 (by simpa using h)), (fun h => (f3 (by simpa using h))), (fun h => (f4 (by simpa using h))), (fun h => (f5 (by simpa using h))), (fun h => (f6 (by simpa using h))), (fun h => f7 (by simpa using h)), (fun h => f12 (by simpa using h)), (fun h => by simpa using (f8 (by simpa using h))), (fun h => by simpa using (f9 (by simpa using h))), (fun h h' => n01 (by simpa using h) (by simpa using h')), (fun h => by simpa using t0 (by simpa using h)), (fun h => by simpa using t1 (by simpa using h))⟩
          · intro d a2 w2 hd hm ⟨u90, u91, u92, u93, u89, u94, u95, u96, u14, u15, u16, e, HB, f0, f1, f2, f3, f4, f5, f6, f7, f12, f8, f9, n01, t0, t1⟩ K hK
            subst e
            simp only [Act.put, List.setIfInBounds_toArray, List.set_cons_zero, List.set_cons_succ]
            obtain rfl := f0 (hm ⟨0, .data⟩ (by simp) rfl)
            clear f0
            go_simp
            (with_reducible refine (rabs_z ga Aa na ca _ (Ia.below HB) Za).mono ?_)
            rintro e w3 ⟨gg, AA, nn, cc, rfl, hi, hb⟩
            have HB3 := HB.trans (hb.mono HB.size)
            go_wp2_with fail
            exact hK.out _ _ ⟨.agg #[.bool ga, .slice Aa na ca], .agg #[.bool gg, .slice AA nn cc], u92, u93, u89, u94, u95, u96, u14, u15, u16, (by simp only [Act.put, List.setIfInBounds_toArray, List.set_cons_zero, List.set_cons_succ]), HB3, (fun _ => rfl), (fun _ => ⟨_, _, _, _, rfl, hi⟩), (fun h => f2 (by simpa using h)), (fun h => (f3 (by simpa using h)).below hb), (fun h => (f4 (by simpa using h)).below hb), (fun h => (f5 (by simpa using h)).below hb), (fun h => (f6 (by simpa using h)).below hb), (fun h => f7 (by simpa using h)), (fun h => f12 (by simpa using h)), (fun h => by simpa using (f8 (by simpa using h)).below hb), (fun h => by simpa using (f9 (by simpa using h)).below hb), (fun h h' => n01 (by simpa using h) (by simpa using h')), (fun h => by simpa using t0 (by simpa using h)), (fun h => by simpa using t1 (by simpa using h))⟩
          · intro d a2 w2 hd hm ⟨u90, u91, u92, u93, u89, u94, u95, u96, u14, u15, u16, e, HB, f0, f1, f2, f3, f4, f5, f6, f7, f12, f8, f9, n01, t0, t1⟩ K hK
            subst e
            simp only [Act.put, List.setIfInBounds_toArray, List.set_cons_zero, List.set_cons_succ]
            obtain ⟨⟨q0, q1, _, _, _⟩, ⟨q2, q3, _, _, _⟩⟩ := HX.out w2 HB
            go_simp
            exact hK.out _ _ ⟨u90, u91, .agg #[.bool gg0, .slice Ag ng cg], u93, u89, u94, u95, u96, u14, u15, u16, (by simp only [Act.put, List.setIfInBounds_toArray, List.set_cons_zero, List.set_cons_succ]), HB, (fun h => f0 (by simpa using h)), (fun h => (f1 (by simpa using h))), (fun _ => rfl), (fun h => (f3 (by simpa using h))), (fun h => (f4 (by simpa using h))), (fun h => (f5 (by simpa using h))), (fun h => (f6 (by simpa using h))), (fun h => f7 (by simpa using h)), (fun h => f12 (by simpa using h)), (fun h => by simpa using (f8 (by simpa using h))), (fun h => by simpa using (f9 (by simpa using h))), (fun h h' => n01 (by simpa using h) (by simpa using h')), (fun h => by simpa using t0 (by simpa using h)), (fun h => by simpa using t1 (by simpa using h))⟩
          · intro d a2 w2 hd hm ⟨u90, u91, u92, u93, u89, u94, u95, u96, u14, u15, u16, e, HB, f0, f1, f2, f3, f4, f5, f6, f7, f12, f8, f9, n01, t0, t1⟩ K hK
            subst e
            simp only [Act.put, List.setIfInBounds_toArray, List.set_cons_zero, List.set_cons_succ]
            obtain ⟨G1, A1, N1, C1, rfl, I1⟩ := f1 (hm ⟨1, .data⟩ (by simp) rfl)
            obtain rfl := f2 (hm ⟨2, .data⟩ (by simp) rfl)
            clear f2
            go_simp
            (with_reducible refine (rdm_z G1 gg0 A1 Ag N1 C1 ng cg _ I1 (Ig.below HB) (Sz.abs Za) Zg hgz h8).mono ?_)
            rintro e w3 ⟨g1, A1', n1', c1', g2, A2', n2', c2', rfl, hi1, hi2, hb⟩
            have HB3 := HB.trans (hb.mono HB.size)
            go_wp2_with fail
            exact hK.out _ _ ⟨u90, .agg #[.bool G1, .slice A1 N1 C1], .agg #[.bool gg0, .slice Ag ng cg], .tuple #[.agg #[.bool g1, .slice A1' n1' c1'], .agg #[.bool g2, .slice A2' n2' c2'], .int .i64 (0)], u89, u94, u95, u96, u14, u15, u16, (by simp only [Act.put, List.setIfInBounds_toArray, List.set_cons_zero, List.set_cons_succ]), HB3, (fun h => f0 (by simpa using h)), (fun h => (f1 (by simpa using h)).below hb), (fun _ => rfl), (fun _ => ⟨_, _, rfl, ⟨_, _, _, _, rfl, hi1⟩, ⟨_, _, _, _, rfl, hi2⟩⟩), (fun h => (f4 (by simpa using h)).below hb), (fun h => (f5 (by simpa using h)).below hb), (fun h => (f6 (by simpa using h)).below hb), (fun h => f7 (by simpa using h)), (fun h => f12 (by simpa using h)), (fun h => by simpa using (f8 (by simpa using h)).below hb), (fun h => by simpa using (f9 (by simpa using h)).below hb), (fun h h' => n01 (by simpa using h) (by simpa using h')), (fun h => by simpa using t0 (by simpa using h)), (fun h => by simpa using t1 (by simpa using h))⟩
          · intro d a2 w2 hd hm ⟨u90, u91, u92, u93, u89, u94, u95, u96, u14, u15, u16, e, HB, f0, f1, f2, f3, f4, f5, f6, f7, f12, f8, f9, n01, t0, t1⟩ K hK
            subst e
            simp only [Act.put, List.setIfInBounds_toArray, List.set_cons_zero, List.set_cons_succ]
            obtain ⟨V3, U3, rfl, I3, J3⟩ := f3 (hm ⟨3, .data⟩ (by simp) rfl)
            go_simp
            exact hK.out _ _ ⟨u90, u91, u92, .tuple #[V3, U3, .int .i64 (0)], .tuple #[V3, U3, .int .i64 (0)], u94, u95, u96, u14, u15, u16, (by simp only [Act.put, List.setIfInBounds_toArray, List.set_cons_zero, List.set_cons_succ]), HB, (fun h => f0 (by simpa using h)), (fun h => (f1 (by simpa using h))), (fun h => f2 (by simpa using h)), (fun h => (f3 (by simpa using h))), (fun _ => ⟨V3, U3, rfl, I3, J3⟩), (fun h => (f5 (by simpa using h))), (fun h => (f6 (by simpa using h))), (fun h => f7 (by simpa using h)), (fun h => f12 (by simpa using h)), (fun h => by simpa using (f8 (by simpa using h))), (fun h => by simpa using (f9 (by simpa using h))), (fun h h' => n01 (by simpa using h) (by simpa using h')), (fun h => by simpa using t0 (by simpa using h)), (fun h => by simpa using t1 (by simpa using h))⟩
          · intro d a2 w2 hd hm ⟨u90, u91, u92, u93, u89, u94, u95, u96, u14, u15, u16, e, HB, f0, f1, f2, f3, f4, f5, f6, f7, f12, f8, f9, n01, t0, t1⟩ K hK
            subst e
            simp only [Act.put, List.setIfInBounds_toArray, List.set_cons_zero, List.set_cons_succ]
            obtain ⟨V4, U4, rfl, I4, J4⟩ := f4 (hm ⟨4, .data⟩ (by simp) rfl)
            go_simp
            exact hK.out _ _ ⟨u90, u91, u92, u93, .tuple #[V4, U4, .int .i64 (0)], V4, u95, u96, u14, u15, u16, (by simp only [Act.put, List.setIfInBounds_toArray, List.set_cons_zero, List.set_cons_succ]), HB, (fun h => f0 (by simpa using h)), (fun h => (f1 (by simpa using h))), (fun h => f2 (by simpa using h)), (fun h => (f3 (by simpa using h))), (fun h => (f4 (by simpa using h))), (fun _ => I4), (fun h => (f6 (by simpa using h))), (fun h => f7 (by simpa using h)), (fun h => f12 (by simpa using h)), (fun h => by simpa using (f8 (by simpa using h))), (fun h => by simpa using (f9 (by simpa using h))), (fun h h' => n01 (by simpa using h) (by simpa using h')), (fun h => by simpa using t0 (by simpa using h)), (fun h => by simpa using t1 (by simpa using h))⟩
          · intro d a2 w2 hd hm ⟨u90, u91, u92, u93, u89, u94, u95, u96, u14, u15, u16, e, HB, f0, f1, f2, f3, f4, f5, f6, f7, f12, f8, f9, n01, t0, t1⟩ K hK
            subst e
            simp only [Act.put, List.setIfInBounds_toArray, List.set_cons_zero, List.set_cons_succ]
            obtain ⟨V4, U4, rfl, I4, J4⟩ := f4 (hm ⟨4, .data⟩ (by simp) rfl)
            go_simp
            exact hK.out _ _ ⟨u90, u91, u92, u93, .tuple #[V4, U4, .int .i64 (0)], u94, U4, u96, u14, u15, u16, (by simp only [Act.put, List.setIfInBounds_toArray, List.set_cons_zero, List.set_cons_succ]), HB, (fun h => f0 (by simpa using h)), (fun h => (f1 (by simpa using h))), (fun h => f2 (by simpa using h)), (fun h => (f3 (by simpa using h))), (fun h => (f4 (by simpa using h))), (fun h => (f5 (by simpa using h))), (fun _ => J4), (fun h => f7 (by simpa using h)), (fun h => f12 (by simpa using h)), (fun h => by simpa using (f8 (by simpa using h))), (fun h => by simpa using (f9 (by simpa using h))), (fun h h' => n01 (by simpa using h) (by simpa using h')), (fun h => by simpa using t0 (by simpa using h)), (fun h => by simpa using t1 (by simpa using h))⟩
          · intro d a2 w2 hd hm ⟨u90, u91, u92, u93, u89, u94, u95, u96, u14, u15, u16, e, HB, f0, f1, f2, f3, f4, f5, f6, f7, f12, f8, f9, n01, t0, t1⟩ K hK
            subst e
            simp only [Act.put, List.setIfInBounds_toArray, List.set_cons_zero, List.set_cons_succ]
            obtain ⟨V4, U4, rfl, I4, J4⟩ := f4 (hm ⟨4, .data⟩ (by simp) rfl)
            go_simp
            exact hK.out _ _ ⟨u90, u91, u92, u93, .tuple #[V4, U4, .int .i64 (0)], u94, u95, .int .i64 (0), u14, u15, u16, (by simp only [Act.put, List.setIfInBounds_toArray, List.set_cons_zero, List.set_cons_succ]), HB, (fun h => f0 (by simpa using h)), (fun h => (f1 (by simpa using h))), (fun h => f2 (by simpa using h)), (fun h => (f3 (by simpa using h))), (fun h => (f4 (by simpa using h))), (fun h => (f5 (by simpa using h))), (fun h => (f6 (by simpa using h))), (fun _ => rfl), (fun h => f12 (by simpa using h)), (fun h => by simpa using (f8 (by simpa using h))), (fun h => by simpa using (f9 (by simpa using h))), (fun h h' => n01 (by simpa using h) (by simpa using h')), (fun h => by simpa using t0 (by simpa using h)), (fun h => by simpa using t1 (by simpa using h))⟩
          · intro d a2 w2 hd hm ⟨u90, u91, u92, u93, u89, u94, u95, u96, u14, u15, u16, e, HB, f0, f1, f2, f3, f4, f5, f6, f7, f12, f8, f9, n01, t0, t1⟩ K hK
            subst e
            simp only [Act.put, List.setIfInBounds_toArray, List.set_cons_zero, List.set_cons_succ]
            have hb : Below w2.heap.size w2 (w2.alloc (.cells #[.bool false, .slice none 0 0] 27)) := (Below.refl _ _).alloc (Nat.le_refl _) _
            have HB3 := HB.trans (hb.mono HB.size)
            go_simp
            exact hK.out _ _ ⟨u90, u91, u92, u93, u89, u94, u95, u96, .pointer (some ⟨w2.heap.size, 0, none⟩), u15, u16, (by simp only [Act.put, List.setIfInBounds_toArray, List.set_cons_zero, List.set_cons_succ]), HB3, (fun h => f0 (by simpa using h)), (fun h => (f1 (by simpa using h)).below hb), (fun h => f2 (by simpa using h)), (fun h => (f3 (by simpa using h)).below hb), (fun h => (f4 (by simpa using h)).below hb), (fun h => (f5 (by simpa using h)).below hb), (fun h => (f6 (by simpa using h)).below hb), (fun h => f7 (by simpa using h)), (fun h => f12 (by simpa using h)), (fun _ => by have hs : d 10 = false := (by cases hq : d 10 with | false => rfl | true => (have hz := t0 hq; rw [hd] at hz; cases hz)); simpa [hs] using OwnP.new HB.size (((a.natAbs : Nat) : Int) / ((Nat.gcd a.natAbs b.natAbs : Nat) : Int))), (fun h => by simpa using (f9 (by simpa using h)).below hb), (fun _ h' => ((f9 (by simpa using h')).lt).symm), (fun _ => by simp), (fun h => by simpa using t1 (by simpa using h))⟩
          · intro d a2 w2 hd hm ⟨u90, u91, u92, u93, u89, u94, u95, u96, u14, u15, u16, e, HB, f0, f1, f2, f3, f4, f5, f6, f7, f12, f8, f9, n01, t0, t1⟩ K hK
            subst e
            simp only [Act.put, List.setIfInBounds_toArray, List.set_cons_zero, List.set_cons_succ]
            have hb : Below w2.heap.size w2 (w2.alloc (.cells #[.bool false, .slice none 0 0] 27)) := (Below.refl _ _).alloc (Nat.le_refl _) _
            have HB3 := HB.trans (hb.mono HB.size)
            go_simp
            exact hK.out _ _ ⟨u90, u91, u92, u93, u89, u94, u95, u96, u14, .pointer (some ⟨w2.heap.size, 0, none⟩), u16, (by simp only [Act.put, List.setIfInBounds_toArray, List.set_cons_zero, List.set_cons_succ]), HB3, (fun h => f0 (by simpa using h)), (fun h => (f1 (by simpa using h)).below hb), (fun h => f2 (by simpa using h)), (fun h => (f3 (by simpa using h)).below hb), (fun h => (f4 (by simpa using h)).below hb), (fun h => (f5 (by simpa using h)).below hb), (fun h => (f6 (by simpa using h)).below hb), (fun h => f7 (by simpa using h)), (fun h => f12 (by simpa using h)), (fun h => by simpa using (f8 (by simpa using h)).below hb), (fun _ => by have hs : d 11 = false := (by cases hq : d 11 with | false => rfl | true => (have hz := t1 hq; rw [hd] at hz; cases hz)); simpa [hs] using OwnP.new HB.size (((a.natAbs : Nat) : Int) % ((Nat.gcd a.natAbs b.natAbs : Nat) : Int))), (fun h _ => (f8 (by simpa using h)).lt), (fun h => by simpa using t0 (by simpa using h)), (fun _ => by simp)⟩
          · intro d a2 w2 hd hm ⟨u90, u91, u92, u93, u89, u94, u95, u96, u14, u15, u16, e, HB, f0, f1, f2, f3, f4, f5, f6, f7, f12, f8, f9, n01, t0, t1⟩ K hK
            subst e
            simp only [Act.put, List.setIfInBounds_toArray, List.set_cons_zero, List.set_cons_succ]
            obtain ⟨gg, AA, nn, cc, rfl, hi⟩ := f5 (hm ⟨5, .data⟩ (by simp) rfl)
            obtain ⟨g, rfl, hg, b0, b1, hs, n0, n1, _⟩ := f8 (hm ⟨8, .data⟩ (by simp) rfl)
            obtain ⟨k0, k1, k2, k3, k4⟩ := id hs
            go_simp
            exact hK.out _ _ ⟨u90, u91, u92, u93, u89, .agg #[.bool gg, .slice AA nn cc], u95, u96, .pointer (some ⟨g, 0, none⟩), u15, u16, (by simp only [Act.put, List.setIfInBounds_toArray, List.set_cons_zero, List.set_cons_succ]), Below.set2 HB hg _ _, (fun h => f0 (by simpa using h)), (fun h => (f1 (by simpa using h)).set2 hs n0 n1 _ _), (fun h => f2 (by simpa using h)), (fun h => (f3 (by simpa using h)).set2 hs n0 n1 _ _), (fun h => (f4 (by simpa using h)).set2 hs n0 n1 _ _), (fun h => (f5 (by simpa using h)).set2 hs n0 n1 _ _), (fun h => (f6 (by simpa using h)).set2 hs n0 n1 _ _), (fun h => f7 (by simpa using h)), (fun h => f12 (by simpa using h)), (fun _ => by simpa using OwnP.near hi hg hs n0 n1), (fun h => by simpa using (f9 (by simpa using h)).far ((n01 (hm ⟨8, .data⟩ (by simp) rfl) (by simpa using h)).symm) hs n0 n1 _ _), (fun h h' => n01 (by simpa using h) (by simpa using h')), (fun _ => by simpa using hm ⟨8, .data⟩ (by simp) rfl), (fun h => by simpa using t1 (by simpa using h))⟩
          · intro d a2 w2 hd hm ⟨u90, u91, u92, u93, u89, u94, u95, u96, u14, u15, u16, e, HB, f0, f1, f2, f3, f4, f5, f6, f7, f12, f8, f9, n01, t0, t1⟩ K hK
            subst e
            simp only [Act.put, List.setIfInBounds_toArray, List.set_cons_zero, List.set_cons_succ]
            obtain ⟨gg, AA, nn, cc, rfl, hi⟩ := f6 (hm ⟨6, .data⟩ (by simp) rfl)
            obtain ⟨g, rfl, hg, b0, b1, hs, n0, n1, _⟩ := f9 (hm ⟨9, .data⟩ (by simp) rfl)
            obtain ⟨k0, k1, k2, k3, k4⟩ := id hs
            go_simp
            exact hK.out _ _ ⟨u90, u91, u92, u93, u89, u94, .agg #[.bool gg, .slice AA nn cc], u96, u14, .pointer (some ⟨g, 0, none⟩), u16, (by simp only [Act.put, List.setIfInBounds_toArray, List.set_cons_zero, List.set_cons_succ]), Below.set2 HB hg _ _, (fun h => f0 (by simpa using h)), (fun h => (f1 (by simpa using h)).set2 hs n0 n1 _ _), (fun h => f2 (by simpa using h)), (fun h => (f3 (by simpa using h)).set2 hs n0 n1 _ _), (fun h => (f4 (by simpa using h)).set2 hs n0 n1 _ _), (fun h => (f5 (by simpa using h)).set2 hs n0 n1 _ _), (fun h => (f6 (by simpa using h)).set2 hs n0 n1 _ _), (fun h => f7 (by simpa using h)), (fun h => f12 (by simpa using h)), (fun h => by simpa using (f8 (by simpa using h)).far (n01 (by simpa using h) (hm ⟨9, .data⟩ (by simp) rfl)) hs n0 n1 _ _), (fun _ => by simpa using OwnP.near hi hg hs n0 n1), (fun h h' => n01 (by simpa using h) (by simpa using h')), (fun h => by simpa using t0 (by simpa using h)), (fun _ => by simpa using hm ⟨9, .data⟩ (by simp) rfl)⟩
          · intro d a2 w2 hd hm ⟨u90, u91, u92, u93, u89, u94, u95, u96, u14, u15, u16, e, HB, f0, f1, f2, f3, f4, f5, f6, f7, f12, f8, f9, n01, t0, t1⟩ K hK
            subst e
            simp only [Act.put, List.setIfInBounds_toArray, List.set_cons_zero, List.set_cons_succ]
            obtain rfl := f7 (hm ⟨7, .data⟩ (by simp) rfl)
            clear f7
            go_simp
            exact hK.out _ _ ⟨u90, u91, u92, u93, u89, u94, u95, .int .i64 (0), u14, u15, .int .i64 (0), (by simp only [Act.put, List.setIfInBounds_toArray, List.set_cons_zero, List.set_cons_succ]), HB, (fun h => f0 (by simpa using h)), (fun h => (f1 (by simpa using h))), (fun h => f2 (by simpa using h)), (fun h => (f3 (by simpa using h))), (fun h => (f4 (by simpa using h))), (fun h => (f5 (by simpa using h))), (fun h => (f6 (by simpa using h))), (fun _ => rfl), (fun _ => rfl), (fun h => by simpa using (f8 (by simpa using h))), (fun h => by simpa using (f9 (by simpa using h))), (fun h h' => n01 (by simpa using h) (by simpa using h')), (fun h => by simpa using t0 (by simpa using h)), (fun h => by simpa using t1 (by simpa using h))⟩
        · intro d a2 w2 hall ⟨u90, u91, u92, u93, u89, u94, u95, u96, u14, u15, u16, e, HB, f0, f1, f2, f3, f4, f5, f6, f7, f12, f8, f9, n01, t0, t1⟩
          subst e
          simp only [Act.put, List.setIfInBounds_toArray, List.set_cons_zero, List.set_cons_succ]
          obtain rfl := f0 (hall _ (by decide))
          obtain rfl := f2 (hall _ (by decide))
          obtain rfl := f7 (hall _ (by decide))
          obtain rfl := f12 (hall _ (by decide))
          obtain ⟨g0, rfl, h0, b0⟩ := OwnP.intAtB (by have := f8 (hall _ (by decide)); rwa [hall 10 (by decide)] at this)
          obtain ⟨g1, rfl, h1, b1⟩ := OwnP.intAtB (by have := f9 (hall _ (by decide)); rwa [hall 11 (by decide)] at this)
          go_wp2_with fail
          go_meet
          exact ⟨g0, g1, rfl, rfl, rfl, h0, HB⟩
    case rest =>
    obtain ⟨bq, bq2, rfl, rfl, rfl, IQ, D7⟩ := hcut
    have BG8 := BG7.after D7
    have BQ8 := BQ7.after D7
    have IP8 := IP.after D7
    have B8 := B7.trans (D7.mono B7.size)
    clear BG7 BQ7 B7 D7 IP
    obtain ⟨W7, rfl⟩ : ∃ x : World, x = wc := ⟨_, rfl⟩
    have Zp : Sz 7 (((b.natAbs : Nat) : Int) / ((Nat.gcd a.natAbs b.natAbs : Nat) : Int)) := Sz.div (Sz.abs Zb) (by decide)
    have Zq : Sz 7 (((a.natAbs : Nat) : Int) / ((Nat.gcd a.natAbs b.natAbs : Nat) : Int)) := Sz.div (Sz.abs Za) (by decide)
    have C1 : cmpN ((s.natAbs : Nat) : Int) (((b.natAbs : Nat) : Int) / ((Nat.gcd a.natAbs b.natAbs : Nat) : Int)) ≤ 0 ∨ cmpN ((s.natAbs : Nat) : Int) 1 ≤ 0 := by
      rcases F2.out with h | h
      · left
        have h' : ((s.natAbs : Nat) : Int) ≤ ((b.natAbs : Nat) : Int) / ((Nat.gcd a.natAbs b.natAbs : Nat) : Int) := by rw [← Int.natCast_ediv]; exact_mod_cast h
        unfold cmpN; split <;> (try split) <;> omega
      · right
        unfold cmpN; split <;> (try split) <;> omega
    have C2 : cmpN ((t.natAbs : Nat) : Int) (((a.natAbs : Nat) : Int) / ((Nat.gcd a.natAbs b.natAbs : Nat) : Int)) ≤ 0 ∨ cmpN ((t.natAbs : Nat) : Int) 1 ≤ 0 := by
      rcases F3.out with h | h
      · left
        have h' : ((t.natAbs : Nat) : Int) ≤ ((a.natAbs : Nat) : Int) / ((Nat.gcd a.natAbs b.natAbs : Nat) : Int) := by rw [← Int.natCast_ediv]; exact_mod_cast h
        unfold cmpN; split <;> (try split) <;> omega
      · right
        unfold cmpN; split <;> (try split) <;> omega
    generalize hv1 : cmpN ((s.natAbs : Nat) : Int) (((b.natAbs : Nat) : Int) / ((Nat.gcd a.natAbs b.natAbs : Nat) : Int)) = v1 at C1
    generalize hv2 : cmpN ((s.natAbs : Nat) : Int) 1 = v2 at C1
    generalize hv3 : cmpN ((t.natAbs : Nat) : Int) (((a.natAbs : Nat) : Int) / ((Nat.gcd a.natAbs b.natAbs : Nat) : Int)) = v3 at C2
    generalize hv4 : cmpN ((t.natAbs : Nat) : Int) 1 = v4 at C2
    have V1 := Lib.hid hv1
    have V2 := Lib.hid hv2
    have V3 := Lib.hid hv3
    have V4 := Lib.hid hv4
    clear hv1 hv2 hv3 hv4
    go_wp2_with fail
    go_cut [17] (fun p17 wx => p17 = .bool true ∧ Below W7.heap.size W7 wx)
    case first =>
      have XS := BQ8 (bg + 1, s) (by simp)
      have XT := BQ8 (bg + 1 + 1, t) (by simp)
      by_cases y1 : v1 ≤ 0
      · by_cases y3 : v3 ≤ 0
        · refine ext_r11aa XS IP8 XT IQ Zs Zp Zt Zq V1 y1 V3 y3 ?_
          intros
          go_wp2_with fail
          go_meet
          exact ⟨rfl, by assumption⟩
        · have y4 : v4 ≤ 0 := by omega
          refine ext_r11ab XS IP8 XT IQ Zs Zp Zt Zq V1 y1 V3 (decide_eq_false y3) V4 y4 ?_
          intros
          go_wp2_with fail
          go_meet
          exact ⟨rfl, by assumption⟩
      · have y2 : v2 ≤ 0 := by omega
        by_cases y3 : v3 ≤ 0
        · refine ext_r11ba XS IP8 XT IQ Zs Zp Zt Zq V1 (decide_eq_false y1) V2 y2 V3 y3 ?_
          intros
          go_wp2_with fail
          go_meet
          exact ⟨rfl, by assumption⟩
        · have y4 : v4 ≤ 0 := by omega
          refine ext_r11bb XS IP8 XT IQ Zs Zp Zt Zq V1 (decide_eq_false y1) V2 y2 V3 (decide_eq_false y3) V4 y4 ?_
          intros
          go_wp2_with fail
          go_meet
          exact ⟨rfl, by assumption⟩
    case rest =>
    obtain ⟨rfl, D8⟩ := hcut
    have BG9 := BG8.after D8
    have BQ9 := BQ8.after D8
    have B9 := B8.trans (D8.mono B8.size)
    clear BG8 BQ8 B8 D8 IP8 IQ C1 C2 V1 V2 V3 V4
    obtain ⟨W8, rfl⟩ : ∃ x : World, x = wc := ⟨_, rfl⟩
    go_wp2_with fail
    go_cut [4] (fun p4 wx => p4 = .bool true ∧ Below W8.heap.size W8 wx)
    case first =>
      refine ext_r12 (BQ9 (bg + 1, s) (by simp)) (BQ9 (bg + 1 + 1, t) (by simp)) (BG9 (ba, a) (by simp)) (BG9 (bb, b) (by simp)) (BQ9 (bg, ((Nat.gcd a.natAbs b.natAbs : Nat) : Int)) (by simp)) Zs Zt Za Zb F1 ?_
      intros
      go_wp2_with fail
      go_meet
      exact ⟨rfl, by assumption⟩
    case rest =>
    obtain ⟨rfl, D9⟩ := hcut
    go_wp2_with fail
    go_ret
    exact ⟨rfl, B9.trans (D9.mono B9.size)⟩
end Go.Proofs.YtnlmdjbakcjhbaaDoor
