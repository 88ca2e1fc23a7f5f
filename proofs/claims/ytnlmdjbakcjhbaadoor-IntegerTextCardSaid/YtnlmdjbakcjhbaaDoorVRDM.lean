/- Contract of torsionref01.DivMod. -/
import Derived.Test.YtnlmdjbakcjhbaaDoorVRDiv
import Derived.Test.YtnlmdjbakcjhbaaDoorVLawKit
import Derived.Test.YtnlmdjbakcjhbaaDoorVPar2
import Derived.Test.YtnlmdjbakcjhbaaDoorVG0Num
import Derived.Test.YtnlmdjbakcjhbaaDoorVDivModZ
import Derived.RegionTactic
namespace Go.Proofs.YtnlmdjbakcjhbaaDoor
open Go.RowKit
theorem rdiv_any (A A' : Option Addr) (n c m d a b : Nat) (w : World) (ha : Lim w w.heap.size A n c (digs a)) (hb : Lim w w.heap.size A' m d (digs b)) (hn : n ≤ 80000) (hm : m ≤ 80000) (hb0 : 0 < b) :
    Calls Tryd.prog 62 #[.slice A n c, .slice A' m d] w (RetII w ((a / b : Nat) : Int) ((a % b : Nat) : Int)) := by
  have h0 : 0 < m := by rw [← hb.len]; exact digs_len_pos hb0
  rcases Nat.lt_or_ge m 2 with h | h
  · obtain rfl : m = 1 := by omega
    exact rdiv_one A A' n c d a b w ha hb (by omega)
  · exact rdiv_more A A' n c m d a b w ha hb hn hm h
theorem rneg_z (neg : Bool) (A : Option Addr) (n c : Nat) {k : Nat} {a : Int} (w : World) (ha : IsInt w neg A n c a) (sa : Sz k a) : Calls Tryd.prog 64 #[.agg #[.bool neg, .slice A n c]] w (RetInt w (-a)) :=
  rneg_any neg A n c a w ha (Nat.le_trans (ha.sz sa) (by decide))
theorem RetDM.drew {w : World} {q r : Int} {e : Ending} {w' : World} (h : RetDM w q r e w') : RetDM w q r e w'.drew := by
  obtain ⟨g1, A1, n1, c1, g2, A2, n2, c2, h1, h2, h3, h4⟩ := h
  exact ⟨g1, A1, n1, c1, g2, A2, n2, c2, h1, h2.below (Below.refl _ _).drew, h3.below (Below.refl _ _).drew, h4.drew⟩
/-- Where the division stands: both arguments, the results' structs, quotient and remainder so far. -/
def RdS (w wx : World) (a b : Int) (g : Nat) (q r : Int) : Prop :=
  Below w.heap.size w wx ∧ IntAt wx w.heap.size a ∧ IntAt wx (w.heap.size + 1) b ∧ Slot2 wx (w.heap.size + 1 + 1) (.bool false) (.slice none 0 0) ∧ Slot2 wx (w.heap.size + 1 + 1 + 1) (.bool false) (.slice none 0 0) ∧ w.heap.size + 1 + 1 + 1 < g ∧ IntAt wx g q ∧ IntAt wx (g + 1) r
/-- The two integers of the arguments, made anew. -/
def RdA (w wx : World) (a b : Int) : Prop :=
  Below w.heap.size w wx ∧ IntAt wx w.heap.size a ∧ IntAt wx (w.heap.size + 1) b ∧ Slot2 wx (w.heap.size + 1 + 1) (.bool false) (.slice none 0 0) ∧ Slot2 wx (w.heap.size + 1 + 1 + 1) (.bool false) (.slice none 0 0)
set_option maxRecDepth 1000000 in
set_option maxHeartbeats 8000000 in
theorem rdm_z (neg neg' : Bool) (A A' : Option Addr) (n c m dc : Nat) {k l : Nat} {a b : Int} (w : World) (ha : IsInt w neg A n c a) (hb : IsInt w neg' A' m dc b) (sa : Sz k a) (sb : Sz l b) (hb0 : b ≠ 0) (hk2 : k + 1 + 1 ≤ 10000) :
    Calls Tryd.prog 18 #[.agg #[.bool neg, .slice A n c], .agg #[.bool neg', .slice A' m dc]] w (RetDM w (a / b) (a % b)) := by
  have hk1 : k + 1 ≤ 10000 := by omega
  have T1 : Hid (∀ W, Below w.heap.size w W → Calls Tryd.prog 16 #[.slice A n c, .bool neg] W (RetInt W a)) := fun W hW => by
    have h1 := Made_any neg A n c w.heap.size _ W (ha.lim.below hW) hW.size (Nat.le_trans (ha.sz sa) (by decide))
    rwa [val_digs, ha.zOfv] at h1
  have T2 : Hid (∀ W, Below w.heap.size w W → Calls Tryd.prog 16 #[.slice A' m dc, .bool neg'] W (RetInt W b)) := fun W hW => by
    have h1 := Made_any neg' A' m dc w.heap.size _ W (hb.lim.below hW) hW.size (Nat.le_trans (hb.sz sb) (by decide))
    rwa [val_digs, hb.zOfv] at h1
  obtain ⟨HB, P0, Q0, R0, S0⟩ := frame22 w (.bool neg) (.slice A n c) (.bool neg') (.slice A' m dc)
  have HB0 := Lib.hid hb0
  clear hb0 ha hb
  go_enter Tryd.func18, Tryd.ntmps18
  go_upto_region 1 with (fail)
  have ⟨p0, p1, p2, p3, p4⟩ := P0
  have ⟨q0, q1, q2, q3, q4⟩ := Q0
  go_cut [] (fun wx => RdA w wx a b)
  case first =>
    as_aux_lemma =>
      clear p0 p1 p2 p3 p4 q0 q1 q2 q3 q4

      refine wp_region_ev (fun d a0 a' w' => ∃ u9 u10 u11 u12 u13 u14 u15 u16 u17 u18 : Value, a' = ((((((((((a0.put (some 9) u9).put (some 10) u10).put (some 11) u11).put (some 12) u12).put (some 13) u13).put (some 14) u14).put (some 15) u15).put (some 16) u16).put (some 17) u17).put (some 18) u18) ∧ Below w.heap.size w w' ∧ (d 0 = true → u9 = .pointer (some ⟨w.heap.size, 1, none⟩)) ∧ (d 1 = true → u10 = .slice A n c) ∧ (d 2 = true → u11 = .pointer (some ⟨w.heap.size, 0, none⟩)) ∧ (d 3 = true → u12 = .bool neg) ∧ (d 4 = true → IntV w' u13 (a)) ∧ (d 5 = true → u14 = .pointer (some ⟨w.heap.size + 1, 1, none⟩)) ∧ (d 6 = true → u15 = .slice A' m dc) ∧ (d 7 = true → u16 = .pointer (some ⟨w.heap.size + 1, 0, none⟩)) ∧ (d 8 = true → u17 = .bool neg') ∧ (d 9 = true → IntV w' u18 (b)) ∧ (BlkF w' (w.heap.size) (.bool neg) (.slice A n c) (d 10) (a)) ∧ (BlkF w' (w.heap.size + 1) (.bool neg') (.slice A' m dc) (d 11) (b)) ∧ (BlkF w' (w.heap.size + 1 + 1) (.bool false) (.slice none 0 0) false (0)) ∧ (BlkF w' (w.heap.size + 1 + 1 + 1) (.bool false) (.slice none 0 0) false (0)) ∧ (d 10 = true → d 1 = true) ∧ (d 10 = true → d 3 = true) ∧ (d 11 = true → d 6 = true) ∧ (d 11 = true → d 8 = true)) (by kernel_rfl) (by kernel_rfl) ?_ ?_ ?_ ?_
      · intro d d' h a' w' hh
        obtain rfl : d = d' := funext h
        exact hh
      · exact ⟨_, _, _, _, _, _, _, _, _, _, (by simp only [Act.put, List.setIfInBounds_toArray, List.set_cons_zero, List.set_cons_succ]; rfl), Below.drew (HB), (fun h => by cases h), (fun h => by cases h), (fun h => by cases h), (fun h => by cases h), (fun h => by cases h), (fun h => by cases h), (fun h => by cases h), (fun h => by cases h), (fun h => by cases h), (fun h => by cases h), (BlkF.start (Slot2.drew P0)), (BlkF.start (Slot2.drew Q0)), (BlkF.start (Slot2.drew R0)), (BlkF.start (Slot2.drew S0)), (fun h => by cases h), (fun h => by cases h), (fun h => by cases h), (fun h => by cases h)⟩
      · refine ⟨?_, ?_, ?_, ?_, ?_, ?_, ?_, ?_, ?_, ?_, ?_, ?_, trivial⟩
        · intro d a2 w2 hd hm ⟨u9, u10, u11, u12, u13, u14, u15, u16, u17, u18, e, HB, f0, f1, f2, f3, f4, f5, f6, f7, f8, f9, kP, kQ, kR, kS, o10_1, o10_3, o11_6, o11_8⟩ K hK
          subst e
          simp only [Act.put, List.setIfInBounds_toArray, List.set_cons_zero, List.set_cons_succ]
          go_simp
          exact hK.out _ _ ⟨.pointer (some ⟨w.heap.size, 1, none⟩), u10, u11, u12, u13, u14, u15, u16, u17, u18, (by simp only [Act.put, List.setIfInBounds_toArray, List.set_cons_zero, List.set_cons_succ]), HB, (fun _ => rfl), (fun h => f1 (by simpa using h)), (fun h => f2 (by simpa using h)), (fun h => f3 (by simpa using h)), (fun h => (f4 (by simpa using h))), (fun h => f5 (by simpa using h)), (fun h => f6 (by simpa using h)), (fun h => f7 (by simpa using h)), (fun h => f8 (by simpa using h)), (fun h => (f9 (by simpa using h))), (by simpa using (kP)), (by simpa using (kQ)), (by simpa using (kR)), (by simpa using (kS)), (fun h => by simpa using o10_1 (by simpa using h)), (fun h => by simpa using o10_3 (by simpa using h)), (fun h => by simpa using o11_6 (by simpa using h)), (fun h => by simpa using o11_8 (by simpa using h))⟩
        · intro d a2 w2 hd hm ⟨u9, u10, u11, u12, u13, u14, u15, u16, u17, u18, e, HB, f0, f1, f2, f3, f4, f5, f6, f7, f8, f9, kP, kQ, kR, kS, o10_1, o10_3, o11_6, o11_8⟩ K hK
          subst e
          simp only [Act.put, List.setIfInBounds_toArray, List.set_cons_zero, List.set_cons_succ]
          obtain rfl := f0 (hm ⟨0, .data⟩ (by simp) rfl)
          clear f0
          have hs : d 10 = false := by cases hq : d 10 with | false => rfl | true => (have hz := o10_1 hq; rw [hd] at hz; cases hz)
          have ⟨y0, y1, _, _, _⟩ := kP.1 hs
          clear hs
          go_simp
          exact hK.out _ _ ⟨.pointer (some ⟨w.heap.size, 1, none⟩), .slice A n c, u11, u12, u13, u14, u15, u16, u17, u18, (by simp only [Act.put, List.setIfInBounds_toArray, List.set_cons_zero, List.set_cons_succ]), HB, (fun _ => rfl), (fun _ => rfl), (fun h => f2 (by simpa using h)), (fun h => f3 (by simpa using h)), (fun h => (f4 (by simpa using h))), (fun h => f5 (by simpa using h)), (fun h => f6 (by simpa using h)), (fun h => f7 (by simpa using h)), (fun h => f8 (by simpa using h)), (fun h => (f9 (by simpa using h))), (by simpa using (kP)), (by simpa using (kQ)), (by simpa using (kR)), (by simpa using (kS)), (fun _ => by simp), (fun h => by simpa using o10_3 (by simpa using h)), (fun h => by simpa using o11_6 (by simpa using h)), (fun h => by simpa using o11_8 (by simpa using h))⟩
        · intro d a2 w2 hd hm ⟨u9, u10, u11, u12, u13, u14, u15, u16, u17, u18, e, HB, f0, f1, f2, f3, f4, f5, f6, f7, f8, f9, kP, kQ, kR, kS, o10_1, o10_3, o11_6, o11_8⟩ K hK
          subst e
          simp only [Act.put, List.setIfInBounds_toArray, List.set_cons_zero, List.set_cons_succ]
          go_simp
          exact hK.out _ _ ⟨u9, u10, .pointer (some ⟨w.heap.size, 0, none⟩), u12, u13, u14, u15, u16, u17, u18, (by simp only [Act.put, List.setIfInBounds_toArray, List.set_cons_zero, List.set_cons_succ]), HB, (fun h => f0 (by simpa using h)), (fun h => f1 (by simpa using h)), (fun _ => rfl), (fun h => f3 (by simpa using h)), (fun h => (f4 (by simpa using h))), (fun h => f5 (by simpa using h)), (fun h => f6 (by simpa using h)), (fun h => f7 (by simpa using h)), (fun h => f8 (by simpa using h)), (fun h => (f9 (by simpa using h))), (by simpa using (kP)), (by simpa using (kQ)), (by simpa using (kR)), (by simpa using (kS)), (fun h => by simpa using o10_1 (by simpa using h)), (fun h => by simpa using o10_3 (by simpa using h)), (fun h => by simpa using o11_6 (by simpa using h)), (fun h => by simpa using o11_8 (by simpa using h))⟩
        · intro d a2 w2 hd hm ⟨u9, u10, u11, u12, u13, u14, u15, u16, u17, u18, e, HB, f0, f1, f2, f3, f4, f5, f6, f7, f8, f9, kP, kQ, kR, kS, o10_1, o10_3, o11_6, o11_8⟩ K hK
          subst e
          simp only [Act.put, List.setIfInBounds_toArray, List.set_cons_zero, List.set_cons_succ]
          obtain rfl := f2 (hm ⟨2, .data⟩ (by simp) rfl)
          clear f2
          have hs : d 10 = false := by cases hq : d 10 with | false => rfl | true => (have hz := o10_3 hq; rw [hd] at hz; cases hz)
          have ⟨y0, y1, _, _, _⟩ := kP.1 hs
          clear hs
          go_simp
          exact hK.out _ _ ⟨u9, u10, .pointer (some ⟨w.heap.size, 0, none⟩), .bool neg, u13, u14, u15, u16, u17, u18, (by simp only [Act.put, List.setIfInBounds_toArray, List.set_cons_zero, List.set_cons_succ]), HB, (fun h => f0 (by simpa using h)), (fun h => f1 (by simpa using h)), (fun _ => rfl), (fun _ => rfl), (fun h => (f4 (by simpa using h))), (fun h => f5 (by simpa using h)), (fun h => f6 (by simpa using h)), (fun h => f7 (by simpa using h)), (fun h => f8 (by simpa using h)), (fun h => (f9 (by simpa using h))), (by simpa using (kP)), (by simpa using (kQ)), (by simpa using (kR)), (by simpa using (kS)), (fun h => by simpa using o10_1 (by simpa using h)), (fun _ => by simp), (fun h => by simpa using o11_6 (by simpa using h)), (fun h => by simpa using o11_8 (by simpa using h))⟩
        · intro d a2 w2 hd hm ⟨u9, u10, u11, u12, u13, u14, u15, u16, u17, u18, e, HB, f0, f1, f2, f3, f4, f5, f6, f7, f8, f9, kP, kQ, kR, kS, o10_1, o10_3, o11_6, o11_8⟩ K hK
          subst e
          simp only [Act.put, List.setIfInBounds_toArray, List.set_cons_zero, List.set_cons_succ]
          obtain rfl := f1 (hm ⟨1, .data⟩ (by simp) rfl)
          clear f1
          obtain rfl := f3 (hm ⟨3, .data⟩ (by simp) rfl)
          clear f3
          go_simp
          (with_reducible refine (T1.out _ HB).mono ?_)
          rintro e w3 ⟨gg, AA, nn, cc, rfl, hi, hb⟩
          have HB3 := HB.trans (hb.mono HB.size)
          go_wp2_with fail
          exact hK.out _ _ ⟨u9, .slice A n c, u11, .bool neg, .agg #[.bool gg, .slice AA nn cc], u14, u15, u16, u17, u18, (by simp only [Act.put, List.setIfInBounds_toArray, List.set_cons_zero, List.set_cons_succ]), HB3, (fun h => f0 (by simpa using h)), (fun _ => rfl), (fun h => f2 (by simpa using h)), (fun _ => rfl), (fun _ => ⟨_, _, _, _, rfl, hi⟩), (fun h => f5 (by simpa using h)), (fun h => f6 (by simpa using h)), (fun h => f7 (by simpa using h)), (fun h => f8 (by simpa using h)), (fun h => (f9 (by simpa using h)).below hb), (by simpa using (kP).below hb), (by simpa using (kQ).below hb), (by simpa using (kR).below hb), (by simpa using (kS).below hb), (fun h => by simpa using o10_1 (by simpa using h)), (fun h => by simpa using o10_3 (by simpa using h)), (fun h => by simpa using o11_6 (by simpa using h)), (fun h => by simpa using o11_8 (by simpa using h))⟩
        · intro d a2 w2 hd hm ⟨u9, u10, u11, u12, u13, u14, u15, u16, u17, u18, e, HB, f0, f1, f2, f3, f4, f5, f6, f7, f8, f9, kP, kQ, kR, kS, o10_1, o10_3, o11_6, o11_8⟩ K hK
          subst e
          simp only [Act.put, List.setIfInBounds_toArray, List.set_cons_zero, List.set_cons_succ]
          go_simp
          exact hK.out _ _ ⟨u9, u10, u11, u12, u13, .pointer (some ⟨w.heap.size + 1, 1, none⟩), u15, u16, u17, u18, (by simp only [Act.put, List.setIfInBounds_toArray, List.set_cons_zero, List.set_cons_succ]), HB, (fun h => f0 (by simpa using h)), (fun h => f1 (by simpa using h)), (fun h => f2 (by simpa using h)), (fun h => f3 (by simpa using h)), (fun h => (f4 (by simpa using h))), (fun _ => rfl), (fun h => f6 (by simpa using h)), (fun h => f7 (by simpa using h)), (fun h => f8 (by simpa using h)), (fun h => (f9 (by simpa using h))), (by simpa using (kP)), (by simpa using (kQ)), (by simpa using (kR)), (by simpa using (kS)), (fun h => by simpa using o10_1 (by simpa using h)), (fun h => by simpa using o10_3 (by simpa using h)), (fun h => by simpa using o11_6 (by simpa using h)), (fun h => by simpa using o11_8 (by simpa using h))⟩
        · intro d a2 w2 hd hm ⟨u9, u10, u11, u12, u13, u14, u15, u16, u17, u18, e, HB, f0, f1, f2, f3, f4, f5, f6, f7, f8, f9, kP, kQ, kR, kS, o10_1, o10_3, o11_6, o11_8⟩ K hK
          subst e
          simp only [Act.put, List.setIfInBounds_toArray, List.set_cons_zero, List.set_cons_succ]
          obtain rfl := f5 (hm ⟨5, .data⟩ (by simp) rfl)
          clear f5
          have hs : d 11 = false := by cases hq : d 11 with | false => rfl | true => (have hz := o11_6 hq; rw [hd] at hz; cases hz)
          have ⟨y0, y1, _, _, _⟩ := kQ.1 hs
          clear hs
          go_simp
          exact hK.out _ _ ⟨u9, u10, u11, u12, u13, .pointer (some ⟨w.heap.size + 1, 1, none⟩), .slice A' m dc, u16, u17, u18, (by simp only [Act.put, List.setIfInBounds_toArray, List.set_cons_zero, List.set_cons_succ]), HB, (fun h => f0 (by simpa using h)), (fun h => f1 (by simpa using h)), (fun h => f2 (by simpa using h)), (fun h => f3 (by simpa using h)), (fun h => (f4 (by simpa using h))), (fun _ => rfl), (fun _ => rfl), (fun h => f7 (by simpa using h)), (fun h => f8 (by simpa using h)), (fun h => (f9 (by simpa using h))), (by simpa using (kP)), (by simpa using (kQ)), (by simpa using (kR)), (by simpa using (kS)), (fun h => by simpa using o10_1 (by simpa using h)), (fun h => by simpa using o10_3 (by simpa using h)), (fun _ => by simp), (fun h => by simpa using o11_8 (by simpa using h))⟩
        · intro d a2 w2 hd hm ⟨u9, u10, u11, u12, u13, u14, u15, u16, u17, u18, e, HB, f0, f1, f2, f3, f4, f5, f6, f7, f8, f9, kP, kQ, kR, kS, o10_1, o10_3, o11_6, o11_8⟩ K hK
          subst e
          simp only [Act.put, List.setIfInBounds_toArray, List.set_cons_zero, List.set_cons_succ]
          go_simp
          exact hK.out _ _ ⟨u9, u10, u11, u12, u13, u14, u15, .pointer (some ⟨w.heap.size + 1, 0, none⟩), u17, u18, (by simp only [Act.put, List.setIfInBounds_toArray, List.set_cons_zero, List.set_cons_succ]), HB, (fun h => f0 (by simpa using h)), (fun h => f1 (by simpa using h)), (fun h => f2 (by simpa using h)), (fun h => f3 (by simpa using h)), (fun h => (f4 (by simpa using h))), (fun h => f5 (by simpa using h)), (fun h => f6 (by simpa using h)), (fun _ => rfl), (fun h => f8 (by simpa using h)), (fun h => (f9 (by simpa using h))), (by simpa using (kP)), (by simpa using (kQ)), (by simpa using (kR)), (by simpa using (kS)), (fun h => by simpa using o10_1 (by simpa using h)), (fun h => by simpa using o10_3 (by simpa using h)), (fun h => by simpa using o11_6 (by simpa using h)), (fun h => by simpa using o11_8 (by simpa using h))⟩
        · intro d a2 w2 hd hm ⟨u9, u10, u11, u12, u13, u14, u15, u16, u17, u18, e, HB, f0, f1, f2, f3, f4, f5, f6, f7, f8, f9, kP, kQ, kR, kS, o10_1, o10_3, o11_6, o11_8⟩ K hK
          subst e
          simp only [Act.put, List.setIfInBounds_toArray, List.set_cons_zero, List.set_cons_succ]
          obtain rfl := f7 (hm ⟨7, .data⟩ (by simp) rfl)
          clear f7
          have hs : d 11 = false := by cases hq : d 11 with | false => rfl | true => (have hz := o11_8 hq; rw [hd] at hz; cases hz)
          have ⟨y0, y1, _, _, _⟩ := kQ.1 hs
          clear hs
          go_simp
          exact hK.out _ _ ⟨u9, u10, u11, u12, u13, u14, u15, .pointer (some ⟨w.heap.size + 1, 0, none⟩), .bool neg', u18, (by simp only [Act.put, List.setIfInBounds_toArray, List.set_cons_zero, List.set_cons_succ]), HB, (fun h => f0 (by simpa using h)), (fun h => f1 (by simpa using h)), (fun h => f2 (by simpa using h)), (fun h => f3 (by simpa using h)), (fun h => (f4 (by simpa using h))), (fun h => f5 (by simpa using h)), (fun h => f6 (by simpa using h)), (fun _ => rfl), (fun _ => rfl), (fun h => (f9 (by simpa using h))), (by simpa using (kP)), (by simpa using (kQ)), (by simpa using (kR)), (by simpa using (kS)), (fun h => by simpa using o10_1 (by simpa using h)), (fun h => by simpa using o10_3 (by simpa using h)), (fun h => by simpa using o11_6 (by simpa using h)), (fun _ => by simp)⟩
        · intro d a2 w2 hd hm ⟨u9, u10, u11, u12, u13, u14, u15, u16, u17, u18, e, HB, f0, f1, f2, f3, f4, f5, f6, f7, f8, f9, kP, kQ, kR, kS, o10_1, o10_3, o11_6, o11_8⟩ K hK
          subst e
          simp only [Act.put, List.setIfInBounds_toArray, List.set_cons_zero, List.set_cons_succ]
          obtain rfl := f6 (hm ⟨6, .data⟩ (by simp) rfl)
          clear f6
          obtain rfl := f8 (hm ⟨8, .data⟩ (by simp) rfl)
          clear f8
          go_simp
          (with_reducible refine (T2.out _ HB).mono ?_)
          rintro e w3 ⟨gg, AA, nn, cc, rfl, hi, hb⟩
          have HB3 := HB.trans (hb.mono HB.size)
          go_wp2_with fail
          exact hK.out _ _ ⟨u9, u10, u11, u12, u13, u14, .slice A' m dc, u16, .bool neg', .agg #[.bool gg, .slice AA nn cc], (by simp only [Act.put, List.setIfInBounds_toArray, List.set_cons_zero, List.set_cons_succ]), HB3, (fun h => f0 (by simpa using h)), (fun h => f1 (by simpa using h)), (fun h => f2 (by simpa using h)), (fun h => f3 (by simpa using h)), (fun h => (f4 (by simpa using h)).below hb), (fun h => f5 (by simpa using h)), (fun _ => rfl), (fun h => f7 (by simpa using h)), (fun _ => rfl), (fun _ => ⟨_, _, _, _, rfl, hi⟩), (by simpa using (kP).below hb), (by simpa using (kQ).below hb), (by simpa using (kR).below hb), (by simpa using (kS).below hb), (fun h => by simpa using o10_1 (by simpa using h)), (fun h => by simpa using o10_3 (by simpa using h)), (fun h => by simpa using o11_6 (by simpa using h)), (fun h => by simpa using o11_8 (by simpa using h))⟩
        · intro d a2 w2 hd hm ⟨u9, u10, u11, u12, u13, u14, u15, u16, u17, u18, e, HB, f0, f1, f2, f3, f4, f5, f6, f7, f8, f9, kP, kQ, kR, kS, o10_1, o10_3, o11_6, o11_8⟩ K hK
          subst e
          simp only [Act.put, List.setIfInBounds_toArray, List.set_cons_zero, List.set_cons_succ]
          obtain ⟨gg, AA, nn, cc, rfl, hi⟩ := f4 (hm ⟨4, .data⟩ (by simp) rfl)
          have hs := kP.1 hd
          obtain ⟨k0, k1, k2, k3, k4⟩ := id hs
          go_simp
          exact hK.out _ _ ⟨u9, u10, u11, u12, .agg #[.bool gg, .slice AA nn cc], u14, u15, u16, u17, u18, (by simp only [Act.put, List.setIfInBounds_toArray, List.set_cons_zero, List.set_cons_succ]), Below.set2 HB (by omega) _ _, (fun h => f0 (by simpa using h)), (fun h => f1 (by simpa using h)), (fun h => f2 (by simpa using h)), (fun h => f3 (by simpa using h)), (fun h => (f4 (by simpa using h)).set2 hs rfl rfl _ _), (fun h => f5 (by simpa using h)), (fun h => f6 (by simpa using h)), (fun h => f7 (by simpa using h)), (fun h => f8 (by simpa using h)), (fun h => (f9 (by simpa using h)).set2 hs rfl rfl _ _), (by simpa using BlkF.near hi hs rfl rfl), (by simpa using (kQ).far2 (by omega) hs rfl rfl _ _), (by simpa using (kR).far2 (by omega) hs rfl rfl _ _), (by simpa using (kS).far2 (by omega) hs rfl rfl _ _), (fun _ => by simpa using hm ⟨1, .phase⟩ (by simp) rfl), (fun _ => by simpa using hm ⟨3, .phase⟩ (by simp) rfl), (fun h => by simpa using o11_6 (by simpa using h)), (fun h => by simpa using o11_8 (by simpa using h))⟩
        · intro d a2 w2 hd hm ⟨u9, u10, u11, u12, u13, u14, u15, u16, u17, u18, e, HB, f0, f1, f2, f3, f4, f5, f6, f7, f8, f9, kP, kQ, kR, kS, o10_1, o10_3, o11_6, o11_8⟩ K hK
          subst e
          simp only [Act.put, List.setIfInBounds_toArray, List.set_cons_zero, List.set_cons_succ]
          obtain ⟨gg, AA, nn, cc, rfl, hi⟩ := f9 (hm ⟨9, .data⟩ (by simp) rfl)
          have hs := kQ.1 hd
          obtain ⟨k0, k1, k2, k3, k4⟩ := id hs
          go_simp
          exact hK.out _ _ ⟨u9, u10, u11, u12, u13, u14, u15, u16, u17, .agg #[.bool gg, .slice AA nn cc], (by simp only [Act.put, List.setIfInBounds_toArray, List.set_cons_zero, List.set_cons_succ]), Below.set2 HB (by omega) _ _, (fun h => f0 (by simpa using h)), (fun h => f1 (by simpa using h)), (fun h => f2 (by simpa using h)), (fun h => f3 (by simpa using h)), (fun h => (f4 (by simpa using h)).set2 hs rfl rfl _ _), (fun h => f5 (by simpa using h)), (fun h => f6 (by simpa using h)), (fun h => f7 (by simpa using h)), (fun h => f8 (by simpa using h)), (fun h => (f9 (by simpa using h)).set2 hs rfl rfl _ _), (by simpa using (kP).far2 (by omega) hs rfl rfl _ _), (by simpa using BlkF.near hi hs rfl rfl), (by simpa using (kR).far2 (by omega) hs rfl rfl _ _), (by simpa using (kS).far2 (by omega) hs rfl rfl _ _), (fun h => by simpa using o10_1 (by simpa using h)), (fun h => by simpa using o10_3 (by simpa using h)), (fun _ => by simpa using hm ⟨6, .phase⟩ (by simp) rfl), (fun _ => by simpa using hm ⟨8, .phase⟩ (by simp) rfl)⟩
      · intro d a2 w2 hall ⟨u9, u10, u11, u12, u13, u14, u15, u16, u17, u18, e, HB, f0, f1, f2, f3, f4, f5, f6, f7, f8, f9, kP, kQ, kR, kS, o10_1, o10_3, o11_6, o11_8⟩
        subst e
        simp only [Act.put, List.setIfInBounds_toArray, List.set_cons_zero, List.set_cons_succ]
        obtain rfl := f0 (hall _ (by decide))
        obtain rfl := f1 (hall _ (by decide))
        obtain rfl := f2 (hall _ (by decide))
        obtain rfl := f3 (hall _ (by decide))
        obtain rfl := f5 (hall _ (by decide))
        obtain rfl := f6 (hall _ (by decide))
        obtain rfl := f7 (hall _ (by decide))
        obtain rfl := f8 (hall _ (by decide))
        have eP := kP.2 (hall _ (by decide))
        have eQ := kQ.2 (hall _ (by decide))
        have eR := kR.1 rfl
        have eS := kS.1 rfl
        go_wp2_with fail
        go_meet
        exact ⟨HB, eP, eQ, eR, eS⟩
  case rest =>
  obtain ⟨B1, IA, IB, R1, S1⟩ := hcut
  clear P0 Q0 R0 S0 HB T1 T2
  obtain ⟨W1, rfl⟩ : ∃ x : World, x = wc := ⟨_, rfl⟩
  obtain ⟨ga, Aa, na, ca, Sa, Ia⟩ := IA
  obtain ⟨gb, Ab, nb, cb, Sb, Ib⟩ := IB
  have ⟨xb, yb, _, _, _⟩ := Sb
  obtain ⟨s, hs⟩ : ∃ s, sgn b = s := ⟨_, rfl⟩
  have hs0 : (s == 0) = false := by rw [← hs]; exact sgn_ne' HB0.out
  have HSG := Lib.hid hs
  clear hs
  go_wp2_with fail
  (with_reducible refine (rsign_z gb Ab nb cb _ s Ib HSG.out).mono ?_)
  rintro e w2 ⟨rfl, hb2⟩
  have Sa2 := Sa.after hb2
  have Sb2 := Sb.after hb2
  have R2 := R1.after hb2
  have S2 := S1.after hb2
  have Ia2 := Ia.below hb2
  have Ib2 := Ib.below hb2
  have B2 := B1.trans (hb2.mono B1.size)
  clear xb yb Sa Sb R1 S1 Ia Ib B1 hb2 HSG
  have ⟨xa, ya, _, _, _⟩ := Sa2
  have ⟨xb, yb, _, _, _⟩ := Sb2
  have HDV := Lib.hid (rdiv_any Aa Ab na ca nb cb a.natAbs b.natAbs w2 Ia2.lim Ib2.lim (Nat.le_trans (Ia2.sz sa) (by decide)) (Nat.le_trans (Ib2.sz sb) (by decide)) (by have := HB0.out; omega))
  go_wp2_with fail
  refine HDV.out.mono ?_
  rintro e w3 ⟨g1, A1, n1, c1, g2, A2, n2, c2, rfl, i1, i2, hb3⟩
  obtain ⟨BQ, DQ⟩ := two_new i1 i2
  have D24 := hb3.trans (DQ.mono hb3.size)
  have Sa4 := Sa2.after D24
  have Sb4 := Sb2.after D24
  have R4 := R2.after D24
  have S4 := S2.after D24
  have Ia4 := Ia2.below D24
  have Ib4 := Ib2.below D24
  have B4 := B2.trans (D24.mono B2.size)
  have hg3 : w.heap.size + 1 + 1 + 1 < w3.heap.size := Nat.lt_of_lt_of_le S2.2.2.2.2 hb3.size
  clear xa ya xb yb Sa2 Sb2 R2 S2 Ia2 Ib2 B2 hb3 DQ D24 i1 i2 HDV
  go_upto_region 5 with (fail)
  generalize (w3.alloc (.cells #[.bool g1, .slice A1 n1 c1] 27)).alloc (.cells #[.bool g2, .slice A2 n2 c2] 27) = W4 at *
  generalize w3.heap.size = g7 at *
  obtain ⟨Q, hQ⟩ : ∃ Q, Q = a.natAbs / b.natAbs := ⟨_, rfl⟩
  obtain ⟨R, hR⟩ : ∃ R, R = a.natAbs % b.natAbs := ⟨_, rfl⟩
  rw [← hQ, ← hR] at BQ
  have HQ := Lib.hid hQ
  have HR := Lib.hid hR
  clear hQ hR
  have ZQ : Sz k ((Q : Nat) : Int) := ⟨sa.le, by rw [Int.natAbs_natCast, HQ.out]; exact Nat.le_trans (digs_len_mono (Nat.div_le_self _ _)) sa.len⟩
  have HGA := Lib.hid Ia4.sign
  have HGB := Lib.hid Ib4.sign
  obtain ⟨gq, Aq, nq, cq, Sq, Iq⟩ := BQ (g7, (Q : Int)) (by simp)
  obtain ⟨gr, Ar, nr, cr, Sr, Ir⟩ := BQ (g7 + 1, (R : Int)) (by simp)
  have hgl := Sr.2.2.2.2
  clear BQ
  have HG : w.heap.size ≤ w.heap.size + 1 + 1 := by omega
  rcases Int.lt_or_le a 0 with ha0 | ha0
  · have hga : ga = true := by rw [HGA.out]; simpa using ha0
    subst hga
    rcases Nat.eq_zero_or_pos R with hR0 | hR0
    · have hM := dm_b a b HB0.out ha0 (by rw [← HR.out]; exact hR0)
      have HR0 := Lib.hid hR0
      have HS0 : Hid (sgn ((R : Nat) : Int) = 0) := by rw [hR0]; rfl
      clear hR0
      have ⟨xSa, ySa, _, _, _⟩ := Sa4
      have ⟨xSr, ySr, _, _, _⟩ := Sr
      go_wp2_with fail
      (with_reducible refine (rsign_z gr Ar nr cr _ 0 Ir HS0.out).mono ?_)
      rintro e w5 ⟨rfl, hb5⟩
      clear xSa ySa xSr ySr
      have Sa_1 := Sa4.after hb5
      have Sb_1 := Sb4.after hb5
      have R_1 := R4.after hb5
      have S_1 := S4.after hb5
      have Sq_1 := Sq.after hb5
      have Sr_1 := Sr.after hb5
      have B_1 := B4.trans (hb5.mono B4.size)
      have Iq_1 := Iq.below hb5
      have Ir_1 := Ir.below hb5
      clear Sa4 Sb4 R4 S4 Sq Sr B4 Iq Ir
      rcases Int.lt_or_le b 0 with hb0 | hb0
      · have hgb : gb = true := by rw [HGB.out]; simp; omega
        subst hgb
        have e1 : ((Q : Nat) : Int) = a / b := by rw [hM.1, HQ.out, decide_eq_true (by omega)]; rfl
        have E1 := Lib.hid e1
        have e2 : ((R : Nat) : Int) = a % b := by rw [hM.2, HR0.out]; rfl
        rw [e2] at Ir_1
        rw [e1] at Iq_1
        clear e1 e2 hM hb0 ha0
        have ⟨xSa, ySa, _, _, _⟩ := Sa_1
        have ⟨xSb, ySb, _, _, _⟩ := Sb_1
        have ⟨k0, k1, _, _, _⟩ := Sq_1
        have ⟨k2, k3, _, _, _⟩ := Sr_1
        have ⟨l0, l1, l2, l3, _⟩ := R_1
        have ⟨m0, m1, m2, m3, _⟩ := S_1
        have hfin := (RetDM.stored Iq_1 Ir_1 (Below.refl _ _) B_1 (Below.refl _ _) HG R_1 S_1).drew
        go_wp2_with fail
        go_region
        go_wp2_with fail
        exact bodyPost_ret (v := .tuple #[.agg #[.bool _, .slice _ _ _], .agg #[.bool _, .slice _ _ _], .int .i64 0]) (by simp [results, Tryd.results18, go_sem, l0, l1, m0, m1]) rfl hfin
      · have hgb : gb = false := by rw [HGB.out]; simp; omega
        subst hgb
        have e1 : -((Q : Nat) : Int) = a / b := by rw [hM.1, HQ.out, decide_eq_false (by omega)]; rfl
        have E1 := Lib.hid e1
        have e2 : ((R : Nat) : Int) = a % b := by rw [hM.2, HR0.out]; rfl
        rw [e2] at Ir_1
        clear e1 e2 hM hb0 ha0
        have ⟨xSa, ySa, _, _, _⟩ := Sa_1
        have ⟨xSb, ySb, _, _, _⟩ := Sb_1
        have ⟨xSq, ySq, _, _, _⟩ := Sq_1
        go_wp2_with fail
        (with_reducible refine (rneg_z _ _ _ _ _ Iq_1 ZQ).mono ?_)
        rintro e wn ⟨gn, An, nn, cn, rfl, hin, hbn⟩
        rw [E1.out] at hin
        clear xSa ySa xSb ySb xSq ySq
        have Sa_2 := Sa_1.after hbn
        have Sb_2 := Sb_1.after hbn
        have R_2 := R_1.after hbn
        have S_2 := S_1.after hbn
        have Sq_2 := Sq_1.after hbn
        have Sr_2 := Sr_1.after hbn
        have B_2 := B_1.trans (hbn.mono B_1.size)
        have Iq_2 := Iq_1.below hbn
        have Ir_2 := Ir_1.below hbn
        clear Sa_1 Sb_1 R_1 S_1 Sq_1 Sr_1 B_1 Iq_1 Ir_1
        have ⟨p0, p1, p2, p3, _⟩ := Sq_2
        have Rn := R_2.far2 (g' := g7) (by omega) (.bool gn) (.slice An nn cn)
        have Sn := S_2.far2 (g' := g7) (by omega) (.bool gn) (.slice An nn cn)
        have Srn := Sr_2.far2 (g' := g7) (by omega) (.bool gn) (.slice An nn cn)
        have Sqn := Sq_2.set2 (.bool gn) (.slice An nn cn)
        have Irn := Ir_2.set2 Sq_2 rfl rfl (.bool gn) (.slice An nn cn)
        have Iqn := hin.set2 Sq_2 rfl rfl (.bool gn) (.slice An nn cn)
        have Bn := Below.set2 B_2 (show w.heap.size ≤ g7 by omega) (.bool gn) (.slice An nn cn)
        go_wp2_with fail
        generalize (wn.setCell ⟨g7, 0, none⟩ (.bool gn)).setCell ⟨g7, 1, none⟩ (.slice An nn cn) = Wn at *
        clear p0 p1 p2 p3
        have ⟨k0, k1, _, _, _⟩ := Sqn
        have ⟨k2, k3, _, _, _⟩ := Srn
        have ⟨l0, l1, l2, l3, _⟩ := Rn
        have ⟨m0, m1, m2, m3, _⟩ := Sn
        have hfin := (RetDM.stored Iqn Irn (Below.refl _ _) Bn (Below.refl _ _) HG Rn Sn).drew
        go_wp2_with fail
        go_region
        go_wp2_with fail
        exact bodyPost_ret (v := .tuple #[.agg #[.bool _, .slice _ _ _], .agg #[.bool _, .slice _ _ _], .int .i64 0]) (by simp [results, Tryd.results18, go_sem, l0, l1, m0, m1]) rfl hfin
    · have hM := dm_c a b HB0.out ha0 (by rw [← HR.out]; exact hR0)
      have hRb : R ≤ b.natAbs := by rw [HR.out]; exact Nat.le_of_lt (Nat.mod_lt _ (by have := HB0.out; omega))
      have HRB := Lib.hid hRb
      have HS0 : Hid (sgn ((R : Nat) : Int) = 1) := Lib.hid (show sgn ((R : Nat) : Int) = 1 by unfold sgn; rw [if_neg (by omega), if_pos (by omega)])
      have ZR : Sz l ((R : Nat) : Int) := ⟨sb.le, by rw [Int.natAbs_natCast]; exact Nat.le_trans (digs_len_mono hRb) sb.len⟩
      have Z1 : Sz 1 (1 : Int) := Sz.of (by decide) (by decide)
      clear hR0 hRb
      have ⟨xSa, ySa, _, _, _⟩ := Sa4
      have ⟨xSr, ySr, _, _, _⟩ := Sr
      go_wp2_with fail
      (with_reducible refine (rsign_z gr Ar nr cr _ 1 Ir HS0.out).mono ?_)
      rintro e w5 ⟨rfl, hb5⟩
      clear xSa ySa xSr ySr
      have Sa_3 := Sa4.after hb5
      have Sb_3 := Sb4.after hb5
      have R_3 := R4.after hb5
      have S_3 := S4.after hb5
      have Sq_3 := Sq.after hb5
      have Sr_3 := Sr.after hb5
      have B_3 := B4.trans (hb5.mono B4.size)
      have Iq_3 := Iq.below hb5
      have Ir_3 := Ir.below hb5
      have Ib_3 := Ib4.below hb5
      clear Sa4 Sb4 R4 S4 Sq Sr B4 Iq Ir Ib4
      go_wp2_with fail
      go_cut [] (fun wx => Below w.heap.size w wx ∧ Slot2 wx w.heap.size (.bool true) (.slice Aa na ca) ∧ (Slot2 wx (w.heap.size + 1) (.bool gb) (.slice Ab nb cb) ∧ IsInt wx gb Ab nb cb b) ∧ Slot2 wx (w.heap.size + 1 + 1) (.bool false) (.slice none 0 0) ∧ Slot2 wx (w.heap.size + 1 + 1 + 1) (.bool false) (.slice none 0 0) ∧ IntAt wx g7 ((Q : Int) + 1) ∧ (Slot2 wx (g7 + 1) (.bool gr) (.slice Ar nr cr) ∧ IsInt wx gr Ar nr cr ((R : Nat) : Int)))
      case first =>
        as_aux_lemma =>
          refine wp_region_ev (fun d a0 a' w' => ∃ u39 u40 u41 : Value, a' = (((a0.put (some 39) u39).put (some 40) u40).put (some 41) u41) ∧ Below w.heap.size w w' ∧ (d 0 = true → u39 = .agg #[.bool gq, .slice Aq nq cq]) ∧ (d 1 = true → IntV w' u40 (1)) ∧ (d 2 = true → IntV w' u41 ((Q : Int) + 1)) ∧ (BlkF w' (w.heap.size) (.bool true) (.slice Aa na ca) false (0)) ∧ (BlkI w' (w.heap.size + 1) gb Ab nb cb (b) false (0)) ∧ (BlkF w' (w.heap.size + 1 + 1) (.bool false) (.slice none 0 0) false (0)) ∧ (BlkF w' (w.heap.size + 1 + 1 + 1) (.bool false) (.slice none 0 0) false (0)) ∧ (BlkI w' (g7) gq Aq nq cq ((Q : Int)) (d 3) ((Q : Int) + 1)) ∧ (BlkI w' (g7 + 1) gr Ar nr cr (((R : Nat) : Int)) false (0)) ∧ (d 3 = true → d 0 = true) ∧ (d 3 = true → d 2 = true)) (by kernel_rfl) (by kernel_rfl) ?_ ?_ ?_ ?_
          · intro d d' h a' w' hh
            obtain rfl : d = d' := funext h
            exact hh
          · exact ⟨_, _, _, (by simp only [Act.put, List.setIfInBounds_toArray, List.set_cons_zero, List.set_cons_succ]; rfl), Below.drew (B_3), (fun h => by cases h), (fun h => by cases h), (fun h => by cases h), (BlkF.start (Slot2.drew Sa_3)), (BlkI.start Sb_3 Ib_3), (BlkF.start (Slot2.drew R_3)), (BlkF.start (Slot2.drew S_3)), (BlkI.start Sq_3 Iq_3), (BlkI.start Sr_3 Ir_3), (fun h => by cases h), (fun h => by cases h)⟩
          · refine ⟨?_, ?_, ?_, ?_, trivial⟩
            · intro d a2 w2 hd hm ⟨u39, u40, u41, e, HB, f0, f1, f2, kA, kB, kR, kS, kQ, kE, o3_0, o3_2⟩ K hK
              subst e
              simp only [Act.put, List.setIfInBounds_toArray, List.set_cons_zero, List.set_cons_succ]
              have hs : d 3 = false := by cases hq : d 3 with | false => rfl | true => (have hz := o3_0 hq; rw [hd] at hz; cases hz)
              have ⟨y0, y1, _, _, _⟩ := (kQ.1 hs).1
              clear hs
              go_simp
              exact hK.out _ _ ⟨.agg #[.bool gq, .slice Aq nq cq], u40, u41, (by simp only [Act.put, List.setIfInBounds_toArray, List.set_cons_zero, List.set_cons_succ]), HB, (fun _ => rfl), (fun h => (f1 (by simpa using h))), (fun h => (f2 (by simpa using h))), (by simpa using (kA)), (by simpa using (kB)), (by simpa using (kR)), (by simpa using (kS)), (by simpa using (kQ)), (by simpa using (kE)), (fun _ => by simp), (fun h => by simpa using o3_2 (by simpa using h))⟩
            · intro d a2 w2 hd hm ⟨u39, u40, u41, e, HB, f0, f1, f2, kA, kB, kR, kS, kQ, kE, o3_0, o3_2⟩ K hK
              subst e
              simp only [Act.put, List.setIfInBounds_toArray, List.set_cons_zero, List.set_cons_succ]
              go_simp
              (with_reducible refine (rof_any 1 _ (by decide) (by decide)).mono ?_)
              rintro e w3 ⟨gg, AA, nn, cc, rfl, hi, hb⟩
              have HB3 := HB.trans (hb.mono HB.size)
              go_wp2_with fail
              exact hK.out _ _ ⟨u39, .agg #[.bool gg, .slice AA nn cc], u41, (by simp only [Act.put, List.setIfInBounds_toArray, List.set_cons_zero, List.set_cons_succ]), HB3, (fun h => f0 (by simpa using h)), (fun _ => ⟨_, _, _, _, rfl, hi⟩), (fun h => (f2 (by simpa using h)).below hb), (by simpa using (kA).below hb), (by simpa using (kB).below hb), (by simpa using (kR).below hb), (by simpa using (kS).below hb), (by simpa using (kQ).below hb), (by simpa using (kE).below hb), (fun h => by simpa using o3_0 (by simpa using h)), (fun h => by simpa using o3_2 (by simpa using h))⟩
            · intro d a2 w2 hd hm ⟨u39, u40, u41, e, HB, f0, f1, f2, kA, kB, kR, kS, kQ, kE, o3_0, o3_2⟩ K hK
              subst e
              simp only [Act.put, List.setIfInBounds_toArray, List.set_cons_zero, List.set_cons_succ]
              obtain rfl := f0 (hm ⟨0, .data⟩ (by simp) rfl)
              clear f0
              obtain ⟨G1, A1, N1, C1, rfl, I1⟩ := f1 (hm ⟨1, .data⟩ (by simp) rfl)
              have hsQ : d 3 = false := by cases hq : d 3 with | false => rfl | true => (have hz := o3_2 hq; rw [hd] at hz; cases hz)
              have iQ := (kQ.1 hsQ).2
              clear hsQ
              go_simp
              (with_reducible refine (radd_z gq G1 Aq A1 nq cq N1 C1 _ iQ I1 ZQ Z1).mono ?_)
              rintro e w3 ⟨gg, AA, nn, cc, rfl, hi, hb⟩
              have HB3 := HB.trans (hb.mono HB.size)
              go_wp2_with fail
              exact hK.out _ _ ⟨.agg #[.bool gq, .slice Aq nq cq], .agg #[.bool G1, .slice A1 N1 C1], .agg #[.bool gg, .slice AA nn cc], (by simp only [Act.put, List.setIfInBounds_toArray, List.set_cons_zero, List.set_cons_succ]), HB3, (fun _ => rfl), (fun h => (f1 (by simpa using h)).below hb), (fun _ => ⟨_, _, _, _, rfl, hi⟩), (by simpa using (kA).below hb), (by simpa using (kB).below hb), (by simpa using (kR).below hb), (by simpa using (kS).below hb), (by simpa using (kQ).below hb), (by simpa using (kE).below hb), (fun h => by simpa using o3_0 (by simpa using h)), (fun _ => by simp)⟩
            · intro d a2 w2 hd hm ⟨u39, u40, u41, e, HB, f0, f1, f2, kA, kB, kR, kS, kQ, kE, o3_0, o3_2⟩ K hK
              subst e
              simp only [Act.put, List.setIfInBounds_toArray, List.set_cons_zero, List.set_cons_succ]
              obtain ⟨gg, AA, nn, cc, rfl, hi⟩ := f2 (hm ⟨2, .data⟩ (by simp) rfl)
              have hs := (kQ.1 hd).1
              obtain ⟨k0, k1, k2, k3, k4⟩ := id hs
              go_simp
              exact hK.out _ _ ⟨u39, u40, .agg #[.bool gg, .slice AA nn cc], (by simp only [Act.put, List.setIfInBounds_toArray, List.set_cons_zero, List.set_cons_succ]), Below.set2 HB (by omega) _ _, (fun h => f0 (by simpa using h)), (fun h => (f1 (by simpa using h)).set2 hs rfl rfl _ _), (fun h => (f2 (by simpa using h)).set2 hs rfl rfl _ _), (by simpa using (kA).far2 (by omega) hs rfl rfl _ _), (by simpa using (kB).far2 (by omega) hs rfl rfl _ _), (by simpa using (kR).far2 (by omega) hs rfl rfl _ _), (by simpa using (kS).far2 (by omega) hs rfl rfl _ _), (by simpa using BlkI.near hi hs), (by simpa using (kE).far2 (by omega) hs rfl rfl _ _), (fun _ => by simpa using hm ⟨0, .phase⟩ (by simp) rfl), (fun _ => by simpa using hm ⟨2, .data⟩ (by simp) rfl)⟩
          · intro d a2 w2 hall ⟨u39, u40, u41, e, HB, f0, f1, f2, kA, kB, kR, kS, kQ, kE, o3_0, o3_2⟩
            subst e
            simp only [Act.put, List.setIfInBounds_toArray, List.set_cons_zero, List.set_cons_succ]
            obtain rfl := f0 (hall _ (by decide))
            have eA := kA.1 rfl
            have eB := kB.1 rfl
            have eR := kR.1 rfl
            have eS := kS.1 rfl
            have eQ := kQ.2 (hall _ (by decide))
            have eE := kE.1 rfl
            go_wp2_with fail
            go_meet
            exact ⟨HB, eA, eB, eR, eS, eQ, eE⟩
      case rest =>
      obtain ⟨B6, Sa6, ⟨Sb6, Ib6⟩, R6, S6, ⟨gq', Aq', nq', cq', Sq6, Iq6⟩, Sr6, Ir6⟩ := hcut
      have ZQ1 : Sz (k + 1 + 1) ((Q : Int) + 1) := Sz.add (ZQ.mono (Nat.le_add_right _ 1) hk1) (Z1.mono (by omega) hk1) hk2

      go_wp2_with fail
      go_cut [] (fun wx => Below w.heap.size w wx ∧ Slot2 wx w.heap.size (.bool true) (.slice Aa na ca) ∧ (Slot2 wx (w.heap.size + 1) (.bool gb) (.slice Ab nb cb) ∧ IsInt wx gb Ab nb cb b) ∧ Slot2 wx (w.heap.size + 1 + 1) (.bool false) (.slice none 0 0) ∧ Slot2 wx (w.heap.size + 1 + 1 + 1) (.bool false) (.slice none 0 0) ∧ (Slot2 wx g7 (.bool gq') (.slice Aq' nq' cq') ∧ IsInt wx gq' Aq' nq' cq' ((Q : Int) + 1)) ∧ IntAt wx (g7 + 1) (((b.natAbs : Nat) : Int) - ((R : Nat) : Int)))
      case first =>
        as_aux_lemma =>
          refine wp_region_ev (fun d a0 a' w' => ∃ u42 u43 u44 u45 u46 : Value, a' = (((((a0.put (some 42) u42).put (some 43) u43).put (some 44) u44).put (some 45) u45).put (some 46) u46) ∧ Below w.heap.size w w' ∧ (d 0 = true → u42 = .pointer (some ⟨w.heap.size + 1, 1, none⟩)) ∧ (d 1 = true → u43 = .slice Ab nb cb) ∧ (d 2 = true → IntV w' u44 (((b.natAbs : Nat) : Int))) ∧ (d 3 = true → u45 = .agg #[.bool gr, .slice Ar nr cr]) ∧ (d 4 = true → IntV w' u46 (((b.natAbs : Nat) : Int) - ((R : Nat) : Int))) ∧ (BlkF w' (w.heap.size) (.bool true) (.slice Aa na ca) false (0)) ∧ (BlkI w' (w.heap.size + 1) gb Ab nb cb (b) false (0)) ∧ (BlkF w' (w.heap.size + 1 + 1) (.bool false) (.slice none 0 0) false (0)) ∧ (BlkF w' (w.heap.size + 1 + 1 + 1) (.bool false) (.slice none 0 0) false (0)) ∧ (BlkI w' (g7) gq' Aq' nq' cq' ((Q : Int) + 1) false (0)) ∧ (BlkI w' (g7 + 1) gr Ar nr cr (((R : Nat) : Int)) (d 5) (((b.natAbs : Nat) : Int) - ((R : Nat) : Int))) ∧ (d 5 = true → d 3 = true) ∧ (d 5 = true → d 4 = true)) (by kernel_rfl) (by kernel_rfl) ?_ ?_ ?_ ?_
          · intro d d' h a' w' hh
            obtain rfl : d = d' := funext h
            exact hh
          · exact ⟨_, _, _, _, _, (by simp only [Act.put, List.setIfInBounds_toArray, List.set_cons_zero, List.set_cons_succ]; rfl), Below.drew (B6), (fun h => by cases h), (fun h => by cases h), (fun h => by cases h), (fun h => by cases h), (fun h => by cases h), (BlkF.start (Slot2.drew Sa6)), (BlkI.start Sb6 Ib6), (BlkF.start (Slot2.drew R6)), (BlkF.start (Slot2.drew S6)), (BlkI.start Sq6 Iq6), (BlkI.start Sr6 Ir6), (fun h => by cases h), (fun h => by cases h)⟩
          · refine ⟨?_, ?_, ?_, ?_, ?_, ?_, trivial⟩
            · intro d a2 w2 hd hm ⟨u42, u43, u44, u45, u46, e, HB, f0, f1, f2, f3, f4, kA, kB, kR, kS, kQ, kE, o5_3, o5_4⟩ K hK
              subst e
              simp only [Act.put, List.setIfInBounds_toArray, List.set_cons_zero, List.set_cons_succ]
              go_simp
              exact hK.out _ _ ⟨.pointer (some ⟨w.heap.size + 1, 1, none⟩), u43, u44, u45, u46, (by simp only [Act.put, List.setIfInBounds_toArray, List.set_cons_zero, List.set_cons_succ]), HB, (fun _ => rfl), (fun h => f1 (by simpa using h)), (fun h => (f2 (by simpa using h))), (fun h => f3 (by simpa using h)), (fun h => (f4 (by simpa using h))), (by simpa using (kA)), (by simpa using (kB)), (by simpa using (kR)), (by simpa using (kS)), (by simpa using (kQ)), (by simpa using (kE)), (fun h => by simpa using o5_3 (by simpa using h)), (fun h => by simpa using o5_4 (by simpa using h))⟩
            · intro d a2 w2 hd hm ⟨u42, u43, u44, u45, u46, e, HB, f0, f1, f2, f3, f4, kA, kB, kR, kS, kQ, kE, o5_3, o5_4⟩ K hK
              subst e
              simp only [Act.put, List.setIfInBounds_toArray, List.set_cons_zero, List.set_cons_succ]
              obtain rfl := f0 (hm ⟨0, .data⟩ (by simp) rfl)
              clear f0
              have ⟨y0, y1, _, _, _⟩ := (kB.1 rfl).1
              go_simp
              exact hK.out _ _ ⟨.pointer (some ⟨w.heap.size + 1, 1, none⟩), .slice Ab nb cb, u44, u45, u46, (by simp only [Act.put, List.setIfInBounds_toArray, List.set_cons_zero, List.set_cons_succ]), HB, (fun _ => rfl), (fun _ => rfl), (fun h => (f2 (by simpa using h))), (fun h => f3 (by simpa using h)), (fun h => (f4 (by simpa using h))), (by simpa using (kA)), (by simpa using (kB)), (by simpa using (kR)), (by simpa using (kS)), (by simpa using (kQ)), (by simpa using (kE)), (fun h => by simpa using o5_3 (by simpa using h)), (fun h => by simpa using o5_4 (by simpa using h))⟩
            · intro d a2 w2 hd hm ⟨u42, u43, u44, u45, u46, e, HB, f0, f1, f2, f3, f4, kA, kB, kR, kS, kQ, kE, o5_3, o5_4⟩ K hK
              subst e
              simp only [Act.put, List.setIfInBounds_toArray, List.set_cons_zero, List.set_cons_succ]
              obtain rfl := f1 (hm ⟨1, .data⟩ (by simp) rfl)
              clear f1
              have iB := (kB.1 rfl).2
              go_simp
              (with_reducible refine (rmadeAbs_z gb Ab nb cb _ iB sb).mono ?_)
              rintro e w3 ⟨gg, AA, nn, cc, rfl, hi, hb⟩
              have HB3 := HB.trans (hb.mono HB.size)
              go_wp2_with fail
              exact hK.out _ _ ⟨u42, .slice Ab nb cb, .agg #[.bool gg, .slice AA nn cc], u45, u46, (by simp only [Act.put, List.setIfInBounds_toArray, List.set_cons_zero, List.set_cons_succ]), HB3, (fun h => f0 (by simpa using h)), (fun _ => rfl), (fun _ => ⟨_, _, _, _, rfl, hi⟩), (fun h => f3 (by simpa using h)), (fun h => (f4 (by simpa using h)).below hb), (by simpa using (kA).below hb), (by simpa using (kB).below hb), (by simpa using (kR).below hb), (by simpa using (kS).below hb), (by simpa using (kQ).below hb), (by simpa using (kE).below hb), (fun h => by simpa using o5_3 (by simpa using h)), (fun h => by simpa using o5_4 (by simpa using h))⟩
            · intro d a2 w2 hd hm ⟨u42, u43, u44, u45, u46, e, HB, f0, f1, f2, f3, f4, kA, kB, kR, kS, kQ, kE, o5_3, o5_4⟩ K hK
              subst e
              simp only [Act.put, List.setIfInBounds_toArray, List.set_cons_zero, List.set_cons_succ]
              have hs : d 5 = false := by cases hq : d 5 with | false => rfl | true => (have hz := o5_3 hq; rw [hd] at hz; cases hz)
              have ⟨y0, y1, _, _, _⟩ := (kE.1 hs).1
              clear hs
              go_simp
              exact hK.out _ _ ⟨u42, u43, u44, .agg #[.bool gr, .slice Ar nr cr], u46, (by simp only [Act.put, List.setIfInBounds_toArray, List.set_cons_zero, List.set_cons_succ]), HB, (fun h => f0 (by simpa using h)), (fun h => f1 (by simpa using h)), (fun h => (f2 (by simpa using h))), (fun _ => rfl), (fun h => (f4 (by simpa using h))), (by simpa using (kA)), (by simpa using (kB)), (by simpa using (kR)), (by simpa using (kS)), (by simpa using (kQ)), (by simpa using (kE)), (fun _ => by simp), (fun h => by simpa using o5_4 (by simpa using h))⟩
            · intro d a2 w2 hd hm ⟨u42, u43, u44, u45, u46, e, HB, f0, f1, f2, f3, f4, kA, kB, kR, kS, kQ, kE, o5_3, o5_4⟩ K hK
              subst e
              simp only [Act.put, List.setIfInBounds_toArray, List.set_cons_zero, List.set_cons_succ]
              obtain ⟨G2, A2, N2, C2, rfl, I2⟩ := f2 (hm ⟨2, .data⟩ (by simp) rfl)
              obtain rfl := f3 (hm ⟨3, .data⟩ (by simp) rfl)
              clear f3
              have hsE : d 5 = false := by cases hq : d 5 with | false => rfl | true => (have hz := o5_4 hq; rw [hd] at hz; cases hz)
              have iE := (kE.1 hsE).2
              clear hsE
              go_simp
              (with_reducible refine (rsub_z G2 gr A2 Ar N2 C2 nr cr _ I2 iE (Sz.abs sb) ZR).mono ?_)
              rintro e w3 ⟨gg, AA, nn, cc, rfl, hi, hb⟩
              have HB3 := HB.trans (hb.mono HB.size)
              go_wp2_with fail
              exact hK.out _ _ ⟨u42, u43, .agg #[.bool G2, .slice A2 N2 C2], .agg #[.bool gr, .slice Ar nr cr], .agg #[.bool gg, .slice AA nn cc], (by simp only [Act.put, List.setIfInBounds_toArray, List.set_cons_zero, List.set_cons_succ]), HB3, (fun h => f0 (by simpa using h)), (fun h => f1 (by simpa using h)), (fun h => (f2 (by simpa using h)).below hb), (fun _ => rfl), (fun _ => ⟨_, _, _, _, rfl, hi⟩), (by simpa using (kA).below hb), (by simpa using (kB).below hb), (by simpa using (kR).below hb), (by simpa using (kS).below hb), (by simpa using (kQ).below hb), (by simpa using (kE).below hb), (fun h => by simpa using o5_3 (by simpa using h)), (fun _ => by simp)⟩
            · intro d a2 w2 hd hm ⟨u42, u43, u44, u45, u46, e, HB, f0, f1, f2, f3, f4, kA, kB, kR, kS, kQ, kE, o5_3, o5_4⟩ K hK
              subst e
              simp only [Act.put, List.setIfInBounds_toArray, List.set_cons_zero, List.set_cons_succ]
              obtain ⟨gg, AA, nn, cc, rfl, hi⟩ := f4 (hm ⟨4, .data⟩ (by simp) rfl)
              have hs := (kE.1 hd).1
              obtain ⟨k0, k1, k2, k3, k4⟩ := id hs
              go_simp
              exact hK.out _ _ ⟨u42, u43, u44, u45, .agg #[.bool gg, .slice AA nn cc], (by simp only [Act.put, List.setIfInBounds_toArray, List.set_cons_zero, List.set_cons_succ]), Below.set2 HB (by omega) _ _, (fun h => f0 (by simpa using h)), (fun h => f1 (by simpa using h)), (fun h => (f2 (by simpa using h)).set2 hs rfl rfl _ _), (fun h => f3 (by simpa using h)), (fun h => (f4 (by simpa using h)).set2 hs rfl rfl _ _), (by simpa using (kA).far2 (by omega) hs rfl rfl _ _), (by simpa using (kB).far2 (by omega) hs rfl rfl _ _), (by simpa using (kR).far2 (by omega) hs rfl rfl _ _), (by simpa using (kS).far2 (by omega) hs rfl rfl _ _), (by simpa using (kQ).far2 (by omega) hs rfl rfl _ _), (by simpa using BlkI.near hi hs), (fun _ => by simpa using hm ⟨3, .phase⟩ (by simp) rfl), (fun _ => by simpa using hm ⟨4, .data⟩ (by simp) rfl)⟩
          · intro d a2 w2 hall ⟨u42, u43, u44, u45, u46, e, HB, f0, f1, f2, f3, f4, kA, kB, kR, kS, kQ, kE, o5_3, o5_4⟩
            subst e
            simp only [Act.put, List.setIfInBounds_toArray, List.set_cons_zero, List.set_cons_succ]
            obtain rfl := f0 (hall _ (by decide))
            obtain rfl := f1 (hall _ (by decide))
            obtain rfl := f3 (hall _ (by decide))
            have eA := kA.1 rfl
            have eB := kB.1 rfl
            have eR := kR.1 rfl
            have eS := kS.1 rfl
            have eQ := kQ.1 rfl
            have eE := kE.2 (hall _ (by decide))
            go_wp2_with fail
            go_meet
            exact ⟨HB, eA, eB, eR, eS, eQ, eE⟩
      case rest =>
      obtain ⟨B7, Sa7, ⟨Sb7, Ib7⟩, R7, S7, ⟨Sq7, Iq7⟩, ⟨gr', Ar', nr', cr', Sr7, Ir7⟩⟩ := hcut
      have eQ1 : ((Q : Int) + 1) = ((Q + 1 : Nat) : Int) := rfl
      rw [eQ1] at Iq7 ZQ1
      clear eQ1 Sa6 Sb6 Ib6 R6 S6 Sq6 Iq6 Sr6 Ir6 B6 Ib7
      rcases Int.lt_or_le b 0 with hb0 | hb0
      · have hgb : gb = true := by rw [HGB.out]; simp; omega
        subst hgb
        have e1 : ((Q + 1 : Nat) : Int) = a / b := by rw [hM.1, HQ.out, decide_eq_true (by omega)]; rfl
        have E1 := Lib.hid e1
        have e2 : ((b.natAbs : Nat) : Int) - ((R : Nat) : Int) = a % b := by rw [hM.2, ← HR.out, Int.natCast_sub HRB.out]
        rw [e2] at Ir7
        rw [e1] at Iq7
        clear e1 e2 hM hb0 ha0
        have ⟨xSa, ySa, _, _, _⟩ := Sa7
        have ⟨xSb, ySb, _, _, _⟩ := Sb7
        have ⟨k0, k1, _, _, _⟩ := Sq7
        have ⟨k2, k3, _, _, _⟩ := Sr7
        have ⟨l0, l1, l2, l3, _⟩ := R7
        have ⟨m0, m1, m2, m3, _⟩ := S7
        have hfin := (RetDM.stored Iq7 Ir7 (Below.refl _ _) B7 (Below.refl _ _) HG R7 S7).drew
        go_wp2_with fail
        go_region
        go_wp2_with fail
        exact bodyPost_ret (v := .tuple #[.agg #[.bool _, .slice _ _ _], .agg #[.bool _, .slice _ _ _], .int .i64 0]) (by simp [results, Tryd.results18, go_sem, l0, l1, m0, m1]) rfl hfin
      · have hgb : gb = false := by rw [HGB.out]; simp; omega
        subst hgb
        have e1 : -((Q + 1 : Nat) : Int) = a / b := by rw [hM.1, HQ.out, decide_eq_false (by omega)]; rfl
        have E1 := Lib.hid e1
        have e2 : ((b.natAbs : Nat) : Int) - ((R : Nat) : Int) = a % b := by rw [hM.2, ← HR.out, Int.natCast_sub HRB.out]
        rw [e2] at Ir7
        clear e1 e2 hM hb0 ha0
        have ⟨xSa, ySa, _, _, _⟩ := Sa7
        have ⟨xSb, ySb, _, _, _⟩ := Sb7
        have ⟨xSq, ySq, _, _, _⟩ := Sq7
        go_wp2_with fail
        (with_reducible refine (rneg_z _ _ _ _ _ Iq7 ZQ1).mono ?_)
        rintro e wn ⟨gn, An, nn, cn, rfl, hin, hbn⟩
        rw [E1.out] at hin
        clear xSa ySa xSb ySb xSq ySq
        have Sa_4 := Sa7.after hbn
        have Sb_4 := Sb7.after hbn
        have R_4 := R7.after hbn
        have S_4 := S7.after hbn
        have Sq_4 := Sq7.after hbn
        have Sr_4 := Sr7.after hbn
        have B_4 := B7.trans (hbn.mono B7.size)
        have Iq_4 := Iq7.below hbn
        have Ir_4 := Ir7.below hbn
        clear Sa7 Sb7 R7 S7 Sq7 Sr7 B7 Iq7 Ir7
        have ⟨p0, p1, p2, p3, _⟩ := Sq_4
        have Rn := R_4.far2 (g' := g7) (by omega) (.bool gn) (.slice An nn cn)
        have Sn := S_4.far2 (g' := g7) (by omega) (.bool gn) (.slice An nn cn)
        have Srn := Sr_4.far2 (g' := g7) (by omega) (.bool gn) (.slice An nn cn)
        have Sqn := Sq_4.set2 (.bool gn) (.slice An nn cn)
        have Irn := Ir_4.set2 Sq_4 rfl rfl (.bool gn) (.slice An nn cn)
        have Iqn := hin.set2 Sq_4 rfl rfl (.bool gn) (.slice An nn cn)
        have Bn := Below.set2 B_4 (show w.heap.size ≤ g7 by omega) (.bool gn) (.slice An nn cn)
        go_wp2_with fail
        generalize (wn.setCell ⟨g7, 0, none⟩ (.bool gn)).setCell ⟨g7, 1, none⟩ (.slice An nn cn) = Wn at *
        clear p0 p1 p2 p3
        have ⟨k0, k1, _, _, _⟩ := Sqn
        have ⟨k2, k3, _, _, _⟩ := Srn
        have ⟨l0, l1, l2, l3, _⟩ := Rn
        have ⟨m0, m1, m2, m3, _⟩ := Sn
        have hfin := (RetDM.stored Iqn Irn (Below.refl _ _) Bn (Below.refl _ _) HG Rn Sn).drew
        go_wp2_with fail
        go_region
        go_wp2_with fail
        exact bodyPost_ret (v := .tuple #[.agg #[.bool _, .slice _ _ _], .agg #[.bool _, .slice _ _ _], .int .i64 0]) (by simp [results, Tryd.results18, go_sem, l0, l1, m0, m1]) rfl hfin
  · have hga : ga = false := by rw [HGA.out]; simp; omega
    subst hga
    have hM := dm_a a b HB0.out ha0
    rcases Int.lt_or_le b 0 with hb0 | hb0
    · have hgb : gb = true := by rw [HGB.out]; simp; omega
      subst hgb
      have e1 : -((Q : Nat) : Int) = a / b := by rw [hM.1, HQ.out, decide_eq_true (by omega)]; rfl
      have E1 := Lib.hid e1
      have e2 : ((R : Nat) : Int) = a % b := by rw [hM.2, HR.out]
      rw [e2] at Ir
      clear e1 e2 hM hb0 ha0
      have ⟨xSa, ySa, _, _, _⟩ := Sa4
      have ⟨xSb, ySb, _, _, _⟩ := Sb4
      have ⟨xSq, ySq, _, _, _⟩ := Sq
      go_wp2_with fail
      (with_reducible refine (rneg_z _ _ _ _ _ Iq ZQ).mono ?_)
      rintro e wn ⟨gn, An, nn, cn, rfl, hin, hbn⟩
      rw [E1.out] at hin
      clear xSa ySa xSb ySb xSq ySq
      have Sa_5 := Sa4.after hbn
      have Sb_5 := Sb4.after hbn
      have R_5 := R4.after hbn
      have S_5 := S4.after hbn
      have Sq_5 := Sq.after hbn
      have Sr_5 := Sr.after hbn
      have B_5 := B4.trans (hbn.mono B4.size)
      have Iq_5 := Iq.below hbn
      have Ir_5 := Ir.below hbn
      clear Sa4 Sb4 R4 S4 Sq Sr B4 Iq Ir
      have ⟨p0, p1, p2, p3, _⟩ := Sq_5
      have Rn := R_5.far2 (g' := g7) (by omega) (.bool gn) (.slice An nn cn)
      have Sn := S_5.far2 (g' := g7) (by omega) (.bool gn) (.slice An nn cn)
      have Srn := Sr_5.far2 (g' := g7) (by omega) (.bool gn) (.slice An nn cn)
      have Sqn := Sq_5.set2 (.bool gn) (.slice An nn cn)
      have Irn := Ir_5.set2 Sq_5 rfl rfl (.bool gn) (.slice An nn cn)
      have Iqn := hin.set2 Sq_5 rfl rfl (.bool gn) (.slice An nn cn)
      have Bn := Below.set2 B_5 (show w.heap.size ≤ g7 by omega) (.bool gn) (.slice An nn cn)
      go_wp2_with fail
      generalize (wn.setCell ⟨g7, 0, none⟩ (.bool gn)).setCell ⟨g7, 1, none⟩ (.slice An nn cn) = Wn at *
      clear p0 p1 p2 p3
      have ⟨k0, k1, _, _, _⟩ := Sqn
      have ⟨k2, k3, _, _, _⟩ := Srn
      have ⟨l0, l1, l2, l3, _⟩ := Rn
      have ⟨m0, m1, m2, m3, _⟩ := Sn
      have hfin := (RetDM.stored Iqn Irn (Below.refl _ _) Bn (Below.refl _ _) HG Rn Sn).drew
      go_wp2_with fail
      go_region
      go_wp2_with fail
      exact bodyPost_ret (v := .tuple #[.agg #[.bool _, .slice _ _ _], .agg #[.bool _, .slice _ _ _], .int .i64 0]) (by simp [results, Tryd.results18, go_sem, l0, l1, m0, m1]) rfl hfin
    · have hgb : gb = false := by rw [HGB.out]; simp; omega
      subst hgb
      have e1 : ((Q : Nat) : Int) = a / b := by rw [hM.1, HQ.out, decide_eq_false (by omega)]; rfl
      have E1 := Lib.hid e1
      have e2 : ((R : Nat) : Int) = a % b := by rw [hM.2, HR.out]
      rw [e2] at Ir
      rw [e1] at Iq
      clear e1 e2 hM hb0 ha0
      have ⟨xSa, ySa, _, _, _⟩ := Sa4
      have ⟨xSb, ySb, _, _, _⟩ := Sb4
      have ⟨k0, k1, _, _, _⟩ := Sq
      have ⟨k2, k3, _, _, _⟩ := Sr
      have ⟨l0, l1, l2, l3, _⟩ := R4
      have ⟨m0, m1, m2, m3, _⟩ := S4
      have hfin := (RetDM.stored Iq Ir (Below.refl _ _) B4 (Below.refl _ _) HG R4 S4).drew
      go_wp2_with fail
      go_region
      go_wp2_with fail
      exact bodyPost_ret (v := .tuple #[.agg #[.bool _, .slice _ _ _], .agg #[.bool _, .slice _ _ _], .int .i64 0]) (by simp [results, Tryd.results18, go_sem, l0, l1, m0, m1]) rfl hfin
end Go.Proofs.YtnlmdjbakcjhbaaDoor
