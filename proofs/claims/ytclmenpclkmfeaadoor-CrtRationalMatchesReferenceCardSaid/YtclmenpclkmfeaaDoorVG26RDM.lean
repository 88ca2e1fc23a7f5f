/- Contract of torsionref01.DivMod. Fractions as values and in memory. Fractions in memory: more words. Contracts of the methods of fraction. Contract of rational.Of. Contracts of operation.result, Add, Sub, Mul and Div. Contract of crt.interpolate at the table's residues. -/
import Derived.Test.YtclmenpclkmfeaaDoorVG19Est
import Derived.Test.YtclmenpclkmfeaaDoorVLawKit
import Derived.Test.YtclmenpclkmfeaaDoorVG5MadeL
import Derived.Test.YtclmenpclkmfeaaDoorVG0Words
import Derived.Test.YtclmenpclkmfeaaDoorVDivModZ
import Derived.RegionTactic
import Derived.Test.YtclmenpclkmfeaaDoorVG3Num2
import Derived.Test.YtclmenpclkmfeaaDoorVG18Sz
import Derived.Deep.DeepCutAuto
namespace Go.Proofs.YtclmenpclkmfeaaDoor
open Go.RowKit
theorem rdiv_any (A A' : Option Addr) (n c m d a b : Nat) (w : World) (ha : Lim w w.heap.size A n c (digs a)) (hb : Lim w w.heap.size A' m d (digs b)) (hn : n ≤ 80000) (hm : m ≤ 80000) (hb0 : 0 < b) :
    Calls Tryd.prog 54 #[.slice A n c, .slice A' m d] w (RetII w ((a / b : Nat) : Int) ((a % b : Nat) : Int)) := by
  have h0 : 0 < m := by rw [← hb.len]; exact digs_len_pos hb0
  rcases Nat.lt_or_ge m 2 with h | h
  · obtain rfl : m = 1 := by omega
    exact rdiv_one A A' n c d a b w ha hb (by omega)
  · exact rdiv_more A A' n c m d a b w ha hb hn hm h
theorem rneg_z (neg : Bool) (A : Option Addr) (n c : Nat) {k : Nat} {a : Int} (w : World) (ha : IsInt w neg A n c a) (sa : Sz k a) : Calls Tryd.prog 18 #[.agg #[.bool neg, .slice A n c]] w (RetInt w (-a)) :=
  rneg_any neg A n c a w ha (Nat.le_trans (ha.sz sa) (by decide))
theorem RetDM.drew {w : World} {q r : Int} {e : Ending} {w' : World} (h : RetDM w q r e w') : RetDM w q r e w'.drew := by
  obtain ⟨g1, A1, n1, c1, g2, A2, n2, c2, h1, h2, h3, h4⟩ := h
  exact ⟨g1, A1, n1, c1, g2, A2, n2, c2, h1, h2.below (Below.refl _ _).drew, h3.below (Below.refl _ _).drew, h4.drew⟩
/-- Where the division stands: both arguments, the results' structs, quotient and remainder so far. -/
def RdS (w wx : World) (a b : Int) (g : Nat) (q r : Int) : Prop :=
  Below w.heap.size w wx ∧ IntAt wx w.heap.size a ∧ IntAt wx (w.heap.size + 1) b ∧ Slot2 wx (w.heap.size + 1 + 1) (.bool false) (.slice none 0 0) ∧ Slot2 wx (w.heap.size + 1 + 1 + 1) (.bool false) (.slice none 0 0) ∧ w.heap.size + 1 + 1 + 1 < g ∧ IntAt wx g q ∧ IntAt wx (g + 1) r
/-- The two integers of the arguments, made anew. -/
def RdA (w wx : World) (a b : Int) : Prop :=
  Below w.heap.size w wx ∧ IntAt wx w.heap.size a ∧ IntAt wx (w.heap.size + 1) b ∧ Slot2 wx (w.heap.size + 1 + 1) (.bool false) (.slice none 0 0) ∧ Slot2 wx (w.heap.size + 1 + 1 + 1) (.bool false) (.slice none 0 0)
set_option maxRecDepth 1000000 in
set_option maxHeartbeats 8000000 in
theorem rdm_z (neg neg' : Bool) (A A' : Option Addr) (n c m dc : Nat) {k l : Nat} {a b : Int} (w : World) (ha : IsInt w neg A n c a) (hb : IsInt w neg' A' m dc b) (sa : Sz k a) (sb : Sz l b) (hb0 : b ≠ 0) (hk2 : k + 1 + 1 ≤ 10000) :
    Calls Tryd.prog 22 #[.agg #[.bool neg, .slice A n c], .agg #[.bool neg', .slice A' m dc]] w (RetDM w (a / b) (a % b)) := by
  have hk1 : k + 1 ≤ 10000 := by omega
  have T1 : Hid (∀ W, Below w.heap.size w W → Calls Tryd.prog 48 #[.slice A n c, .bool neg] W (RetInt W a)) := fun W hW => by
    have h1 := Made_any neg A n c w.heap.size _ W (ha.lim.below hW) hW.size (Nat.le_trans (ha.sz sa) (by decide))
    rwa [val_digs, ha.zOfv] at h1
  have T2 : Hid (∀ W, Below w.heap.size w W → Calls Tryd.prog 48 #[.slice A' m dc, .bool neg'] W (RetInt W b)) := fun W hW => by
    have h1 := Made_any neg' A' m dc w.heap.size _ W (hb.lim.below hW) hW.size (Nat.le_trans (hb.sz sb) (by decide))
    rwa [val_digs, hb.zOfv] at h1
  obtain ⟨HB, P0, Q0, R0, S0⟩ := frame22 w (.bool neg) (.slice A n c) (.bool neg') (.slice A' m dc)
  have HB0 := Lib.hid hb0
  clear hb0 ha hb
  go_enter Tryd.func22, Tryd.ntmps22
  go_upto_region 1 with (fail)
  have ⟨p0, p1, p2, p3, p4⟩ := P0
  have ⟨q0, q1, q2, q3, q4⟩ := Q0
  go_cut [] (fun wx => RdA w wx a b)
  case first =>
    as_aux_lemma =>
      clear p0 p1 p2 p3 p4 q0 q1 q2 q3 q4

      refine wp_region_ev (fun d a0 a' w' => ∃ u9 u10 u11 u12 u13 u14 u15 u16 u17 u18 : Value, a' = ((((((((((a0.put (some 9) u9).put (some 10) u10).put (some 11) u11).put (some 12) u12).put (some 13) u13).put (some 14) u14).put (some 15) u15).put (some 16) u16).put (some 17) u17).put (some 18) u18) ∧ Below w.heap.size w w' ∧ (d 0 = true → u9 = .pointer (some ⟨w.heap.size, 1, none⟩)) ∧ (d 1 = true → u10 = .slice A n c) ∧ (d 2 = true → u11 = .pointer (some ⟨w.heap.size, 0, none⟩)) ∧ (d 3 = true → u12 = .bool neg) ∧ (d 4 = true → IntV w' u13 (a)) ∧ (d 5 = true → u14 = .pointer (some ⟨w.heap.size + 1, 1, none⟩)) ∧ (d 6 = true → u15 = .slice A' m dc) ∧ (d 7 = true → u16 = .pointer (some ⟨w.heap.size + 1, 0, none⟩)) ∧ (d 8 = true → u17 = .bool neg') ∧ (d 9 = true → IntV w' u18 (b)) ∧ (BlkF w' (w.heap.size) (.bool neg) (.slice A n c) (d 10) (a)) ∧ (BlkF w' (w.heap.size + 1) (.bool neg') (.slice A' m dc) (d 11) (b)) ∧ (BlkF w' (w.heap.size + 1 + 1) (.bool false) (.slice none 0 0) false (0)) ∧ (BlkF w' (w.heap.size + 1 + 1 + 1) (.bool false) (.slice none 0 0) false (0)) ∧ (d 10 = true → d 1 = true) ∧ (d 10 = true → d 3 = true) ∧ (d 11 = true → d 6 = true) ∧ (d 11 = true → d 8 = true)) (by kernel_rfl) (by kernel_rfl) ?_ ?_ ?_ ?_
      · intro d d' h a' w' hh
        obtain rfl : d = d' := funext h
        exact hh
      · exact ⟨_, _, _, _, _, _, _, _, _, _, (by simp only [Act.put, List.setIfInBounds_toArray, List.set_cons_zero, List.set_cons_succ]; rfl), Below.drew (HB), (fun h => by cases h), (fun h => by cases h), (fun h => by cases h), (fun h => by cases h), (fun h => by cases h), (fun h => by cases h), (fun h => by cases h), (fun h => by cases h), (fun h => by cases h), (fun h => by cases h), (BlkF.start (Slot2.drew P0)), (BlkF.start (Slot2.drew Q0)), (BlkF.start (Slot2.drew R0)), (BlkF.start (Slot2.drew S0)), (fun h => by cases h), (fun h => by cases h), (fun h => by cases h), (fun h => by cases h)⟩
      · refine ⟨?_, ?_, ?_, ?_, ?_, ?_, ?_, ?_, ?_, ?_, ?_, ?_, trivial⟩
        · intro d a2 w2 hd hm ⟨u9, u10, u11, u12, u13, u14, u15, u16, u17, u18, e, HB, f0, f1, f2, f3, f4, f5, f6, f7, f8, f9, kP, kQ, kR, kS, o10_1, o10_3, o11_6, o11_8⟩ K hK
          subst e
          simp only [Act.put, List.setIfInBounds_toArray, List.set_cons_zero, List.set_cons_succ]
          go_simp
          exact hK.out _ _ ⟨.pointer (some ⟨w.heap.size, 1, none⟩), u10, u11, u12, u13, u14, u15, u16, u17, u18, (by simp only [Act.put, List.setIfInBounds_toArray, List.set_cons_zero, List.set_cons_succ]), HB, (fun _ => rfl), (fun h => f1 (by simpa using h)), (fun h => f2 (by simpa using h)), (fun h => f3 (by simpa using h)), (fun h => (f4 (by simpa using h))), (fun h => f5 (by simpa using h)), (fun h => f6 (by simpa using h)), (fun h => f7 (by simpa using h)), (fun h => f8 (by simpa using h)), (fun h => (f9 (by simpa using h))), (by simpa using (kP)), (by simpa using (kQ)), (by simpa using (kR)), (by simpa using (kS)), (fun h => by simpa using o10_1 (by simpa using h)), (fun h => by simpa using o10_3 (by simpa using h)), (fun h => by simpa using o11_6 (by simpa using h)), (fun h => by simpa using o11_8 (by simpa using h))⟩
        · intro d a2 w2 hd hm ⟨u9, u10, u11, u12, u13, u14, u15, u16, u17, u18, e, HB, f0, f1, f2, f3, f4, f5, f6, f7, f8, f9, kP, kQ, kR, kS, o10_1, o10_3, o11_6, o11_8⟩ K hK
          subst e
          simp only [Act.put, List.setIfInBounds_toArray, List.set_cons_zero, List.set_cons_succ]
          obtain rfl := f0 (hm ⟨0, .data⟩ (by simp) rfl)
          clear f0
          have hs : d 10 = false := by cases hq : d 10 with | false => rfl | true => (have hz := o10_1 hq; rw [hd] at hz; cases hz)
          have ⟨y0, y1, _, _, _⟩ := kP.1 hs
          clear hs
          go_simp
          exact hK.out _ _ ⟨.pointer (some ⟨w.heap.size, 1, none⟩), .slice A n c, u11, u12, u13, u14, u15, u16, u17, u18, (by simp only [Act.put, List.setIfInBounds_toArray, List.set_cons_zero, List.set_cons_succ]), HB, (fun _ => rfl), (fun _ => rfl), (fun h => f2 (by simpa using h)), (fun h => f3 (by simpa using h)), (fun h => (f4 (by simpa using h))), (fun h => f5 (by simpa using h)), (fun h => f6 (by simpa using h)), (fun h => f7 (by simpa using h)), (fun h => f8 (by simpa using h)), (fun h => (f9 (by simpa using h))), (by simpa using (kP)), (by simpa using (kQ)), (by simpa using (kR)), (by simpa using (kS)), (fun _ => by simp), (fun h => by simpa using o10_3 (by simpa using h)), (fun h => by simpa using o11_6 (by simpa using h)), (fun h => by simpa using o11_8 (by simpa using h))⟩
        · intro d a2 w2 hd hm ⟨u9, u10, u11, u12, u13, u14, u15, u16, u17, u18, e, HB, f0, f1, f2, f3, f4, f5, f6, f7, f8, f9, kP, kQ, kR, kS, o10_1, o10_3, o11_6, o11_8⟩ K hK
          subst e
          simp only [Act.put, List.setIfInBounds_toArray, List.set_cons_zero, List.set_cons_succ]
          go_simp
          exact hK.out _ _ ⟨u9, u10, .pointer (some ⟨w.heap.size, 0, none⟩), u12, u13, u14, u15, u16, u17, u18, (by simp only [Act.put, List.setIfInBounds_toArray, List.set_cons_zero, List.set_cons_succ]), HB, (fun h => f0 (by simpa using h)), (fun h => f1 (by simpa using h)), (fun _ => rfl), (fun h => f3 (by simpa using h)), (fun h => (f4 (by simpa using h))), (fun h => f5 (by simpa using h)), (fun h => f6 (by simpa using h)), (fun h => f7 (by simpa using h)), (fun h => f8 (by simpa using h)), (fun h => (f9 (by simpa using h))), (by simpa using (kP)), (by simpa using (kQ)), (by simpa using (kR)), (by simpa using (kS)), (fun h => by simpa using o10_1 (by simpa using h)), (fun h => by simpa using o10_3 (by simpa using h)), (fun h => by simpa using o11_6 (by simpa using h)), (fun h => by simpa using o11_8 (by simpa using h))⟩
        · intro d a2 w2 hd hm ⟨u9, u10, u11, u12, u13, u14, u15, u16, u17, u18, e, HB, f0, f1, f2, f3, f4, f5, f6, f7, f8, f9, kP, kQ, kR, kS, o10_1, o10_3, o11_6, o11_8⟩ K hK
          subst e
          simp only [Act.put, List.setIfInBounds_toArray, List.set_cons_zero, List.set_cons_succ]
          obtain rfl := f2 (hm ⟨2, .data⟩ (by simp) rfl)
          clear f2
          have hs : d 10 = false := by cases hq : d 10 with | false => rfl | true => (have hz := o10_3 hq; rw [hd] at hz; cases hz)
          have ⟨y0, y1, _, _, _⟩ := kP.1 hs
          clear hs
          go_simp
          exact hK.out _ _ ⟨u9, u10, .pointer (some ⟨w.heap.size, 0, none⟩), .bool neg, u13, u14, u15, u16, u17, u18, (by simp only [Act.put, List.setIfInBounds_toArray, List.set_cons_zero, List.set_cons_succ]), HB, (fun h => f0 (by simpa using h)), (fun h => f1 (by simpa using h)), (fun _ => rfl), (fun _ => rfl), (fun h => (f4 (by simpa using h))), (fun h => f5 (by simpa using h)), (fun h => f6 (by simpa using h)), (fun h => f7 (by simpa using h)), (fun h => f8 (by simpa using h)), (fun h => (f9 (by simpa using h))), (by simpa using (kP)), (by simpa using (kQ)), (by simpa using (kR)), (by simpa using (kS)), (fun h => by simpa using o10_1 (by simpa using h)), (fun _ => by simp), (fun h => by simpa using o11_6 (by simpa using h)), (fun h => by simpa using o11_8 (by simpa using h))⟩
        · intro d a2 w2 hd hm ⟨u9, u10, u11, u12, u13, u14, u15, u16, u17, u18, e, HB, f0, f1, f2, f3, f4, f5, f6, f7, f8, f9, kP, kQ, kR, kS, o10_1, o10_3, o11_6, o11_8⟩ K hK
          subst e
          simp only [Act.put, List.setIfInBounds_toArray, List.set_cons_zero, List.set_cons_succ]
          obtain rfl := f1 (hm ⟨1, .data⟩ (by simp) rfl)
          clear f1
          obtain rfl := f3 (hm ⟨3, .data⟩ (by simp) rfl)
          clear f3
          go_simp
          (with_reducible refine (T1.out _ HB).mono ?_)
          rintro e w3 ⟨gg, AA, nn, cc, rfl, hi, hb⟩
          have HB3 := HB.trans (hb.mono HB.size)
          go_wp2_with fail
          exact hK.out _ _ ⟨u9, .slice A n c, u11, .bool neg, .agg #[.bool gg, .slice AA nn cc], u14, u15, u16, u17, u18, (by simp only [Act.put, List.setIfInBounds_toArray, List.set_cons_zero, List.set_cons_succ]), HB3, (fun h => f0 (by simpa using h)), (fun _ => rfl), (fun h => f2 (by simpa using h)), (fun _ => rfl), (fun _ => ⟨_, _, _, _, rfl, hi⟩), (fun h => f5 (by simpa using h)), (fun h => f6 (by simpa using h)), (fun h => f7 (by simpa using h)), (fun h => f8 (by simpa using h)), (fun h => (f9 (by simpa using h)).below hb), (by simpa using (kP).below hb), (by simpa using (kQ).below hb), (by simpa using (kR).below hb), (by simpa using (kS).below hb), (fun h => by simpa using o10_1 (by simpa using h)), (fun h => by simpa using o10_3 (by simpa using h)), (fun h => by simpa using o11_6 (by simpa using h)), (fun h => by simpa using o11_8 (by simpa using h))⟩
        · intro d a2 w2 hd hm ⟨u9, u10, u11, u12, u13, u14, u15, u16, u17, u18, e, HB, f0, f1, f2, f3, f4, f5, f6, f7, f8, f9, kP, kQ, kR, kS, o10_1, o10_3, o11_6, o11_8⟩ K hK
          subst e
          simp only [Act.put, List.setIfInBounds_toArray, List.set_cons_zero, List.set_cons_succ]
          go_simp
          exact hK.out _ _ ⟨u9, u10, u11, u12, u13, .pointer (some ⟨w.heap.size + 1, 1, none⟩), u15, u16, u17, u18, (by simp only [Act.put, List.setIfInBounds_toArray, List.set_cons_zero, List.set_cons_succ]), HB, (fun h => f0 (by simpa using h)), (fun h => f1 (by simpa using h)), (fun h => f2 (by simpa using h)), (fun h => f3 (by simpa using h)), (fun h => (f4 (by simpa using h))), (fun _ => rfl), (fun h => f6 (by simpa using h)), (fun h => f7 (by simpa using h)), (fun h => f8 (by simpa using h)), (fun h => (f9 (by simpa using h))), (by simpa using (kP)), (by simpa using (kQ)), (by simpa using (kR)), (by simpa using (kS)), (fun h => by simpa using o10_1 (by simpa using h)), (fun h => by simpa using o10_3 (by simpa using h)), (fun h => by simpa using o11_6 (by simpa using h)), (fun h => by simpa using o11_8 (by simpa using h))⟩
        · intro d a2 w2 hd hm ⟨u9, u10, u11, u12, u13, u14, u15, u16, u17, u18, e, HB, f0, f1, f2, f3, f4, f5, f6, f7, f8, f9, kP, kQ, kR, kS, o10_1, o10_3, o11_6, o11_8⟩ K hK
          subst e
          simp only [Act.put, List.setIfInBounds_toArray, List.set_cons_zero, List.set_cons_succ]
          obtain rfl := f5 (hm ⟨5, .data⟩ (by simp) rfl)
          clear f5
          have hs : d 11 = false := by cases hq : d 11 with | false => rfl | true => (have hz := o11_6 hq; rw [hd] at hz; cases hz)
          have ⟨y0, y1, _, _, _⟩ := kQ.1 hs
          clear hs
          go_simp
          exact hK.out _ _ ⟨u9, u10, u11, u12, u13, .pointer (some ⟨w.heap.size + 1, 1, none⟩), .slice A' m dc, u16, u17, u18, (by simp only [Act.put, List.setIfInBounds_toArray, List.set_cons_zero, List.set_cons_succ]), HB, (fun h => f0 (by simpa using h)), (fun h => f1 (by simpa using h)), (fun h => f2 (by simpa using h)), (fun h => f3 (by simpa using h)), (fun h => (f4 (by simpa using h))), (fun _ => rfl), (fun _ => rfl), (fun h => f7 (by simpa using h)), (fun h => f8 (by simpa using h)), (fun h => (f9 (by simpa using h))), (by simpa using (kP)), (by simpa using (kQ)), (by simpa using (kR)), (by simpa using (kS)), (fun h => by simpa using o10_1 (by simpa using h)), (fun h => by simpa using o10_3 (by simpa using h)), (fun _ => by simp), (fun h => by simpa using o11_8 (by simpa using h))⟩
        · intro d a2 w2 hd hm ⟨u9, u10, u11, u12, u13, u14, u15, u16, u17, u18, e, HB, f0, f1, f2, f3, f4, f5, f6, f7, f8, f9, kP, kQ, kR, kS, o10_1, o10_3, o11_6, o11_8⟩ K hK
          subst e
          simp only [Act.put, List.setIfInBounds_toArray, List.set_cons_zero, List.set_cons_succ]
          go_simp
          exact hK.out _ _ ⟨u9, u10, u11, u12, u13, u14, u15, .pointer (some ⟨w.heap.size + 1, 0, none⟩), u17, u18, (by simp only [Act.put, List.setIfInBounds_toArray, List.set_cons_zero, List.set_cons_succ]), HB, (fun h => f0 (by simpa using h)), (fun h => f1 (by simpa using h)), (fun h => f2 (by simpa using h)), (fun h => f3 (by simpa using h)), (fun h => (f4 (by simpa using h))), (fun h => f5 (by simpa using h)), (fun h => f6 (by simpa using h)), (fun _ => rfl), (fun h => f8 (by simpa using h)), (fun h => (f9 (by simpa using h))), (by simpa using (kP)), (by simpa using (kQ)), (by simpa using (kR)), (by simpa using (kS)), (fun h => by simpa using o10_1 (by simpa using h)), (fun h => by simpa using o10_3 (by simpa using h)), (fun h => by simpa using o11_6 (by simpa using h)), (fun h => by simpa using o11_8 (by simpa using h))⟩
        · intro d a2 w2 hd hm ⟨u9, u10, u11, u12, u13, u14, u15, u16, u17, u18, e, HB, f0, f1, f2, f3, f4, f5, f6, f7, f8, f9, kP, kQ, kR, kS, o10_1, o10_3, o11_6, o11_8⟩ K hK
          subst e
          simp only [Act.put, List.setIfInBounds_toArray, List.set_cons_zero, List.set_cons_succ]
          obtain rfl := f7 (hm ⟨7, .data⟩ (by simp) rfl)
          clear f7
          have hs : d 11 = false := by cases hq : d 11 with | false => rfl | true => (have hz := o11_8 hq; rw [hd] at hz; cases hz)
          have ⟨y0, y1, _, _, _⟩ := kQ.1 hs
          clear hs
          go_simp
          exact hK.out _ _ ⟨u9, u10, u11, u12, u13, u14, u15, .pointer (some ⟨w.heap.size + 1, 0, none⟩), .bool neg', u18, (by simp only [Act.put, List.setIfInBounds_toArray, List.set_cons_zero, List.set_cons_succ]), HB, (fun h => f0 (by simpa using h)), (fun h => f1 (by simpa using h)), (fun h => f2 (by simpa using h)), (fun h => f3 (by simpa using h)), (fun h => (f4 (by simpa using h))), (fun h => f5 (by simpa using h)), (fun h => f6 (by simpa using h)), (fun _ => rfl), (fun _ => rfl), (fun h => (f9 (by simpa using h))), (by simpa using (kP)), (by simpa using (kQ)), (by simpa using (kR)), (by simpa using (kS)), (fun h => by simpa using o10_1 (by simpa using h)), (fun h => by simpa using o10_3 (by simpa using h)), (fun h => by simpa using o11_6 (by simpa using h)), (fun _ => by simp)⟩
        · intro d a2 w2 hd hm ⟨u9, u10, u11, u12, u13, u14, u15, u16, u17, u18, e, HB, f0, f1, f2, f3, f4, f5, f6, f7, f8, f9, kP, kQ, kR, kS, o10_1, o10_3, o11_6, o11_8⟩ K hK
          subst e
          simp only [Act.put, List.setIfInBounds_toArray, List.set_cons_zero, List.set_cons_succ]
          obtain rfl := f6 (hm ⟨6, .data⟩ (by simp) rfl)
          clear f6
          obtain rfl := f8 (hm ⟨8, .data⟩ (by simp) rfl)
          clear f8
          go_simp
          (with_reducible refine (T2.out _ HB).mono ?_)
          rintro e w3 ⟨gg, AA, nn, cc, rfl, hi, hb⟩
          have HB3 := HB.trans (hb.mono HB.size)
          go_wp2_with fail
          exact hK.out _ _ ⟨u9, u10, u11, u12, u13, u14, .slice A' m dc, u16, .bool neg', .agg #[.bool gg, .slice AA nn cc], (by simp only [Act.put, List.setIfInBounds_toArray, List.set_cons_zero, List.set_cons_succ]), HB3, (fun h => f0 (by simpa using h)), (fun h => f1 (by simpa using h)), (fun h => f2 (by simpa using h)), (fun h => f3 (by simpa using h)), (fun h => (f4 (by simpa using h)).below hb), (fun h => f5 (by simpa using h)), (fun _ => rfl), (fun h => f7 (by simpa using h)), (fun _ => rfl), (fun _ => ⟨_, _, _, _, rfl, hi⟩), (by simpa using (kP).below hb), (by simpa using (kQ).below hb), (by simpa using (kR).below hb), (by simpa using (kS).below hb), (fun h => by simpa using o10_1 (by simpa using h)), (fun h => by simpa using o10_3 (by simpa using h)), (fun h => by simpa using o11_6 (by simpa using h)), (fun h => by simpa using o11_8 (by simpa using h))⟩
        · intro d a2 w2 hd hm ⟨u9, u10, u11, u12, u13, u14, u15, u16, u17, u18, e, HB, f0, f1, f2, f3, f4, f5, f6, f7, f8, f9, kP, kQ, kR, kS, o10_1, o10_3, o11_6, o11_8⟩ K hK
          subst e
          simp only [Act.put, List.setIfInBounds_toArray, List.set_cons_zero, List.set_cons_succ]
          obtain ⟨gg, AA, nn, cc, rfl, hi⟩ := f4 (hm ⟨4, .data⟩ (by simp) rfl)
          have hs := kP.1 hd
          obtain ⟨k0, k1, k2, k3, k4⟩ := id hs
          go_simp
          exact hK.out _ _ ⟨u9, u10, u11, u12, .agg #[.bool gg, .slice AA nn cc], u14, u15, u16, u17, u18, (by simp only [Act.put, List.setIfInBounds_toArray, List.set_cons_zero, List.set_cons_succ]), Below.set2 HB (by omega) _ _, (fun h => f0 (by simpa using h)), (fun h => f1 (by simpa using h)), (fun h => f2 (by simpa using h)), (fun h => f3 (by simpa using h)), (fun h => (f4 (by simpa using h)).set2 hs rfl rfl _ _), (fun h => f5 (by simpa using h)), (fun h => f6 (by simpa using h)), (fun h => f7 (by simpa using h)), (fun h => f8 (by simpa using h)), (fun h => (f9 (by simpa using h)).set2 hs rfl rfl _ _), (by simpa using BlkF.near hi hs rfl rfl), (by simpa using (kQ).far2 (by omega) hs rfl rfl _ _), (by simpa using (kR).far2 (by omega) hs rfl rfl _ _), (by simpa using (kS).far2 (by omega) hs rfl rfl _ _), (fun _ => by simpa using hm ⟨1, .phase⟩ (by simp) rfl), (fun _ => by simpa using hm ⟨3, .phase⟩ (by simp) rfl), (fun h => by simpa using o11_6 (by simpa using h)), (fun h => by simpa using o11_8 (by simpa using h))⟩
        · intro d a2 w2 hd hm ⟨u9, u10, u11, u12, u13, u14, u15, u16, u17, u18, e, HB, f0, f1, f2, f3, f4, f5, f6, f7, f8, f9, kP, kQ, kR, kS, o10_1, o10_3, o11_6, o11_8⟩ K hK
          subst e
          simp only [Act.put, List.setIfInBounds_toArray, List.set_cons_zero, List.set_cons_succ]
          obtain ⟨gg, AA, nn, cc, rfl, hi⟩ := f9 (hm ⟨9, .data⟩ (by simp) rfl)
          have hs := kQ.1 hd
          obtain ⟨k0, k1, k2, k3, k4⟩ := id hs
          go_simp
          exact hK.out _ _ ⟨u9, u10, u11, u12, u13, u14, u15, u16, u17, .agg #[.bool gg, .slice AA nn cc], (by simp only [Act.put, List.setIfInBounds_toArray, List.set_cons_zero, List.set_cons_succ]), Below.set2 HB (by omega) _ _, (fun h => f0 (by simpa using h)), (fun h => f1 (by simpa using h)), (fun h => f2 (by simpa using h)), (fun h => f3 (by simpa using h)), (fun h => (f4 (by simpa using h)).set2 hs rfl rfl _ _), (fun h => f5 (by simpa using h)), (fun h => f6 (by simpa using h)), (fun h => f7 (by simpa using h)), (fun h => f8 (by simpa using h)), (fun h => (f9 (by simpa using h)).set2 hs rfl rfl _ _), (by simpa using (kP).far2 (by omega) hs rfl rfl _ _), (by simpa using BlkF.near hi hs rfl rfl), (by simpa using (kR).far2 (by omega) hs rfl rfl _ _), (by simpa using (kS).far2 (by omega) hs rfl rfl _ _), (fun h => by simpa using o10_1 (by simpa using h)), (fun h => by simpa using o10_3 (by simpa using h)), (fun _ => by simpa using hm ⟨6, .phase⟩ (by simp) rfl), (fun _ => by simpa using hm ⟨8, .phase⟩ (by simp) rfl)⟩
      · intro d a2 w2 hall ⟨u9, u10, u11, u12, u13, u14, u15, u16, u17, u18, e, HB, f0, f1, f2, f3, f4, f5, f6, f7, f8, f9, kP, kQ, kR, kS, o10_1, o10_3, o11_6, o11_8⟩
        subst e
        simp only [Act.put, List.setIfInBounds_toArray, List.set_cons_zero, List.set_cons_succ]
        obtain rfl := f0 (hall _ (by decide))
        obtain rfl := f1 (hall _ (by decide))
        obtain rfl := f2 (hall _ (by decide))
        obtain rfl := f3 (hall _ (by decide))
        obtain rfl := f5 (hall _ (by decide))
        obtain rfl := f6 (hall _ (by decide))
        obtain rfl := f7 (hall _ (by decide))
        obtain rfl := f8 (hall _ (by decide))
        have eP := kP.2 (hall _ (by decide))
        have eQ := kQ.2 (hall _ (by decide))
        have eR := kR.1 rfl
        have eS := kS.1 rfl
        go_wp2_with fail
        go_meet
        exact ⟨HB, eP, eQ, eR, eS⟩
  case rest =>
  obtain ⟨B1, IA, IB, R1, S1⟩ := hcut
  clear P0 Q0 R0 S0 HB T1 T2
  obtain ⟨W1, rfl⟩ : ∃ x : World, x = wc := ⟨_, rfl⟩
  obtain ⟨ga, Aa, na, ca, Sa, Ia⟩ := IA
  obtain ⟨gb, Ab, nb, cb, Sb, Ib⟩ := IB
  have ⟨xb, yb, _, _, _⟩ := Sb
  obtain ⟨s, hs⟩ : ∃ s, sgn b = s := ⟨_, rfl⟩
  have hs0 : (s == 0) = false := by rw [← hs]; exact sgn_ne' HB0.out
  have HSG := Lib.hid hs
  clear hs
  go_wp2_with fail
  (with_reducible refine (rsign_z gb Ab nb cb _ s Ib HSG.out).mono ?_)
  rintro e w2 ⟨rfl, hb2⟩
  have Sa2 := Sa.after hb2
  have Sb2 := Sb.after hb2
  have R2 := R1.after hb2
  have S2 := S1.after hb2
  have Ia2 := Ia.below hb2
  have Ib2 := Ib.below hb2
  have B2 := B1.trans (hb2.mono B1.size)
  clear xb yb Sa Sb R1 S1 Ia Ib B1 hb2 HSG
  have ⟨xa, ya, _, _, _⟩ := Sa2
  have ⟨xb, yb, _, _, _⟩ := Sb2
  have HDV := Lib.hid (rdiv_any Aa Ab na ca nb cb a.natAbs b.natAbs w2 Ia2.lim Ib2.lim (Nat.le_trans (Ia2.sz sa) (by decide)) (Nat.le_trans (Ib2.sz sb) (by decide)) (by have := HB0.out; omega))
  go_wp2_with fail
  refine HDV.out.mono ?_
  rintro e w3 ⟨g1, A1, n1, c1, g2, A2, n2, c2, rfl, i1, i2, hb3⟩
  obtain ⟨BQ, DQ⟩ := two_new i1 i2
  have D24 := hb3.trans (DQ.mono hb3.size)
  have Sa4 := Sa2.after D24
  have Sb4 := Sb2.after D24
  have R4 := R2.after D24
  have S4 := S2.after D24
  have Ia4 := Ia2.below D24
  have Ib4 := Ib2.below D24
  have B4 := B2.trans (D24.mono B2.size)
  have hg3 : w.heap.size + 1 + 1 + 1 < w3.heap.size := Nat.lt_of_lt_of_le S2.2.2.2.2 hb3.size
  clear xa ya xb yb Sa2 Sb2 R2 S2 Ia2 Ib2 B2 hb3 DQ D24 i1 i2 HDV
  go_upto_region 5 with (fail)
  generalize (w3.alloc (.cells #[.bool g1, .slice A1 n1 c1] 28)).alloc (.cells #[.bool g2, .slice A2 n2 c2] 28) = W4 at *
  generalize w3.heap.size = g7 at *
  obtain ⟨Q, hQ⟩ : ∃ Q, Q = a.natAbs / b.natAbs := ⟨_, rfl⟩
  obtain ⟨R, hR⟩ : ∃ R, R = a.natAbs % b.natAbs := ⟨_, rfl⟩
  rw [← hQ, ← hR] at BQ
  have HQ := Lib.hid hQ
  have HR := Lib.hid hR
  clear hQ hR
  have ZQ : Sz k ((Q : Nat) : Int) := ⟨sa.le, by rw [Int.natAbs_natCast, HQ.out]; exact Nat.le_trans (digs_len_mono (Nat.div_le_self _ _)) sa.len⟩
  have HGA := Lib.hid Ia4.sign
  have HGB := Lib.hid Ib4.sign
  obtain ⟨gq, Aq, nq, cq, Sq, Iq⟩ := BQ (g7, (Q : Int)) (by simp)
  obtain ⟨gr, Ar, nr, cr, Sr, Ir⟩ := BQ (g7 + 1, (R : Int)) (by simp)
  have hgl := Sr.2.2.2.2
  clear BQ
  have HG : w.heap.size ≤ w.heap.size + 1 + 1 := by omega
  rcases Int.lt_or_le a 0 with ha0 | ha0
  · have hga : ga = true := by rw [HGA.out]; simpa using ha0
    subst hga
    rcases Nat.eq_zero_or_pos R with hR0 | hR0
    · have hM := dm_b a b HB0.out ha0 (by rw [← HR.out]; exact hR0)
      have HR0 := Lib.hid hR0
      have HS0 : Hid (sgn ((R : Nat) : Int) = 0) := by rw [hR0]; rfl
      clear hR0
      have ⟨xSa, ySa, _, _, _⟩ := Sa4
      have ⟨xSr, ySr, _, _, _⟩ := Sr
      go_wp2_with fail
      (with_reducible refine (rsign_z gr Ar nr cr _ 0 Ir HS0.out).mono ?_)
      rintro e w5 ⟨rfl, hb5⟩
      clear xSa ySa xSr ySr
      have Sa_1 := Sa4.after hb5
      have Sb_1 := Sb4.after hb5
      have R_1 := R4.after hb5
      have S_1 := S4.after hb5
      have Sq_1 := Sq.after hb5
      have Sr_1 := Sr.after hb5
      have B_1 := B4.trans (hb5.mono B4.size)
      have Iq_1 := Iq.below hb5
      have Ir_1 := Ir.below hb5
      clear Sa4 Sb4 R4 S4 Sq Sr B4 Iq Ir
      rcases Int.lt_or_le b 0 with hb0 | hb0
      · have hgb : gb = true := by rw [HGB.out]; simp; omega
        subst hgb
        have e1 : ((Q : Nat) : Int) = a / b := by rw [hM.1, HQ.out, decide_eq_true (by omega)]; rfl
        have E1 := Lib.hid e1
        have e2 : ((R : Nat) : Int) = a % b := by rw [hM.2, HR0.out]; rfl
        rw [e2] at Ir_1
        rw [e1] at Iq_1
        clear e1 e2 hM hb0 ha0
        have ⟨xSa, ySa, _, _, _⟩ := Sa_1
        have ⟨xSb, ySb, _, _, _⟩ := Sb_1
        have ⟨k0, k1, _, _, _⟩ := Sq_1
        have ⟨k2, k3, _, _, _⟩ := Sr_1
        have ⟨l0, l1, l2, l3, _⟩ := R_1
        have ⟨m0, m1, m2, m3, _⟩ := S_1
        have hfin := (RetDM.stored Iq_1 Ir_1 (Below.refl _ _) B_1 (Below.refl _ _) HG R_1 S_1).drew
        go_wp2_with fail
        go_region
        go_wp2_with fail
        exact bodyPost_ret (v := .tuple #[.agg #[.bool _, .slice _ _ _], .agg #[.bool _, .slice _ _ _], .int .i64 0]) (by simp [results, Tryd.results22, go_sem, l0, l1, m0, m1]) rfl hfin
      · have hgb : gb = false := by rw [HGB.out]; simp; omega
        subst hgb
        have e1 : -((Q : Nat) : Int) = a / b := by rw [hM.1, HQ.out, decide_eq_false (by omega)]; rfl
        have E1 := Lib.hid e1
        have e2 : ((R : Nat) : Int) = a % b := by rw [hM.2, HR0.out]; rfl
        rw [e2] at Ir_1
        clear e1 e2 hM hb0 ha0
        have ⟨xSa, ySa, _, _, _⟩ := Sa_1
        have ⟨xSb, ySb, _, _, _⟩ := Sb_1
        have ⟨xSq, ySq, _, _, _⟩ := Sq_1
        go_wp2_with fail
        (with_reducible refine (rneg_z _ _ _ _ _ Iq_1 ZQ).mono ?_)
        rintro e wn ⟨gn, An, nn, cn, rfl, hin, hbn⟩
        rw [E1.out] at hin
        clear xSa ySa xSb ySb xSq ySq
        have Sa_2 := Sa_1.after hbn
        have Sb_2 := Sb_1.after hbn
        have R_2 := R_1.after hbn
        have S_2 := S_1.after hbn
        have Sq_2 := Sq_1.after hbn
        have Sr_2 := Sr_1.after hbn
        have B_2 := B_1.trans (hbn.mono B_1.size)
        have Iq_2 := Iq_1.below hbn
        have Ir_2 := Ir_1.below hbn
        clear Sa_1 Sb_1 R_1 S_1 Sq_1 Sr_1 B_1 Iq_1 Ir_1
        have ⟨p0, p1, p2, p3, _⟩ := Sq_2
        have Rn := R_2.far2 (g' := g7) (by omega) (.bool gn) (.slice An nn cn)
        have Sn := S_2.far2 (g' := g7) (by omega) (.bool gn) (.slice An nn cn)
        have Srn := Sr_2.far2 (g' := g7) (by omega) (.bool gn) (.slice An nn cn)
        have Sqn := Sq_2.set2 (.bool gn) (.slice An nn cn)
        have Irn := Ir_2.set2 Sq_2 rfl rfl (.bool gn) (.slice An nn cn)
        have Iqn := hin.set2 Sq_2 rfl rfl (.bool gn) (.slice An nn cn)
        have Bn := Below.set2 B_2 (show w.heap.size ≤ g7 by omega) (.bool gn) (.slice An nn cn)
        go_wp2_with fail
        generalize (wn.setCell ⟨g7, 0, none⟩ (.bool gn)).setCell ⟨g7, 1, none⟩ (.slice An nn cn) = Wn at *
        clear p0 p1 p2 p3
        have ⟨k0, k1, _, _, _⟩ := Sqn
        have ⟨k2, k3, _, _, _⟩ := Srn
        have ⟨l0, l1, l2, l3, _⟩ := Rn
        have ⟨m0, m1, m2, m3, _⟩ := Sn
        have hfin := (RetDM.stored Iqn Irn (Below.refl _ _) Bn (Below.refl _ _) HG Rn Sn).drew
        go_wp2_with fail
        go_region
        go_wp2_with fail
        exact bodyPost_ret (v := .tuple #[.agg #[.bool _, .slice _ _ _], .agg #[.bool _, .slice _ _ _], .int .i64 0]) (by simp [results, Tryd.results22, go_sem, l0, l1, m0, m1]) rfl hfin
    · have hM := dm_c a b HB0.out ha0 (by rw [← HR.out]; exact hR0)
      have hRb : R ≤ b.natAbs := by rw [HR.out]; exact Nat.le_of_lt (Nat.mod_lt _ (by have := HB0.out; omega))
      have HRB := Lib.hid hRb
      have HS0 : Hid (sgn ((R : Nat) : Int) = 1) := Lib.hid (show sgn ((R : Nat) : Int) = 1 by unfold sgn; rw [if_neg (by omega), if_pos (by omega)])
      have ZR : Sz l ((R : Nat) : Int) := ⟨sb.le, by rw [Int.natAbs_natCast]; exact Nat.le_trans (digs_len_mono hRb) sb.len⟩
      have Z1 : Sz 1 (1 : Int) := Sz.of (by decide) (by decide)
      clear hR0 hRb
      have ⟨xSa, ySa, _, _, _⟩ := Sa4
      have ⟨xSr, ySr, _, _, _⟩ := Sr
      go_wp2_with fail
      (with_reducible refine (rsign_z gr Ar nr cr _ 1 Ir HS0.out).mono ?_)
      rintro e w5 ⟨rfl, hb5⟩
      clear xSa ySa xSr ySr
      have Sa_3 := Sa4.after hb5
      have Sb_3 := Sb4.after hb5
      have R_3 := R4.after hb5
      have S_3 := S4.after hb5
      have Sq_3 := Sq.after hb5
      have Sr_3 := Sr.after hb5
      have B_3 := B4.trans (hb5.mono B4.size)
      have Iq_3 := Iq.below hb5
      have Ir_3 := Ir.below hb5
      have Ib_3 := Ib4.below hb5
      clear Sa4 Sb4 R4 S4 Sq Sr B4 Iq Ir Ib4
      go_wp2_with fail
      go_cut [] (fun wx => Below w.heap.size w wx ∧ Slot2 wx w.heap.size (.bool true) (.slice Aa na ca) ∧ (Slot2 wx (w.heap.size + 1) (.bool gb) (.slice Ab nb cb) ∧ IsInt wx gb Ab nb cb b) ∧ Slot2 wx (w.heap.size + 1 + 1) (.bool false) (.slice none 0 0) ∧ Slot2 wx (w.heap.size + 1 + 1 + 1) (.bool false) (.slice none 0 0) ∧ IntAt wx g7 ((Q : Int) + 1) ∧ (Slot2 wx (g7 + 1) (.bool gr) (.slice Ar nr cr) ∧ IsInt wx gr Ar nr cr ((R : Nat) : Int)))
      case first =>
        as_aux_lemma =>
          refine wp_region_ev (fun d a0 a' w' => ∃ u39 u40 u41 : Value, a' = (((a0.put (some 39) u39).put (some 40) u40).put (some 41) u41) ∧ Below w.heap.size w w' ∧ (d 0 = true → u39 = .agg #[.bool gq, .slice Aq nq cq]) ∧ (d 1 = true → IntV w' u40 (1)) ∧ (d 2 = true → IntV w' u41 ((Q : Int) + 1)) ∧ (BlkF w' (w.heap.size) (.bool true) (.slice Aa na ca) false (0)) ∧ (BlkI w' (w.heap.size + 1) gb Ab nb cb (b) false (0)) ∧ (BlkF w' (w.heap.size + 1 + 1) (.bool false) (.slice none 0 0) false (0)) ∧ (BlkF w' (w.heap.size + 1 + 1 + 1) (.bool false) (.slice none 0 0) false (0)) ∧ (BlkI w' (g7) gq Aq nq cq ((Q : Int)) (d 3) ((Q : Int) + 1)) ∧ (BlkI w' (g7 + 1) gr Ar nr cr (((R : Nat) : Int)) false (0)) ∧ (d 3 = true → d 0 = true) ∧ (d 3 = true → d 2 = true)) (by kernel_rfl) (by kernel_rfl) ?_ ?_ ?_ ?_
          · intro d d' h a' w' hh
            obtain rfl : d = d' := funext h
            exact hh
          · exact ⟨_, _, _, (by simp only [Act.put, List.setIfInBounds_toArray, List.set_cons_zero, List.set_cons_succ]; rfl), Below.drew (B_3), (fun h => by cases h), (fun h => by cases h), (fun h => by cases h), (BlkF.start (Slot2.drew Sa_3)), (BlkI.start Sb_3 Ib_3), (BlkF.start (Slot2.drew R_3)), (BlkF.start (Slot2.drew S_3)), (BlkI.start Sq_3 Iq_3), (BlkI.start Sr_3 Ir_3), (fun h => by cases h), (fun h => by cases h)⟩
          · refine ⟨?_, ?_, ?_, ?_, trivial⟩
            · intro d a2 w2 hd hm ⟨u39, u40, u41, e, HB, f0, f1, f2, kA, kB, kR, kS, kQ, kE, o3_0, o3_2⟩ K hK
              subst e
              simp only [Act.put, List.setIfInBounds_toArray, List.set_cons_zero, List.set_cons_succ]
              have hs : d 3 = false := by cases hq : d 3 with | false => rfl | true => (have hz := o3_0 hq; rw [hd] at hz; cases hz)
              have ⟨y0, y1, _, _, _⟩ := (kQ.1 hs).1
              clear hs
              go_simp
              exact hK.out _ _ ⟨.agg #[.bool gq, .slice Aq nq cq], u40, u41, (by simp only [Act.put, List.setIfInBounds_toArray, List.set_cons_zero, List.set_cons_succ]), HB, (fun _ => rfl), (fun h => (f1 (by simpa using h))), (fun h => (f2 (by simpa using h))), (by simpa using (kA)), (by simpa using (kB)), (by simpa using (kR)), (by simpa using (kS)), (by simpa using (kQ)), (by simpa using (kE)), (fun _ => by simp), (fun h => by simpa using o3_2 (by simpa using h))⟩
            · intro d a2 w2 hd hm ⟨u39, u40, u41, e, HB, f0, f1, f2, kA, kB, kR, kS, kQ, kE, o3_0, o3_2⟩ K hK
              subst e
              simp only [Act.put, List.setIfInBounds_toArray, List.set_cons_zero, List.set_cons_succ]
              go_simp
              (with_reducible refine (rof_any 1 _ (by decide) (by decide)).mono ?_)
              rintro e w3 ⟨gg, AA, nn, cc, rfl, hi, hb⟩
              have HB3 := HB.trans (hb.mono HB.size)
              go_wp2_with fail
              exact hK.out _ _ ⟨u39, .agg #[.bool gg, .slice AA nn cc], u41, (by simp only [Act.put, List.setIfInBounds_toArray, List.set_cons_zero, List.set_cons_succ]), HB3, (fun h => f0 (by simpa using h)), (fun _ => ⟨_, _, _, _, rfl, hi⟩), (fun h => (f2 (by simpa using h)).below hb), (by simpa using (kA).below hb), (by simpa using (kB).below hb), (by simpa using (kR).below hb), (by simpa using (kS).below hb), (by simpa using (kQ).below hb), (by simpa using (kE).below hb), (fun h => by simpa using o3_0 (by simpa using h)), (fun h => by simpa using o3_2 (by simpa using h))⟩
            · intro d a2 w2 hd hm ⟨u39, u40, u41, e, HB, f0, f1, f2, kA, kB, kR, kS, kQ, kE, o3_0, o3_2⟩ K hK
              subst e
              simp only [Act.put, List.setIfInBounds_toArray, List.set_cons_zero, List.set_cons_succ]
              obtain rfl := f0 (hm ⟨0, .data⟩ (by simp) rfl)
              clear f0
              obtain ⟨G1, A1, N1, C1, rfl, I1⟩ := f1 (hm ⟨1, .data⟩ (by simp) rfl)
              have hsQ : d 3 = false := by cases hq : d 3 with | false => rfl | true => (have hz := o3_2 hq; rw [hd] at hz; cases hz)
              have iQ := (kQ.1 hsQ).2
              clear hsQ
              go_simp
              (with_reducible refine (radd_z gq G1 Aq A1 nq cq N1 C1 _ iQ I1 ZQ Z1).mono ?_)
              rintro e w3 ⟨gg, AA, nn, cc, rfl, hi, hb⟩
              have HB3 := HB.trans (hb.mono HB.size)
              go_wp2_with fail
              exact hK.out _ _ ⟨.agg #[.bool gq, .slice Aq nq cq], .agg #[.bool G1, .slice A1 N1 C1], .agg #[.bool gg, .slice AA nn cc], (by simp only [Act.put, List.setIfInBounds_toArray, List.set_cons_zero, List.set_cons_succ]), HB3, (fun _ => rfl), (fun h => (f1 (by simpa using h)).below hb), (fun _ => ⟨_, _, _, _, rfl, hi⟩), (by simpa using (kA).below hb), (by simpa using (kB).below hb), (by simpa using (kR).below hb), (by simpa using (kS).below hb), (by simpa using (kQ).below hb), (by simpa using (kE).below hb), (fun h => by simpa using o3_0 (by simpa using h)), (fun _ => by simp)⟩
            · intro d a2 w2 hd hm ⟨u39, u40, u41, e, HB, f0, f1, f2, kA, kB, kR, kS, kQ, kE, o3_0, o3_2⟩ K hK
              subst e
              simp only [Act.put, List.setIfInBounds_toArray, List.set_cons_zero, List.set_cons_succ]
              obtain ⟨gg, AA, nn, cc, rfl, hi⟩ := f2 (hm ⟨2, .data⟩ (by simp) rfl)
              have hs := (kQ.1 hd).1
              obtain ⟨k0, k1, k2, k3, k4⟩ := id hs
              go_simp
              exact hK.out _ _ ⟨u39, u40, .agg #[.bool gg, .slice AA nn cc], (by simp only [Act.put, List.setIfInBounds_toArray, List.set_cons_zero, List.set_cons_succ]), Below.set2 HB (by omega) _ _, (fun h => f0 (by simpa using h)), (fun h => (f1 (by simpa using h)).set2 hs rfl rfl _ _), (fun h => (f2 (by simpa using h)).set2 hs rfl rfl _ _), (by simpa using (kA).far2 (by omega) hs rfl rfl _ _), (by simpa using (kB).far2 (by omega) hs rfl rfl _ _), (by simpa using (kR).far2 (by omega) hs rfl rfl _ _), (by simpa using (kS).far2 (by omega) hs rfl rfl _ _), (by simpa using BlkI.near hi hs), (by simpa using (kE).far2 (by omega) hs rfl rfl _ _), (fun _ => by simpa using hm ⟨0, .phase⟩ (by simp) rfl), (fun _ => by simpa using hm ⟨2, .data⟩ (by simp) rfl)⟩
          · intro d a2 w2 hall ⟨u39, u40, u41, e, HB, f0, f1, f2, kA, kB, kR, kS, kQ, kE, o3_0, o3_2⟩
            subst e
            simp only [Act.put, List.setIfInBounds_toArray, List.set_cons_zero, List.set_cons_succ]
            obtain rfl := f0 (hall _ (by decide))
            have eA := kA.1 rfl
            have eB := kB.1 rfl
            have eR := kR.1 rfl
            have eS := kS.1 rfl
            have eQ := kQ.2 (hall _ (by decide))
            have eE := kE.1 rfl
            go_wp2_with fail
            go_meet
            exact ⟨HB, eA, eB, eR, eS, eQ, eE⟩
      case rest =>
      obtain ⟨B6, Sa6, ⟨Sb6, Ib6⟩, R6, S6, ⟨gq', Aq', nq', cq', Sq6, Iq6⟩, Sr6, Ir6⟩ := hcut
      have ZQ1 : Sz (k + 1 + 1) ((Q : Int) + 1) := Sz.add (ZQ.mono (Nat.le_add_right _ 1) hk1) (Z1.mono (by omega) hk1) hk2

      go_wp2_with fail
      go_cut [] (fun wx => Below w.heap.size w wx ∧ Slot2 wx w.heap.size (.bool true) (.slice Aa na ca) ∧ (Slot2 wx (w.heap.size + 1) (.bool gb) (.slice Ab nb cb) ∧ IsInt wx gb Ab nb cb b) ∧ Slot2 wx (w.heap.size + 1 + 1) (.bool false) (.slice none 0 0) ∧ Slot2 wx (w.heap.size + 1 + 1 + 1) (.bool false) (.slice none 0 0) ∧ (Slot2 wx g7 (.bool gq') (.slice Aq' nq' cq') ∧ IsInt wx gq' Aq' nq' cq' ((Q : Int) + 1)) ∧ IntAt wx (g7 + 1) (((b.natAbs : Nat) : Int) - ((R : Nat) : Int)))
      case first =>
        as_aux_lemma =>
          refine wp_region_ev (fun d a0 a' w' => ∃ u42 u43 u44 u45 u46 : Value, a' = (((((a0.put (some 42) u42).put (some 43) u43).put (some 44) u44).put (some 45) u45).put (some 46) u46) ∧ Below w.heap.size w w' ∧ (d 0 = true → u42 = .pointer (some ⟨w.heap.size + 1, 1, none⟩)) ∧ (d 1 = true → u43 = .slice Ab nb cb) ∧ (d 2 = true → IntV w' u44 (((b.natAbs : Nat) : Int))) ∧ (d 3 = true → u45 = .agg #[.bool gr, .slice Ar nr cr]) ∧ (d 4 = true → IntV w' u46 (((b.natAbs : Nat) : Int) - ((R : Nat) : Int))) ∧ (BlkF w' (w.heap.size) (.bool true) (.slice Aa na ca) false (0)) ∧ (BlkI w' (w.heap.size + 1) gb Ab nb cb (b) false (0)) ∧ (BlkF w' (w.heap.size + 1 + 1) (.bool false) (.slice none 0 0) false (0)) ∧ (BlkF w' (w.heap.size + 1 + 1 + 1) (.bool false) (.slice none 0 0) false (0)) ∧ (BlkI w' (g7) gq' Aq' nq' cq' ((Q : Int) + 1) false (0)) ∧ (BlkI w' (g7 + 1) gr Ar nr cr (((R : Nat) : Int)) (d 5) (((b.natAbs : Nat) : Int) - ((R : Nat) : Int))) ∧ (d 5 = true → d 3 = true) ∧ (d 5 = true → d 4 = true)) (by kernel_rfl) (by kernel_rfl) ?_ ?_ ?_ ?_
          · intro d d' h a' w' hh
            obtain rfl : d = d' := funext h
            exact hh
          · exact ⟨_, _, _, _, _, (by simp only [Act.put, List.setIfInBounds_toArray, List.set_cons_zero, List.set_cons_succ]; rfl), Below.drew (B6), (fun h => by cases h), (fun h => by cases h), (fun h => by cases h), (fun h => by cases h), (fun h => by cases h), (BlkF.start (Slot2.drew Sa6)), (BlkI.start Sb6 Ib6), (BlkF.start (Slot2.drew R6)), (BlkF.start (Slot2.drew S6)), (BlkI.start Sq6 Iq6), (BlkI.start Sr6 Ir6), (fun h => by cases h), (fun h => by cases h)⟩
          · refine ⟨?_, ?_, ?_, ?_, ?_, ?_, trivial⟩
            · intro d a2 w2 hd hm ⟨u42, u43, u44, u45, u46, e, HB, f0, f1, f2, f3, f4, kA, kB, kR, kS, kQ, kE, o5_3, o5_4⟩ K hK
              subst e
              simp only [Act.put, List.setIfInBounds_toArray, List.set_cons_zero, List.set_cons_succ]
              go_simp
              exact hK.out _ _ ⟨.pointer (some ⟨w.heap.size + 1, 1, none⟩), u43, u44, u45, u46, (by simp only [Act.put, List.setIfInBounds_toArray, List.set_cons_zero, List.set_cons_succ]), HB, (fun _ => rfl), (fun h => f1 (by simpa using h)), (fun h => (f2 (by simpa using h))), (fun h => f3 (by simpa using h)), (fun h => (f4 (by simpa using h))), (by simpa using (kA)), (by simpa using (kB)), (by simpa using (kR)), (by simpa using (kS)), (by simpa using (kQ)), (by simpa using (kE)), (fun h => by simpa using o5_3 (by simpa using h)), (fun h => by simpa using o5_4 (by simpa using h))⟩
            · intro d a2 w2 hd hm ⟨u42, u43, u44, u45, u46, e, HB, f0, f1, f2, f3, f4, kA, kB, kR, kS, kQ, kE, o5_3, o5_4⟩ K hK
              subst e
              simp only [Act.put, List.setIfInBounds_toArray, List.set_cons_zero, List.set_cons_succ]
              obtain rfl := f0 (hm ⟨0, .data⟩ (by simp) rfl)
              clear f0
              have ⟨y0, y1, _, _, _⟩ := (kB.1 rfl).1
              go_simp
              exact hK.out _ _ ⟨.pointer (some ⟨w.heap.size + 1, 1, none⟩), .slice Ab nb cb, u44, u45, u46, (by simp only [Act.put, List.setIfInBounds_toArray, List.set_cons_zero, List.set_cons_succ]), HB, (fun _ => rfl), (fun _ => rfl), (fun h => (f2 (by simpa using h))), (fun h => f3 (by simpa using h)), (fun h => (f4 (by simpa using h))), (by simpa using (kA)), (by simpa using (kB)), (by simpa using (kR)), (by simpa using (kS)), (by simpa using (kQ)), (by simpa using (kE)), (fun h => by simpa using o5_3 (by simpa using h)), (fun h => by simpa using o5_4 (by simpa using h))⟩
            · intro d a2 w2 hd hm ⟨u42, u43, u44, u45, u46, e, HB, f0, f1, f2, f3, f4, kA, kB, kR, kS, kQ, kE, o5_3, o5_4⟩ K hK
              subst e
              simp only [Act.put, List.setIfInBounds_toArray, List.set_cons_zero, List.set_cons_succ]
              obtain rfl := f1 (hm ⟨1, .data⟩ (by simp) rfl)
              clear f1
              have iB := (kB.1 rfl).2
              go_simp
              (with_reducible refine (rmadeAbs_z gb Ab nb cb _ iB sb).mono ?_)
              rintro e w3 ⟨gg, AA, nn, cc, rfl, hi, hb⟩
              have HB3 := HB.trans (hb.mono HB.size)
              go_wp2_with fail
              exact hK.out _ _ ⟨u42, .slice Ab nb cb, .agg #[.bool gg, .slice AA nn cc], u45, u46, (by simp only [Act.put, List.setIfInBounds_toArray, List.set_cons_zero, List.set_cons_succ]), HB3, (fun h => f0 (by simpa using h)), (fun _ => rfl), (fun _ => ⟨_, _, _, _, rfl, hi⟩), (fun h => f3 (by simpa using h)), (fun h => (f4 (by simpa using h)).below hb), (by simpa using (kA).below hb), (by simpa using (kB).below hb), (by simpa using (kR).below hb), (by simpa using (kS).below hb), (by simpa using (kQ).below hb), (by simpa using (kE).below hb), (fun h => by simpa using o5_3 (by simpa using h)), (fun h => by simpa using o5_4 (by simpa using h))⟩
            · intro d a2 w2 hd hm ⟨u42, u43, u44, u45, u46, e, HB, f0, f1, f2, f3, f4, kA, kB, kR, kS, kQ, kE, o5_3, o5_4⟩ K hK
              subst e
              simp only [Act.put, List.setIfInBounds_toArray, List.set_cons_zero, List.set_cons_succ]
              have hs : d 5 = false := by cases hq : d 5 with | false => rfl | true => (have hz := o5_3 hq; rw [hd] at hz; cases hz)
              have ⟨y0, y1, _, _, _⟩ := (kE.1 hs).1
              clear hs
              go_simp
              exact hK.out _ _ ⟨u42, u43, u44, .agg #[.bool gr, .slice Ar nr cr], u46, (by simp only [Act.put, List.setIfInBounds_toArray, List.set_cons_zero, List.set_cons_succ]), HB, (fun h => f0 (by simpa using h)), (fun h => f1 (by simpa using h)), (fun h => (f2 (by simpa using h))), (fun _ => rfl), (fun h => (f4 (by simpa using h))), (by simpa using (kA)), (by simpa using (kB)), (by simpa using (kR)), (by simpa using (kS)), (by simpa using (kQ)), (by simpa using (kE)), (fun _ => by simp), (fun h => by simpa using o5_4 (by simpa using h))⟩
            · intro d a2 w2 hd hm ⟨u42, u43, u44, u45, u46, e, HB, f0, f1, f2, f3, f4, kA, kB, kR, kS, kQ, kE, o5_3, o5_4⟩ K hK
              subst e
              simp only [Act.put, List.setIfInBounds_toArray, List.set_cons_zero, List.set_cons_succ]
              obtain ⟨G2, A2, N2, C2, rfl, I2⟩ := f2 (hm ⟨2, .data⟩ (by simp) rfl)
              obtain rfl := f3 (hm ⟨3, .data⟩ (by simp) rfl)
              clear f3
              have hsE : d 5 = false := by cases hq : d 5 with | false => rfl | true => (have hz := o5_4 hq; rw [hd] at hz; cases hz)
              have iE := (kE.1 hsE).2
              clear hsE
              go_simp
              (with_reducible refine (rsub_z G2 gr A2 Ar N2 C2 nr cr _ I2 iE (Sz.abs sb) ZR).mono ?_)
              rintro e w3 ⟨gg, AA, nn, cc, rfl, hi, hb⟩
              have HB3 := HB.trans (hb.mono HB.size)
              go_wp2_with fail
              exact hK.out _ _ ⟨u42, u43, .agg #[.bool G2, .slice A2 N2 C2], .agg #[.bool gr, .slice Ar nr cr], .agg #[.bool gg, .slice AA nn cc], (by simp only [Act.put, List.setIfInBounds_toArray, List.set_cons_zero, List.set_cons_succ]), HB3, (fun h => f0 (by simpa using h)), (fun h => f1 (by simpa using h)), (fun h => (f2 (by simpa using h)).below hb), (fun _ => rfl), (fun _ => ⟨_, _, _, _, rfl, hi⟩), (by simpa using (kA).below hb), (by simpa using (kB).below hb), (by simpa using (kR).below hb), (by simpa using (kS).below hb), (by simpa using (kQ).below hb), (by simpa using (kE).below hb), (fun h => by simpa using o5_3 (by simpa using h)), (fun _ => by simp)⟩
            · intro d a2 w2 hd hm ⟨u42, u43, u44, u45, u46, e, HB, f0, f1, f2, f3, f4, kA, kB, kR, kS, kQ, kE, o5_3, o5_4⟩ K hK
              subst e
              simp only [Act.put, List.setIfInBounds_toArray, List.set_cons_zero, List.set_cons_succ]
              obtain ⟨gg, AA, nn, cc, rfl, hi⟩ := f4 (hm ⟨4, .data⟩ (by simp) rfl)
              have hs := (kE.1 hd).1
              obtain ⟨k0, k1, k2, k3, k4⟩ := id hs
              go_simp
              exact hK.out _ _ ⟨u42, u43, u44, u45, .agg #[.bool gg, .slice AA nn cc], (by simp only [Act.put, List.setIfInBounds_toArray, List.set_cons_zero, List.set_cons_succ]), Below.set2 HB (by omega) _ _, (fun h => f0 (by simpa using h)), (fun h => f1 (by simpa using h)), (fun h => (f2 (by simpa using h)).set2 hs rfl rfl _ _), (fun h => f3 (by simpa using h)), (fun h => (f4 (by simpa using h)).set2 hs rfl rfl _ _), (by simpa using (kA).far2 (by omega) hs rfl rfl _ _), (by simpa using (kB).far2 (by omega) hs rfl rfl _ _), (by simpa using (kR).far2 (by omega) hs rfl rfl _ _), (by simpa using (kS).far2 (by omega) hs rfl rfl _ _), (by simpa using (kQ).far2 (by omega) hs rfl rfl _ _), (by simpa using BlkI.near hi hs), (fun _ => by simpa using hm ⟨3, .phase⟩ (by simp) rfl), (fun _ => by simpa using hm ⟨4, .data⟩ (by simp) rfl)⟩
          · intro d a2 w2 hall ⟨u42, u43, u44, u45, u46, e, HB, f0, f1, f2, f3, f4, kA, kB, kR, kS, kQ, kE, o5_3, o5_4⟩
            subst e
            simp only [Act.put, List.setIfInBounds_toArray, List.set_cons_zero, List.set_cons_succ]
            obtain rfl := f0 (hall _ (by decide))
            obtain rfl := f1 (hall _ (by decide))
            obtain rfl := f3 (hall _ (by decide))
            have eA := kA.1 rfl
            have eB := kB.1 rfl
            have eR := kR.1 rfl
            have eS := kS.1 rfl
            have eQ := kQ.1 rfl
            have eE := kE.2 (hall _ (by decide))
            go_wp2_with fail
            go_meet
            exact ⟨HB, eA, eB, eR, eS, eQ, eE⟩
      case rest =>
      obtain ⟨B7, Sa7, ⟨Sb7, Ib7⟩, R7, S7, ⟨Sq7, Iq7⟩, ⟨gr', Ar', nr', cr', Sr7, Ir7⟩⟩ := hcut
      have eQ1 : ((Q : Int) + 1) = ((Q + 1 : Nat) : Int) := rfl
      rw [eQ1] at Iq7 ZQ1
      clear eQ1 Sa6 Sb6 Ib6 R6 S6 Sq6 Iq6 Sr6 Ir6 B6 Ib7
      rcases Int.lt_or_le b 0 with hb0 | hb0
      · have hgb : gb = true := by rw [HGB.out]; simp; omega
        subst hgb
        have e1 : ((Q + 1 : Nat) : Int) = a / b := by rw [hM.1, HQ.out, decide_eq_true (by omega)]; rfl
        have E1 := Lib.hid e1
        have e2 : ((b.natAbs : Nat) : Int) - ((R : Nat) : Int) = a % b := by rw [hM.2, ← HR.out, Int.natCast_sub HRB.out]
        rw [e2] at Ir7
        rw [e1] at Iq7
        clear e1 e2 hM hb0 ha0
        have ⟨xSa, ySa, _, _, _⟩ := Sa7
        have ⟨xSb, ySb, _, _, _⟩ := Sb7
        have ⟨k0, k1, _, _, _⟩ := Sq7
        have ⟨k2, k3, _, _, _⟩ := Sr7
        have ⟨l0, l1, l2, l3, _⟩ := R7
        have ⟨m0, m1, m2, m3, _⟩ := S7
        have hfin := (RetDM.stored Iq7 Ir7 (Below.refl _ _) B7 (Below.refl _ _) HG R7 S7).drew
        go_wp2_with fail
        go_region
        go_wp2_with fail
        exact bodyPost_ret (v := .tuple #[.agg #[.bool _, .slice _ _ _], .agg #[.bool _, .slice _ _ _], .int .i64 0]) (by simp [results, Tryd.results22, go_sem, l0, l1, m0, m1]) rfl hfin
      · have hgb : gb = false := by rw [HGB.out]; simp; omega
        subst hgb
        have e1 : -((Q + 1 : Nat) : Int) = a / b := by rw [hM.1, HQ.out, decide_eq_false (by omega)]; rfl
        have E1 := Lib.hid e1
        have e2 : ((b.natAbs : Nat) : Int) - ((R : Nat) : Int) = a % b := by rw [hM.2, ← HR.out, Int.natCast_sub HRB.out]
        rw [e2] at Ir7
        clear e1 e2 hM hb0 ha0
        have ⟨xSa, ySa, _, _, _⟩ := Sa7
        have ⟨xSb, ySb, _, _, _⟩ := Sb7
        have ⟨xSq, ySq, _, _, _⟩ := Sq7
        go_wp2_with fail
        (with_reducible refine (rneg_z _ _ _ _ _ Iq7 ZQ1).mono ?_)
        rintro e wn ⟨gn, An, nn, cn, rfl, hin, hbn⟩
        rw [E1.out] at hin
        clear xSa ySa xSb ySb xSq ySq
        have Sa_4 := Sa7.after hbn
        have Sb_4 := Sb7.after hbn
        have R_4 := R7.after hbn
        have S_4 := S7.after hbn
        have Sq_4 := Sq7.after hbn
        have Sr_4 := Sr7.after hbn
        have B_4 := B7.trans (hbn.mono B7.size)
        have Iq_4 := Iq7.below hbn
        have Ir_4 := Ir7.below hbn
        clear Sa7 Sb7 R7 S7 Sq7 Sr7 B7 Iq7 Ir7
        have ⟨p0, p1, p2, p3, _⟩ := Sq_4
        have Rn := R_4.far2 (g' := g7) (by omega) (.bool gn) (.slice An nn cn)
        have Sn := S_4.far2 (g' := g7) (by omega) (.bool gn) (.slice An nn cn)
        have Srn := Sr_4.far2 (g' := g7) (by omega) (.bool gn) (.slice An nn cn)
        have Sqn := Sq_4.set2 (.bool gn) (.slice An nn cn)
        have Irn := Ir_4.set2 Sq_4 rfl rfl (.bool gn) (.slice An nn cn)
        have Iqn := hin.set2 Sq_4 rfl rfl (.bool gn) (.slice An nn cn)
        have Bn := Below.set2 B_4 (show w.heap.size ≤ g7 by omega) (.bool gn) (.slice An nn cn)
        go_wp2_with fail
        generalize (wn.setCell ⟨g7, 0, none⟩ (.bool gn)).setCell ⟨g7, 1, none⟩ (.slice An nn cn) = Wn at *
        clear p0 p1 p2 p3
        have ⟨k0, k1, _, _, _⟩ := Sqn
        have ⟨k2, k3, _, _, _⟩ := Srn
        have ⟨l0, l1, l2, l3, _⟩ := Rn
        have ⟨m0, m1, m2, m3, _⟩ := Sn
        have hfin := (RetDM.stored Iqn Irn (Below.refl _ _) Bn (Below.refl _ _) HG Rn Sn).drew
        go_wp2_with fail
        go_region
        go_wp2_with fail
        exact bodyPost_ret (v := .tuple #[.agg #[.bool _, .slice _ _ _], .agg #[.bool _, .slice _ _ _], .int .i64 0]) (by simp [results, Tryd.results22, go_sem, l0, l1, m0, m1]) rfl hfin
  · have hga : ga = false := by rw [HGA.out]; simp; omega
    subst hga
    have hM := dm_a a b HB0.out ha0
    rcases Int.lt_or_le b 0 with hb0 | hb0
    · have hgb : gb = true := by rw [HGB.out]; simp; omega
      subst hgb
      have e1 : -((Q : Nat) : Int) = a / b := by rw [hM.1, HQ.out, decide_eq_true (by omega)]; rfl
      have E1 := Lib.hid e1
      have e2 : ((R : Nat) : Int) = a % b := by rw [hM.2, HR.out]
      rw [e2] at Ir
      clear e1 e2 hM hb0 ha0
      have ⟨xSa, ySa, _, _, _⟩ := Sa4
      have ⟨xSb, ySb, _, _, _⟩ := Sb4
      have ⟨xSq, ySq, _, _, _⟩ := Sq
      go_wp2_with fail
      (with_reducible refine (rneg_z _ _ _ _ _ Iq ZQ).mono ?_)
      rintro e wn ⟨gn, An, nn, cn, rfl, hin, hbn⟩
      rw [E1.out] at hin
      clear xSa ySa xSb ySb xSq ySq
      have Sa_5 := Sa4.after hbn
      have Sb_5 := Sb4.after hbn
      have R_5 := R4.after hbn
      have S_5 := S4.after hbn
      have Sq_5 := Sq.after hbn
      have Sr_5 := Sr.after hbn
      have B_5 := B4.trans (hbn.mono B4.size)
      have Iq_5 := Iq.below hbn
      have Ir_5 := Ir.below hbn
      clear Sa4 Sb4 R4 S4 Sq Sr B4 Iq Ir
      have ⟨p0, p1, p2, p3, _⟩ := Sq_5
      have Rn := R_5.far2 (g' := g7) (by omega) (.bool gn) (.slice An nn cn)
      have Sn := S_5.far2 (g' := g7) (by omega) (.bool gn) (.slice An nn cn)
      have Srn := Sr_5.far2 (g' := g7) (by omega) (.bool gn) (.slice An nn cn)
      have Sqn := Sq_5.set2 (.bool gn) (.slice An nn cn)
      have Irn := Ir_5.set2 Sq_5 rfl rfl (.bool gn) (.slice An nn cn)
      have Iqn := hin.set2 Sq_5 rfl rfl (.bool gn) (.slice An nn cn)
      have Bn := Below.set2 B_5 (show w.heap.size ≤ g7 by omega) (.bool gn) (.slice An nn cn)
      go_wp2_with fail
      generalize (wn.setCell ⟨g7, 0, none⟩ (.bool gn)).setCell ⟨g7, 1, none⟩ (.slice An nn cn) = Wn at *
      clear p0 p1 p2 p3
      have ⟨k0, k1, _, _, _⟩ := Sqn
      have ⟨k2, k3, _, _, _⟩ := Srn
      have ⟨l0, l1, l2, l3, _⟩ := Rn
      have ⟨m0, m1, m2, m3, _⟩ := Sn
      have hfin := (RetDM.stored Iqn Irn (Below.refl _ _) Bn (Below.refl _ _) HG Rn Sn).drew
      go_wp2_with fail
      go_region
      go_wp2_with fail
      exact bodyPost_ret (v := .tuple #[.agg #[.bool _, .slice _ _ _], .agg #[.bool _, .slice _ _ _], .int .i64 0]) (by simp [results, Tryd.results22, go_sem, l0, l1, m0, m1]) rfl hfin
    · have hgb : gb = false := by rw [HGB.out]; simp; omega
      subst hgb
      have e1 : ((Q : Nat) : Int) = a / b := by rw [hM.1, HQ.out, decide_eq_false (by omega)]; rfl
      have E1 := Lib.hid e1
      have e2 : ((R : Nat) : Int) = a % b := by rw [hM.2, HR.out]
      rw [e2] at Ir
      rw [e1] at Iq
      clear e1 e2 hM hb0 ha0
      have ⟨xSa, ySa, _, _, _⟩ := Sa4
      have ⟨xSb, ySb, _, _, _⟩ := Sb4
      have ⟨k0, k1, _, _, _⟩ := Sq
      have ⟨k2, k3, _, _, _⟩ := Sr
      have ⟨l0, l1, l2, l3, _⟩ := R4
      have ⟨m0, m1, m2, m3, _⟩ := S4
      have hfin := (RetDM.stored Iq Ir (Below.refl _ _) B4 (Below.refl _ _) HG R4 S4).drew
      go_wp2_with fail
      go_region
      go_wp2_with fail
      exact bodyPost_ret (v := .tuple #[.agg #[.bool _, .slice _ _ _], .agg #[.bool _, .slice _ _ _], .int .i64 0]) (by simp [results, Tryd.results22, go_sem, l0, l1, m0, m1]) rfl hfin
end Go.Proofs.YtclmenpclkmfeaaDoor
namespace Go.Proofs.YtclmenpclkmfeaaDoor
open Go.RowKit
/-- The value of a fraction. -/
def ratv (gn : Bool) (An : Option Addr) (nn cn : Nat) (gd : Bool) (Ad : Option Addr) (nd cd : Nat) : Value := .agg #[.bool gn, .slice An nn cn, .bool gd, .slice Ad nd cd]
structure IsRat (w : World) (gn : Bool) (An : Option Addr) (nn cn : Nat) (gd : Bool) (Ad : Option Addr) (nd cd : Nat) (q : Rat) : Prop where
  num : IsInt w gn An nn cn q.num
  den : IsInt w gd Ad nd cd (q.den : Int)
theorem IsRat.below {w w' : World} {gn : Bool} {An : Option Addr} {nn cn : Nat} {gd : Bool} {Ad : Option Addr} {nd cd : Nat} {q : Rat} (h : IsRat w gn An nn cn gd Ad nd cd q) (hb : Below w.heap.size w w') : IsRat w' gn An nn cn gd Ad nd cd q := ⟨h.num.below hb, h.den.below hb⟩
def RetRat (w : World) (q : Rat) (e : Ending) (w' : World) : Prop := ∃ gn An nn cn gd Ad nd cd, e = .returned (.agg #[.bool gn, .slice An nn cn, .bool gd, .slice Ad nd cd]) ∧ IsRat w' gn An nn cn gd Ad nd cd q ∧ Below w.heap.size w w'
/-- A fraction and an error code; with an error both parts are the zero struct. -/
def RetRatE (w : World) (q : Rat) (code : Int) (e : Ending) (w' : World) : Prop := ∃ gn An nn cn gd Ad nd cd, e = .returned (.tuple #[.agg #[.bool gn, .slice An nn cn, .bool gd, .slice Ad nd cd], .int .i64 code]) ∧ IsRat w' gn An nn cn gd Ad nd cd q ∧ Below w.heap.size w w'
/-- Four cells of a block: a fraction in memory. -/
def Slot4 (w : World) (g : Nat) (a0 a1 a2 a3 : Value) : Prop :=
  w.cell? ⟨g, 0, none⟩ = some a0 ∧ w.cell? ⟨g, 1, none⟩ = some a1 ∧ w.cell? ⟨g, 2, none⟩ = some a2 ∧ w.cell? ⟨g, 3, none⟩ = some a3 ∧
  w.frozen? ⟨g, 0, none⟩ = false ∧ w.frozen? ⟨g, 1, none⟩ = false ∧ w.frozen? ⟨g, 2, none⟩ = false ∧ w.frozen? ⟨g, 3, none⟩ = false ∧ g < w.heap.size
theorem Slot4.new (w : World) (a0 a1 a2 a3 : Value) (t : TypeId) : Slot4 (w.alloc (.cells #[a0, a1, a2, a3] t)) w.heap.size a0 a1 a2 a3 := by
  refine ⟨?_, ?_, ?_, ?_, ?_, ?_, ?_, ?_, ?_⟩ <;> simp
theorem Slot4.after {w w' : World} {g : Nat} {a0 a1 a2 a3 : Value} (h : Slot4 w g a0 a1 a2 a3) (hb : Below w.heap.size w w') : Slot4 w' g a0 a1 a2 a3 := by
  obtain ⟨h0, h1, h2, h3, k0, k1, k2, k3, hl⟩ := h
  exact ⟨(hb.cell (p := ⟨g, 0, none⟩) hl).trans h0, (hb.cell (p := ⟨g, 1, none⟩) hl).trans h1, (hb.cell (p := ⟨g, 2, none⟩) hl).trans h2, (hb.cell (p := ⟨g, 3, none⟩) hl).trans h3,
    (hb.frozen (p := ⟨g, 0, none⟩) hl).trans k0, (hb.frozen (p := ⟨g, 1, none⟩) hl).trans k1, (hb.frozen (p := ⟨g, 2, none⟩) hl).trans k2, (hb.frozen (p := ⟨g, 3, none⟩) hl).trans k3, Nat.lt_of_lt_of_le hl hb.size⟩
theorem Slot4.alloc {w : World} {g : Nat} {a0 a1 a2 a3 : Value} (h : Slot4 w g a0 a1 a2 a3) (o : Obj) : Slot4 (w.alloc o) g a0 a1 a2 a3 := h.after ((Below.refl _ _).alloc (Nat.le_refl _) o)
theorem Slot4.far {w : World} {g g' i : Nat} {a0 a1 a2 a3 : Value} (h : Slot4 w g a0 a1 a2 a3) (hne : g ≠ g') (u : Value) : Slot4 (w.setCell ⟨g', i, none⟩ u) g a0 a1 a2 a3 := by
  have e := Below.heap_setCell w ⟨g', i, none⟩ u g hne
  obtain ⟨h0, h1, h2, h3, k0, k1, k2, k3, hl⟩ := h
  exact ⟨(World.cell?_of_block (w := w) (a := ⟨g, 0, none⟩) e).trans h0, (World.cell?_of_block (w := w) (a := ⟨g, 1, none⟩) e).trans h1, (World.cell?_of_block (w := w) (a := ⟨g, 2, none⟩) e).trans h2, (World.cell?_of_block (w := w) (a := ⟨g, 3, none⟩) e).trans h3,
    (World.frozen?_of_block (w := w) (a := ⟨g, 0, none⟩) e).trans k0, (World.frozen?_of_block (w := w) (a := ⟨g, 1, none⟩) e).trans k1, (World.frozen?_of_block (w := w) (a := ⟨g, 2, none⟩) e).trans k2, (World.frozen?_of_block (w := w) (a := ⟨g, 3, none⟩) e).trans k3, by simp only [World.setCell, Array.size_modify]; exact hl⟩
theorem Slot4.far2 {w : World} {g g' : Nat} {a0 a1 a2 a3 : Value} (h : Slot4 w g a0 a1 a2 a3) (hne : g ≠ g') (u v : Value) : Slot4 ((w.setCell ⟨g', 0, none⟩ u).setCell ⟨g', 1, none⟩ v) g a0 a1 a2 a3 := (h.far hne u).far hne v
/-- A store of a whole fraction over an old one leaves the limbs alone. -/
theorem IsInt.stored4 {w : World} {neg : Bool} {A : Option Addr} {n c : Nat} {z : Int} (h : IsInt w neg A n c z) {g : Nat} {a0 a1 a2 a3 : Value} (hs : Slot4 w g a0 a1 a2 a3) (n0 : noLimb a0 = true) (n1 : noLimb a1 = true) (n2 : noLimb a2 = true) (n3 : noLimb a3 = true) (u0 u1 u2 u3 : Value) :
    IsInt ((((w.setCell ⟨g, 0, none⟩ u0).setCell ⟨g, 1, none⟩ u1).setCell ⟨g, 2, none⟩ u2).setCell ⟨g, 3, none⟩ u3) neg A n c z := by
  obtain ⟨h0, h1, h2, h3, _⟩ := hs
  have e1 : (w.setCell ⟨g, 0, none⟩ u0).cell? ⟨g, 1, none⟩ = some a1 := by rw [World.cell?_setCell_other _ _ _ _ (by simp), h1]
  have e2 : ((w.setCell ⟨g, 0, none⟩ u0).setCell ⟨g, 1, none⟩ u1).cell? ⟨g, 2, none⟩ = some a2 := by rw [World.cell?_setCell_other _ _ _ _ (by simp), World.cell?_setCell_other _ _ _ _ (by simp), h2]
  have e3 : (((w.setCell ⟨g, 0, none⟩ u0).setCell ⟨g, 1, none⟩ u1).setCell ⟨g, 2, none⟩ u2).cell? ⟨g, 3, none⟩ = some a3 := by rw [World.cell?_setCell_other _ _ _ _ (by simp), World.cell?_setCell_other _ _ _ _ (by simp), World.cell?_setCell_other _ _ _ _ (by simp), h3]
  have := (((h.lim.setOther h0 n0 u0).setOther e1 n1 u1).setOther e2 n2 u2).setOther e3 n3 u3
  exact ⟨h.sign, this.more (by simp [World.setCell])⟩
/-- What the four cells hold behind a store of a whole fraction, each in the form that the walk leaves. -/
theorem Slot4.set4e {w : World} {g : Nat} {a0 a1 a2 a3 : Value} (hs : Slot4 w g a0 a1 a2 a3) (u0 u1 u2 u3 : Value) :
    (w.setCell ⟨g, 0, none⟩ u0).cell? ⟨g, 0, none⟩ = some u0 ∧ ((w.setCell ⟨g, 0, none⟩ u0).setCell ⟨g, 1, none⟩ u1).cell? ⟨g, 1, none⟩ = some u1 ∧
    (((w.setCell ⟨g, 0, none⟩ u0).setCell ⟨g, 1, none⟩ u1).setCell ⟨g, 2, none⟩ u2).cell? ⟨g, 2, none⟩ = some u2 ∧ ((((w.setCell ⟨g, 0, none⟩ u0).setCell ⟨g, 1, none⟩ u1).setCell ⟨g, 2, none⟩ u2).setCell ⟨g, 3, none⟩ u3).cell? ⟨g, 3, none⟩ = some u3 := by
  obtain ⟨h0, h1, h2, h3, _⟩ := hs
  have e1 : (w.setCell ⟨g, 0, none⟩ u0).cell? ⟨g, 1, none⟩ = some a1 := by rw [World.cell?_setCell_other _ _ _ _ (by simp), h1]
  have e2 : ((w.setCell ⟨g, 0, none⟩ u0).setCell ⟨g, 1, none⟩ u1).cell? ⟨g, 2, none⟩ = some a2 := by rw [World.cell?_setCell_other _ _ _ _ (by simp), World.cell?_setCell_other _ _ _ _ (by simp), h2]
  have e3 : (((w.setCell ⟨g, 0, none⟩ u0).setCell ⟨g, 1, none⟩ u1).setCell ⟨g, 2, none⟩ u2).cell? ⟨g, 3, none⟩ = some a3 := by rw [World.cell?_setCell_other _ _ _ _ (by simp), World.cell?_setCell_other _ _ _ _ (by simp), World.cell?_setCell_other _ _ _ _ (by simp), h3]
  exact ⟨World.cell?_setCell_same _ _ _ h0, World.cell?_setCell_same _ _ _ e1, World.cell?_setCell_same _ _ _ e2, World.cell?_setCell_same _ _ _ e3⟩
end Go.Proofs.YtclmenpclkmfeaaDoor
namespace Go.Proofs.YtclmenpclkmfeaaDoor
open Go.RowKit
/-- A quotient that need not be in lowest terms. -/
def RetFr (w : World) (n d : Int) (e : Ending) (w' : World) : Prop := ∃ gn An nn cn gd Ad nd cd, e = .returned (.agg #[.bool gn, .slice An nn cn, .bool gd, .slice Ad nd cd]) ∧ IsInt w' gn An nn cn n ∧ IsInt w' gd Ad nd cd d ∧ Below w.heap.size w w'
/-- Four stores. -/
def set4 (w : World) (g : Nat) (u0 u1 u2 u3 : Value) : World := (((w.setCell ⟨g, 0, none⟩ u0).setCell ⟨g, 1, none⟩ u1).setCell ⟨g, 2, none⟩ u2).setCell ⟨g, 3, none⟩ u3
theorem Slot4.far4 {w : World} {g g' : Nat} {a0 a1 a2 a3 : Value} (h : Slot4 w g a0 a1 a2 a3) (hne : g ≠ g') (u0 u1 u2 u3 : Value) : Slot4 ((((w.setCell ⟨g', 0, none⟩ u0).setCell ⟨g', 1, none⟩ u1).setCell ⟨g', 2, none⟩ u2).setCell ⟨g', 3, none⟩ u3) g a0 a1 a2 a3 := (((h.far hne u0).far hne u1).far hne u2).far hne u3
theorem Slot2.far4 {w : World} {g g' : Nat} {a0 a1 : Value} (h : Slot2 w g a0 a1) (hne : g ≠ g') (u0 u1 u2 u3 : Value) : Slot2 ((((w.setCell ⟨g', 0, none⟩ u0).setCell ⟨g', 1, none⟩ u1).setCell ⟨g', 2, none⟩ u2).setCell ⟨g', 3, none⟩ u3) g a0 a1 := by
  have e0 := Below.heap_setCell w ⟨g', 0, none⟩ u0 g hne
  have e1 := Below.heap_setCell (w.setCell ⟨g', 0, none⟩ u0) ⟨g', 1, none⟩ u1 g hne
  have e2 := Below.heap_setCell ((w.setCell ⟨g', 0, none⟩ u0).setCell ⟨g', 1, none⟩ u1) ⟨g', 2, none⟩ u2 g hne
  have e3 := Below.heap_setCell (((w.setCell ⟨g', 0, none⟩ u0).setCell ⟨g', 1, none⟩ u1).setCell ⟨g', 2, none⟩ u2) ⟨g', 3, none⟩ u3 g hne
  have e := e3.trans (e2.trans (e1.trans e0))
  obtain ⟨h0, h1, k0, k1, hl⟩ := h
  exact ⟨(World.cell?_of_block (w := w) (a := ⟨g, 0, none⟩) e).trans h0, (World.cell?_of_block (w := w) (a := ⟨g, 1, none⟩) e).trans h1,
    (World.frozen?_of_block (w := w) (a := ⟨g, 0, none⟩) e).trans k0, (World.frozen?_of_block (w := w) (a := ⟨g, 1, none⟩) e).trans k1, by simp only [World.setCell, Array.size_modify]; exact hl⟩
theorem Slot4.drew {w : World} {g : Nat} {a0 a1 a2 a3 : Value} (h : Slot4 w g a0 a1 a2 a3) : Slot4 w.drew g a0 a1 a2 a3 := h.after (Below.refl _ _).drew
theorem Slot4.cells {w : World} {g : Nat} {a0 a1 a2 a3 : Value} (h : Slot4 w g a0 a1 a2 a3) : w.cell? ⟨g, 0, none⟩ = some a0 ∧ w.cell? ⟨g, 1, none⟩ = some a1 ∧ w.cell? ⟨g, 2, none⟩ = some a2 ∧ w.cell? ⟨g, 3, none⟩ = some a3 :=
  ⟨h.1, h.2.1, h.2.2.1, h.2.2.2.1⟩
theorem Slot4.near4 {w : World} {g : Nat} {a0 a1 a2 a3 : Value} (hs : Slot4 w g a0 a1 a2 a3) (u0 u1 u2 u3 : Value) : Slot4 ((((w.setCell ⟨g, 0, none⟩ u0).setCell ⟨g, 1, none⟩ u1).setCell ⟨g, 2, none⟩ u2).setCell ⟨g, 3, none⟩ u3) g u0 u1 u2 u3 := by
  obtain ⟨h0, h1, h2, h3, k0, k1, k2, k3, hl⟩ := hs
  have e1 : (w.setCell ⟨g, 0, none⟩ u0).cell? ⟨g, 1, none⟩ = some a1 := by rw [World.cell?_setCell_other _ _ _ _ (by simp), h1]
  have e2 : ((w.setCell ⟨g, 0, none⟩ u0).setCell ⟨g, 1, none⟩ u1).cell? ⟨g, 2, none⟩ = some a2 := by rw [World.cell?_setCell_other _ _ _ _ (by simp), World.cell?_setCell_other _ _ _ _ (by simp), h2]
  have e3 : (((w.setCell ⟨g, 0, none⟩ u0).setCell ⟨g, 1, none⟩ u1).setCell ⟨g, 2, none⟩ u2).cell? ⟨g, 3, none⟩ = some a3 := by rw [World.cell?_setCell_other _ _ _ _ (by simp), World.cell?_setCell_other _ _ _ _ (by simp), World.cell?_setCell_other _ _ _ _ (by simp), h3]
  refine ⟨?_, ?_, ?_, World.cell?_setCell_same _ _ _ e3, ?_, ?_, ?_, ?_, by simp only [World.setCell, Array.size_modify]; exact hl⟩
  · rw [World.cell?_setCell_other _ _ _ _ (by simp), World.cell?_setCell_other _ _ _ _ (by simp), World.cell?_setCell_other _ _ _ _ (by simp)]; exact World.cell?_setCell_same _ _ _ h0
  · rw [World.cell?_setCell_other _ _ _ _ (by simp), World.cell?_setCell_other _ _ _ _ (by simp)]; exact World.cell?_setCell_same _ _ _ e1
  · rw [World.cell?_setCell_other _ _ _ _ (by simp)]; exact World.cell?_setCell_same _ _ _ e2
  all_goals simp [k0, k1, k2, k3]
theorem Below.set4 {B : Nat} {w0 w : World} (h : Below B w0 w) {g : Nat} (hg : B ≤ g) (u0 u1 u2 u3 : Value) : Below B w0 ((((w.setCell ⟨g, 0, none⟩ u0).setCell ⟨g, 1, none⟩ u1).setCell ⟨g, 2, none⟩ u2).setCell ⟨g, 3, none⟩ u3) := (((h.setCell hg _).setCell hg _).setCell hg _).setCell hg _
theorem IsRat.stored4 {w : World} {gn gd : Bool} {An Ad : Option Addr} {nn cn nd cd : Nat} {q : Rat} (h : IsRat w gn An nn cn gd Ad nd cd q) {g : Nat} {a0 a1 a2 a3 : Value} (hs : Slot4 w g a0 a1 a2 a3) (n0 : noLimb a0 = true) (n1 : noLimb a1 = true) (n2 : noLimb a2 = true) (n3 : noLimb a3 = true) (u0 u1 u2 u3 : Value) :
    IsRat ((((w.setCell ⟨g, 0, none⟩ u0).setCell ⟨g, 1, none⟩ u1).setCell ⟨g, 2, none⟩ u2).setCell ⟨g, 3, none⟩ u3) gn An nn cn gd Ad nd cd q := ⟨h.num.stored4 hs n0 n1 n2 n3 _ _ _ _, h.den.stored4 hs n0 n1 n2 n3 _ _ _ _⟩
/-- Two fractions as parameters and one as a result. -/
theorem frameQ3 (w : World) (a0 a1 a2 a3 b0 b1 b2 b3 : Value) (t1 t2 t3 : TypeId) :
    Below w.heap.size w (((w.alloc (.cells #[a0, a1, a2, a3] t1)).alloc (.cells #[b0, b1, b2, b3] t2)).alloc (.cells #[.bool false, .slice none 0 0, .bool false, .slice none 0 0] t3)) ∧
    Slot4 (((w.alloc (.cells #[a0, a1, a2, a3] t1)).alloc (.cells #[b0, b1, b2, b3] t2)).alloc (.cells #[.bool false, .slice none 0 0, .bool false, .slice none 0 0] t3)) w.heap.size a0 a1 a2 a3 ∧
    Slot4 (((w.alloc (.cells #[a0, a1, a2, a3] t1)).alloc (.cells #[b0, b1, b2, b3] t2)).alloc (.cells #[.bool false, .slice none 0 0, .bool false, .slice none 0 0] t3)) (w.heap.size + 1) b0 b1 b2 b3 ∧
    Slot4 (((w.alloc (.cells #[a0, a1, a2, a3] t1)).alloc (.cells #[b0, b1, b2, b3] t2)).alloc (.cells #[.bool false, .slice none 0 0, .bool false, .slice none 0 0] t3)) (w.heap.size + 1 + 1) (.bool false) (.slice none 0 0) (.bool false) (.slice none 0 0) := by
  have b1' := (Below.refl w.heap.size w).alloc (Nat.le_refl _) (.cells #[a0, a1, a2, a3] t1)
  have b2' := b1'.alloc b1'.size (.cells #[b0, b1, b2, b3] t2)
  have b3' := b2'.alloc b2'.size (.cells #[.bool false, .slice none 0 0, .bool false, .slice none 0 0] t3)
  have Q := (Slot4.new (w.alloc (.cells #[a0, a1, a2, a3] t1)) b0 b1 b2 b3 t2).alloc (.cells #[.bool false, .slice none 0 0, .bool false, .slice none 0 0] t3)
  have R := Slot4.new ((w.alloc (.cells #[a0, a1, a2, a3] t1)).alloc (.cells #[b0, b1, b2, b3] t2)) (.bool false) (.slice none 0 0) (.bool false) (.slice none 0 0) t3
  simp only [World.size_alloc] at Q R
  exact ⟨b3', ((Slot4.new w a0 a1 a2 a3 t1).alloc _).alloc _, Q, R⟩
/-- One fraction as a parameter and one as a result. -/
theorem frameQ2 (w : World) (a0 a1 a2 a3 : Value) (t1 t3 : TypeId) :
    Below w.heap.size w ((w.alloc (.cells #[a0, a1, a2, a3] t1)).alloc (.cells #[.bool false, .slice none 0 0, .bool false, .slice none 0 0] t3)) ∧
    Slot4 ((w.alloc (.cells #[a0, a1, a2, a3] t1)).alloc (.cells #[.bool false, .slice none 0 0, .bool false, .slice none 0 0] t3)) w.heap.size a0 a1 a2 a3 ∧
    Slot4 ((w.alloc (.cells #[a0, a1, a2, a3] t1)).alloc (.cells #[.bool false, .slice none 0 0, .bool false, .slice none 0 0] t3)) (w.heap.size + 1) (.bool false) (.slice none 0 0) (.bool false) (.slice none 0 0) := by
  have b1' := (Below.refl w.heap.size w).alloc (Nat.le_refl _) (.cells #[a0, a1, a2, a3] t1)
  have b3' := b1'.alloc b1'.size (.cells #[.bool false, .slice none 0 0, .bool false, .slice none 0 0] t3)
  have R := Slot4.new (w.alloc (.cells #[a0, a1, a2, a3] t1)) (.bool false) (.slice none 0 0) (.bool false) (.slice none 0 0) t3
  simp only [World.size_alloc] at R
  exact ⟨b3', (Slot4.new w a0 a1 a2 a3 t1).alloc _, R⟩
/-- Two fractions as parameters. -/
theorem frameQ2p (w : World) (a0 a1 a2 a3 b0 b1 b2 b3 : Value) (t1 t2 : TypeId) :
    Below w.heap.size w ((w.alloc (.cells #[a0, a1, a2, a3] t1)).alloc (.cells #[b0, b1, b2, b3] t2)) ∧
    Slot4 ((w.alloc (.cells #[a0, a1, a2, a3] t1)).alloc (.cells #[b0, b1, b2, b3] t2)) w.heap.size a0 a1 a2 a3 ∧
    Slot4 ((w.alloc (.cells #[a0, a1, a2, a3] t1)).alloc (.cells #[b0, b1, b2, b3] t2)) (w.heap.size + 1) b0 b1 b2 b3 := by
  have b1' := (Below.refl w.heap.size w).alloc (Nat.le_refl _) (.cells #[a0, a1, a2, a3] t1)
  have b2' := b1'.alloc b1'.size (.cells #[b0, b1, b2, b3] t2)
  have Q := Slot4.new (w.alloc (.cells #[a0, a1, a2, a3] t1)) b0 b1 b2 b3 t2
  simp only [World.size_alloc] at Q
  exact ⟨b2', (Slot4.new w a0 a1 a2 a3 t1).alloc _, Q⟩
end Go.Proofs.YtclmenpclkmfeaaDoor
namespace Go.Proofs.YtclmenpclkmfeaaDoor
open Go.RowKit

end Go.Proofs.YtclmenpclkmfeaaDoor
namespace Go.Proofs.YtclmenpclkmfeaaDoor
open Go.RowKit
set_option maxRecDepth 1000000 in
set_option maxHeartbeats 4000000 in
theorem qof_z (gn : Bool) (An : Option Addr) (nn cn : Nat) (gd : Bool) (Ad : Option Addr) (nd cd : Nat) {k : Nat} {n d : Int} (w : World) (hn : IsInt w gn An nn cn n) (hd : IsInt w gd Ad nd cd d) (sn : Sz k n) (sd : Sz k d) (_hk : k + 1 ≤ 10000) (h0 : d ≠ 0) :
    Calls Tryd.prog 60 #[.agg #[.bool gn, .slice An nn cn], .agg #[.bool gd, .slice Ad nd cd]] w (RetRatE w (Rat.divInt n d) 0) := by
  obtain ⟨g', hg'⟩ : ∃ g' : Int, g' = if d < 0 then -((Nat.gcd n.natAbs d.natAbs : Nat) : Int) else ((Nat.gcd n.natAbs d.natAbs : Nat) : Int) := ⟨_, rfl⟩
  have hq1 := q_num n d h0
  have hq2 := q_den n d h0
  rw [← hg'] at hq1 hq2
  have hgp : 0 < Nat.gcd n.natAbs d.natAbs := Nat.gcd_pos_of_pos_right _ (by omega)
  have hgle : Nat.gcd n.natAbs d.natAbs ≤ d.natAbs := Nat.gcd_le_right _ (by omega)
  have hg0 : g' ≠ 0 := by rw [hg']; split <;> omega
  have zg : Sz k g' := Sz.of (by rw [hg']; have := sd.lt; split <;> omega) sd.le
  have b1 := (Below.refl w.heap.size w).alloc (Nat.le_refl _) (.cells #[.bool gn, .slice An nn cn] 28)
  have b2 := b1.alloc b1.size (.cells #[.bool gd, .slice Ad nd cd] 28)
  have b3 := b2.alloc b2.size (.cells #[.bool false, .slice none 0 0, .bool false, .slice none 0 0] 57)
  have P0 := ((Slot2.new w (.bool gn) (.slice An nn cn) 28).alloc (.cells #[.bool gd, .slice Ad nd cd] 28)).alloc (.cells #[.bool false, .slice none 0 0, .bool false, .slice none 0 0] 57)
  have Q0 := (Slot2.new (w.alloc (.cells #[.bool gn, .slice An nn cn] 28)) (.bool gd) (.slice Ad nd cd) 28).alloc (.cells #[.bool false, .slice none 0 0, .bool false, .slice none 0 0] 57)
  have R0 := Slot4.new ((w.alloc (.cells #[.bool gn, .slice An nn cn] 28)).alloc (.cells #[.bool gd, .slice Ad nd cd] 28)) (.bool false) (.slice none 0 0) (.bool false) (.slice none 0 0) 57
  simp only [World.size_alloc] at Q0 R0
  have In := hn.below b3
  have Id := hd.below b3
  have HG := Lib.hid hg'
  have HQ := Lib.hid (And.intro hq1 hq2)
  clear hg' hq1 hq2 hgp hgle b1 b2 hn hd
  obtain ⟨s, hs⟩ : ∃ s, sgn d = s := ⟨_, rfl⟩
  have hs0 : (s == 0) = false := by rw [← hs]; exact sgn_ne' h0
  have HS := Lib.hid hs
  clear hs
  have Jn0 := In
  have Jd0 := Id
  have B0 := b3
  clear In Id b3
  have ⟨p0, p1, _, _, _⟩ := P0
  have ⟨q0, q1, _, _, _⟩ := Q0
  go_enter Tryd.func60, Tryd.ntmps60
  go_wp2_with fail
  (with_reducible refine (sign_z gd Ad nd cd _ s Jd0 HS.out).mono ?_)
  rintro e w1 ⟨rfl, hb1⟩
  have P1 := P0.after hb1
  have Q1 := Q0.after hb1
  have R1 := R0.after hb1
  have Jn1 := Jn0.below hb1
  have Jd1 := Jd0.below hb1
  have B1 := B0.trans (hb1.mono B0.size)
  clear P0 Q0 R0 Jn0 Jd0 B0
  clear p0 p1 q0 q1
  have ⟨p0, p1, _, _, _⟩ := P1
  have ⟨q0, q1, _, _, _⟩ := Q1
  go_wp2_with fail
  (with_reducible refine (gcd_z gn gd An Ad nn cn nd cd _ Jn1 Jd1 sn sd).mono ?_)
  rintro e w2 ⟨g2, A2, n2, c2, rfl, hi2, hb2⟩
  have hb3 := hb2.trans (((Below.refl w2.heap.size w2).alloc (Nat.le_refl _) (.cells #[.bool g2, .slice A2 n2 c2] 28)).mono hb2.size)
  have G3 := Slot2.new w2 (.bool g2) (.slice A2 n2 c2) 28
  have Jg3 := hi2.below ((Below.refl w2.heap.size w2).alloc (Nat.le_refl _) (.cells #[.bool g2, .slice A2 n2 c2] 28))
  have hg6 : w.heap.size + 1 + 1 < w2.heap.size := (R1.after hb2).2.2.2.2.2.2.2.2
  have P3 := P1.after hb3
  have Q3 := Q1.after hb3
  have R3 := R1.after hb3
  have Jn3 := Jn1.below hb3
  have Jd3 := Jd1.below hb3
  have B3 := B1.trans (hb3.mono B1.size)
  clear P1 Q1 R1 Jn1 Jd1 B1
  clear p0 p1 q0 q1 hb1 hb2 hb3 hi2
  have ⟨q0, q1, _, _, _⟩ := Q3
  generalize hW : w2.alloc (.cells #[.bool g2, .slice A2 n2 c2] 28) = W3 at *
  go_wp2_with fail
  try rw [hW]
  clear hW
  (with_reducible refine (sign_z gd Ad nd cd _ s Jd3 HS.out).mono ?_)
  rintro e w4 ⟨rfl, hb4⟩
  have P4 := P3.after hb4
  have Q4 := Q3.after hb4
  have R4 := R3.after hb4
  have G4 := G3.after hb4
  have Jn4 := Jn3.below hb4
  have Jd4 := Jd3.below hb4
  have Jg4 := Jg3.below hb4
  have B4 := B3.trans (hb4.mono B3.size)
  clear P3 Q3 R3 G3 Jn3 Jd3 Jg3 B3
  clear q0 q1 hb4
  have ⟨q0, q1, _, _, _⟩ := Q4
  by_cases hdn : d < 0
  · have hs1 : s < 0 := by rw [← HS.out]; unfold sgn; rw [if_pos hdn]; decide
    have ⟨g0, g1, g3, g4, _⟩ := G4
    have hgg : g' = -((Nat.gcd n.natAbs d.natAbs : Nat) : Int) := by rw [HG.out, if_pos hdn]
    have HGG := Lib.hid hgg
    have zgg : Sz k ((Nat.gcd n.natAbs d.natAbs : Nat) : Int) := by have := zg.neg; rw [hgg, Int.neg_neg] at this; exact this
    clear hgg hdn
    go_wp2_with fail
    (with_reducible refine (neg_z g2 A2 n2 c2 _ Jg4 zgg).mono ?_)
    rintro e w5 ⟨gG, AG, nG, cG, rfl, hi5, hb5⟩
    rw [← HGG.out] at hi5
    have P5 := P4.after hb5
    have Q5 := Q4.after hb5
    have R5 := R4.after hb5
    have G5 := G4.after hb5
    have Jn5 := Jn4.below hb5
    have Jd5 := Jd4.below hb5
    have B5 := B4.trans (hb5.mono B4.size)
    clear P4 Q4 R4 G4 Jn4 Jd4 B4
    have ⟨h0', h1', h2', h3', _⟩ := G5
    have P5' := P5.far2 (g' := w2.heap.size) (by omega) (.bool gG) (.slice AG nG cG)
    have Q5' := Q5.far2 (g' := w2.heap.size) (by omega) (.bool gG) (.slice AG nG cG)
    have R5' := R5.far2 (g' := w2.heap.size) (by omega) (.bool gG) (.slice AG nG cG)
    have G5' := G5.set2 (.bool gG) (.slice AG nG cG)
    have Jn5' := Jn5.stored h0' h1' rfl rfl (.bool gG) (.slice AG nG cG)
    have Jd5' := Jd5.stored h0' h1' rfl rfl (.bool gG) (.slice AG nG cG)
    have Jg5' := hi5.stored h0' h1' rfl rfl (.bool gG) (.slice AG nG cG)
    have B5' := (B5.setCell (p := ⟨w2.heap.size, 0, none⟩) (by simp; omega) (.bool gG)).setCell (p := ⟨w2.heap.size, 1, none⟩) (by simp; omega) (.slice AG nG cG)
    clear P5 Q5 R5 G5 Jn5 Jd5 hi5 B5 q0 q1 g0 g1 g3 g4 hb5
    have ⟨q0, q1, _, _, _⟩ := Q5'
    have ⟨p0, p1, _, _, _⟩ := P5'
    have ⟨g0, g1, _, _, _⟩ := G5'
    go_wp2_with fail
    (with_reducible refine (dm_z gn gG An AG nn cn nG cG _ Jn5' Jg5' sn zg hg0).mono ?_)
    rintro e w6 ⟨g5, A5, n5, c5, g6, A6, n6, c6, rfl, hi5, hi6, hb6⟩
    rw [HQ.out.1] at hi5
    have b7 := (Below.refl w6.heap.size w6).alloc (Nat.le_refl _) (.cells #[.bool g5, .slice A5 n5 c5] 28)
    have b8 := b7.alloc b7.size (.cells #[.bool g6, .slice A6 n6 c6] 28)
    have hb8 := hb6.trans (b8.mono hb6.size)
    have X8 := (Slot2.new w6 (.bool g5) (.slice A5 n5 c5) 28).alloc (.cells #[.bool g6, .slice A6 n6 c6] 28)
    have Jx8 := hi5.below b8
    have hx9 : w.heap.size + 1 + 1 < w6.heap.size := (R5'.after hb6).2.2.2.2.2.2.2.2
    have P8 := P5'.after hb8
    have Q8 := Q5'.after hb8
    have R8 := R5'.after hb8
    have G8 := G5'.after hb8
    have Jn8 := Jn5'.below hb8
    have Jd8 := Jd5'.below hb8
    have Jg8 := Jg5'.below hb8
    have B8 := B5'.trans (hb8.mono B5'.size)
    clear P5' Q5' R5' G5' Jn5' Jd5' Jg5' B5'
    clear p0 p1 g0 g1 q0 q1 b7 b8 hb6 hb8 hi5 hi6
    have ⟨q0, q1, _, _, _⟩ := Q8
    have ⟨g0, g1, _, _, _⟩ := G8
    generalize hW : (w6.alloc (.cells #[.bool g5, .slice A5 n5 c5] 28)).alloc (.cells #[.bool g6, .slice A6 n6 c6] 28) = W8 at *
    go_wp2_with fail
    try rw [hW]
    clear hW
    (with_reducible refine (dm_z gd gG Ad AG nd cd nG cG _ Jd8 Jg8 sd zg hg0).mono ?_)
    rintro e w9 ⟨g9, A9, n9, c9, g10, A10, n10, c10, rfl, hi9, hi10, hb9⟩
    rw [HQ.out.2] at hi9
    have b11 := (Below.refl w9.heap.size w9).alloc (Nat.le_refl _) (.cells #[.bool g9, .slice A9 n9 c9] 28)
    have b12 := b11.alloc b11.size (.cells #[.bool g10, .slice A10 n10 c10] 28)
    have hb12 := hb9.trans (b12.mono hb9.size)
    have Y12 := (Slot2.new w9 (.bool g9) (.slice A9 n9 c9) 28).alloc (.cells #[.bool g10, .slice A10 n10 c10] 28)
    have Jy12 := hi9.below b12
    have X12 := X8.after hb12
    have Jx12 := Jx8.below hb12
    have R12 := R8.after hb12
    have B12 := B8.trans (hb12.mono B8.size)
    clear q0 q1 g0 g1 b11 b12 hb9 hb12 hi9 hi10 X8 Jx8 R8 B8 Q8 G8 P8 Jn8 Jd8 Jg8
    have ⟨x0, x1, _, _, _⟩ := X12
    have ⟨y0, y1, _, _, _⟩ := Y12
    have ⟨r0, r1, r2, r3, k0, k1, k2, k3, _⟩ := R12
    generalize hW : (w9.alloc (.cells #[.bool g9, .slice A9 n9 c9] 28)).alloc (.cells #[.bool g10, .slice A10 n10 c10] 28) = W12 at *
    go_wp2
    try rw [hW]
    clear hW
    refine bodyPost_ret (v := .tuple #[.agg #[.bool g5, .slice A5 n5 c5, .bool g9, .slice A9 n9 c9], .int .i64 0]) (by obtain ⟨v0, v1, v2, v3⟩ := R12.set4e (.bool g5) (.slice A5 n5 c5) (.bool g9) (.slice A9 n9 c9); simp [results, Tryd.results60, go_sem, v0, v1, v2, v3]) rfl ⟨_, _, _, _, _, _, _, _, rfl, ⟨Jx12.stored4 R12 rfl rfl rfl rfl _ _ _ _, Jy12.stored4 R12 rfl rfl rfl rfl _ _ _ _⟩, ?_⟩
    exact (((B12.setCell (by simp; omega) _).setCell (by simp; omega) _).setCell (by simp; omega) _).setCell (by simp; omega) _
  · have hs1 : ¬ s < 0 := by rw [← HS.out]; unfold sgn; rw [if_neg hdn]; split <;> omega
    have hgg : g' = ((Nat.gcd n.natAbs d.natAbs : Nat) : Int) := by rw [HG.out, if_neg hdn]
    rw [← hgg] at Jg4
    clear hgg hdn
    have ⟨p0, p1, _, _, _⟩ := P4
    have ⟨g0, g1, _, _, _⟩ := G4
    go_wp2_with fail
    (with_reducible refine (dm_z gn g2 An A2 nn cn n2 c2 _ Jn4 Jg4 sn zg hg0).mono ?_)
    rintro e w6 ⟨g5, A5, n5, c5, g6, A6, n6, c6, rfl, hi5, hi6, hb6⟩
    rw [HQ.out.1] at hi5
    have b7 := (Below.refl w6.heap.size w6).alloc (Nat.le_refl _) (.cells #[.bool g5, .slice A5 n5 c5] 28)
    have b8 := b7.alloc b7.size (.cells #[.bool g6, .slice A6 n6 c6] 28)
    have hb8 := hb6.trans (b8.mono hb6.size)
    have X8 := (Slot2.new w6 (.bool g5) (.slice A5 n5 c5) 28).alloc (.cells #[.bool g6, .slice A6 n6 c6] 28)
    have Jx8 := hi5.below b8
    have hx9 : w.heap.size + 1 + 1 < w6.heap.size := (R4.after hb6).2.2.2.2.2.2.2.2
    have P8 := P4.after hb8
    have Q8 := Q4.after hb8
    have R8 := R4.after hb8
    have G8 := G4.after hb8
    have Jn8 := Jn4.below hb8
    have Jd8 := Jd4.below hb8
    have Jg8 := Jg4.below hb8
    have B8 := B4.trans (hb8.mono B4.size)
    clear P4 Q4 R4 G4 Jn4 Jd4 Jg4 B4
    clear p0 p1 g0 g1 q0 q1 b7 b8 hb6 hb8 hi5 hi6
    have ⟨q0, q1, _, _, _⟩ := Q8
    have ⟨g0, g1, _, _, _⟩ := G8
    generalize hW : (w6.alloc (.cells #[.bool g5, .slice A5 n5 c5] 28)).alloc (.cells #[.bool g6, .slice A6 n6 c6] 28) = W8 at *
    go_wp2_with fail
    try rw [hW]
    clear hW
    (with_reducible refine (dm_z gd g2 Ad A2 nd cd n2 c2 _ Jd8 Jg8 sd zg hg0).mono ?_)
    rintro e w9 ⟨g9, A9, n9, c9, g10, A10, n10, c10, rfl, hi9, hi10, hb9⟩
    rw [HQ.out.2] at hi9
    have b11 := (Below.refl w9.heap.size w9).alloc (Nat.le_refl _) (.cells #[.bool g9, .slice A9 n9 c9] 28)
    have b12 := b11.alloc b11.size (.cells #[.bool g10, .slice A10 n10 c10] 28)
    have hb12 := hb9.trans (b12.mono hb9.size)
    have Y12 := (Slot2.new w9 (.bool g9) (.slice A9 n9 c9) 28).alloc (.cells #[.bool g10, .slice A10 n10 c10] 28)
    have Jy12 := hi9.below b12
    have X12 := X8.after hb12
    have Jx12 := Jx8.below hb12
    have R12 := R8.after hb12
    have B12 := B8.trans (hb12.mono B8.size)
    clear q0 q1 g0 g1 b11 b12 hb9 hb12 hi9 hi10 X8 Jx8 R8 B8 Q8 G8 P8 Jn8 Jd8 Jg8
    have ⟨x0, x1, _, _, _⟩ := X12
    have ⟨y0, y1, _, _, _⟩ := Y12
    have ⟨r0, r1, r2, r3, k0, k1, k2, k3, _⟩ := R12
    generalize hW : (w9.alloc (.cells #[.bool g9, .slice A9 n9 c9] 28)).alloc (.cells #[.bool g10, .slice A10 n10 c10] 28) = W12 at *
    go_wp2
    try rw [hW]
    clear hW
    refine bodyPost_ret (v := .tuple #[.agg #[.bool g5, .slice A5 n5 c5, .bool g9, .slice A9 n9 c9], .int .i64 0]) (by obtain ⟨v0, v1, v2, v3⟩ := R12.set4e (.bool g5) (.slice A5 n5 c5) (.bool g9) (.slice A9 n9 c9); simp [results, Tryd.results60, go_sem, v0, v1, v2, v3]) rfl ⟨_, _, _, _, _, _, _, _, rfl, ⟨Jx12.stored4 R12 rfl rfl rfl rfl _ _ _ _, Jy12.stored4 R12 rfl rfl rfl rfl _ _ _ _⟩, ?_⟩
    exact (((B12.setCell (by simp; omega) _).setCell (by simp; omega) _).setCell (by simp; omega) _).setCell (by simp; omega) _
set_option maxHeartbeats 1000000 in
/-- A denominator that is 0: ErrZero. -/
theorem qof_bad (gn : Bool) (An : Option Addr) (nn cn : Nat) (gd : Bool) (Ad : Option Addr) (nd cd : Nat) (w : World) (hd : IsInt w gd Ad nd cd 0) :
    Calls Tryd.prog 60 #[.agg #[.bool gn, .slice An nn cn], .agg #[.bool gd, .slice Ad nd cd]] w fun e w' => e = .returned (.tuple #[.agg #[.bool false, .slice none 0 0, .bool false, .slice none 0 0], .int .i64 3]) ∧ Below w.heap.size w w' := by
  have b1 := (Below.refl w.heap.size w).alloc (Nat.le_refl _) (.cells #[.bool gn, .slice An nn cn] 28)
  have b2 := b1.alloc b1.size (.cells #[.bool gd, .slice Ad nd cd] 28)
  have b3 := b2.alloc b2.size (.cells #[.bool false, .slice none 0 0, .bool false, .slice none 0 0] 57)
  have R0 := Slot4.new ((w.alloc (.cells #[.bool gn, .slice An nn cn] 28)).alloc (.cells #[.bool gd, .slice Ad nd cd] 28)) (.bool false) (.slice none 0 0) (.bool false) (.slice none 0 0) 57
  have Q0 := (Slot2.new (w.alloc (.cells #[.bool gn, .slice An nn cn] 28)) (.bool gd) (.slice Ad nd cd) 28).alloc (.cells #[.bool false, .slice none 0 0, .bool false, .slice none 0 0] 57)
  simp only [World.size_alloc] at Q0 R0
  have Id := hd.below b3
  have ⟨q0, q1, _, _, _⟩ := Q0
  go_enter Tryd.func60, Tryd.ntmps60
  go_wp2_with fail
  (with_reducible refine (sign_z gd Ad nd cd _ 0 Id rfl).mono ?_)
  rintro e w1 ⟨rfl, hb1⟩
  have R1 := R0.after hb1
  have B1 := b3.trans (hb1.mono b3.size)
  clear Q0 R0 q0 q1 hb1 Id b1 b2 b3
  have ⟨r0, r1, r2, r3, k0, k1, k2, k3, _⟩ := R1
  go_wp2
  refine bodyPost_ret (v := .tuple #[.agg #[.bool false, .slice none 0 0, .bool false, .slice none 0 0], .int .i64 3]) (by obtain ⟨v0, v1, v2, v3⟩ := R1.set4e (.bool false) (.slice none 0 0) (.bool false) (.slice none 0 0); simp [results, Tryd.results60, go_sem, v0, v1, v2, v3]) rfl ⟨rfl, ?_⟩
  exact (((B1.setCell (by simp; omega) _).setCell (by simp; omega) _).setCell (by simp; omega) _).setCell (by simp; omega) _
end Go.Proofs.YtclmenpclkmfeaaDoor
namespace Go.Proofs.YtclmenpclkmfeaaDoor
open Go.RowKit
theorem mf_run (fn : Fn) (first cap : Array Value) (w : World) : (Instr.makeFunc fn first cap).run Tryd.prog w = .ok (.func fn first cap) w := rfl

theorem IsRat.stored4' {w : World} {gn gd : Bool} {An Ad : Option Addr} {nn cn nd cd : Nat} {q : Rat} (h : IsRat w gn An nn cn gd Ad nd cd q) (w' : World) (hb : Below w.heap.size w w') : IsRat w' gn An nn cn gd Ad nd cd q := h.below hb
end Go.Proofs.YtclmenpclkmfeaaDoor
namespace Go.Proofs.YtclmenpclkmfeaaDoor
open Go.RowKit Go.Maps
/-- What interpolate returns. -/
def RetIp (w : World) (L : List (Nat × Nat)) (e : Ending) (w' : World) : Prop := ∃ a m : Nat, Hid (CInv L a m) ∧ ∃ ga Aa na ca gm Am nm cm, e = .returned (.tuple #[.agg #[.bool ga, .slice Aa na ca], .agg #[.bool gm, .slice Am nm cm]]) ∧ IsInt w' ga Aa na ca (a : Int) ∧ IsInt w' gm Am nm cm (m : Int) ∧ Below w.heap.size w w'
set_option maxRecDepth 1000000 in
set_option maxHeartbeats 8000000 in
theorem interp_z (Ap : Option Addr) (n cp bm base : Nat) (L : List (Nat × Nat)) (w : World) (hrow : OwnU w base (.slice Ap n cp) n (L.map Prod.fst)) (hown : w.ownsMap Tryd.prog 39 (plainElem (H := Unit) Tryd.prog 39) bm n (tabD L.reverse)) (hok : OkR L) (hpr : ∀ x ∈ L, IsPrime x.1) (hn : n ≤ 1000) :
    Calls Tryd.prog 42 #[.slice Ap n cp, .func (.func 43) #[.agg #[.slice Ap n cp, .map (some bm)]] #[]] w (RetIp w L) := by
  have b1 := (Below.refl w.heap.size w).alloc (Nat.le_refl _) (.cells #[.bool false, .slice none 0 0] 28)
  have B0 := b1.alloc b1.size (.cells #[.bool false, .slice none 0 0] 28)
  have R0 := (Slot2.new w (.bool false) (.slice none 0 0) 28).alloc (.cells #[.bool false, .slice none 0 0] 28)
  have Q0 := Slot2.new (w.alloc (.cells #[.bool false, .slice none 0 0] 28)) (.bool false) (.slice none 0 0) 28
  simp only [World.size_alloc] at Q0
  have hlen : L.length = n := by
    obtain ⟨_, _, _, h, _⟩ := hrow.form
    rw [List.length_map] at h; exact h
  have HOK := Lib.hid hok
  have HPR := Lib.hid hpr
  have hrow0 := Lib.hid hrow
  have hown0 := Lib.hid hown
  clear hrow hown hok hpr b1
  go_enter Tryd.func42, Tryd.ntmps42
  generalize hW : (w.alloc (.cells #[.bool false, .slice none 0 0] 28)).alloc (.cells #[.bool false, .slice none 0 0] 28) = W0 at *
  go_wp2_with fail
  try rw [hW]
  clear hW
  (with_reducible refine (of_any 0 _ (by decide) (by decide)).mono ?_)
  rintro e w1 ⟨g1, A1, n1, c1, rfl, i1, d1⟩
  go_wp2_with fail
  (with_reducible refine (of_any 1 _ (by decide) (by decide)).mono ?_)
  rintro e w2 ⟨g2, A2, n2, c2, rfl, i2, d2⟩
  replace d1 := d1.trans (d2.mono d1.size)
  replace i1 := i1.below d2
  have hsz : w.heap.size + 1 + 1 ≤ w2.heap.size := by
    have h1 := Q0.2.2.2.2
    have h2 := d1.size
    omega
  have d3 := (Below.refl w2.heap.size w2).alloc (Nat.le_refl _) (.cells #[.bool g1, .slice A1 n1 c1] 28)
  have d4 := d3.alloc d3.size (.cells #[.bool g2, .slice A2 n2 c2] 28)
  have X := (IntAt.new i1).after ((Below.refl _ _).alloc (Nat.le_refl _) (.cells #[.bool g2, .slice A2 n2 c2] 28))
  have Y := IntAt.new (i2.below d3)
  simp only [World.size_alloc] at Y
  replace d1 := d1.trans (d4.mono d1.size)
  have R := R0.after d1
  have Q := Q0.after d1
  have B := B0.trans (d1.mono B0.size)
  clear R0 Q0 B0 d1 d2 d3 d4 i1 i2
  obtain ⟨gx, hgx⟩ : ∃ gx, gx = w2.heap.size := ⟨_, rfl⟩
  rw [← hgx] at hsz
  go_upto_region 2 with (fail)
  generalize hW3 : (w2.alloc (.cells #[.bool g1, .slice A1 n1 c1] 28)).alloc (.cells #[.bool g2, .slice A2 n2 c2] 28) = W3 at *
  rw [← hgx] at X Y ⊢
  clear hW3 hgx
  go_wp2_with fail
  go_loopw [18] (fun s18 wr => ∃ k : Nat, k ≤ n ∧ s18 = .int .i64 k ∧ ∃ a m : Nat, IntAt wr gx (a : Int) ∧ IntAt wr (gx + 1) (m : Int) ∧ Slot2 wr w.heap.size (.bool false) (.slice none 0 0) ∧ Slot2 wr (w.heap.size + 1) (.bool false) (.slice none 0 0) ∧ Below w.heap.size w wr ∧ Hid (CInv (L.take k) a m)) (fun s18 _ => n - (intOf s18).toNat)
  case atStart => exact ⟨0, Nat.zero_le _, rfl, 0, 1, X, Y, R, Q, B, CInv.start⟩
  case round =>
    clear X Y R Q B
    obtain ⟨k, hk, rfl, a, m, X, Y, R, Q, B, hI⟩ := hrel
    obtain ⟨ga, Aa, na, ca, X, Ia⟩ := X
    obtain ⟨gm, Am, nm, cm, Y, Im⟩ := Y
    rcases Nat.lt_or_ge k n with hkn | hkn
    · have hkl : k < L.length := by rw [hlen]; exact hkn
      obtain ⟨p, hp⟩ : ∃ p, (L.getD k (0, 0)).1 = p := ⟨_, rfl⟩
      obtain ⟨v, hv⟩ : ∃ v, (L.getD k (0, 0)).2 = v := ⟨_, rfl⟩
      have HR := Lib.hid (round_math HOK.out HPR.out hkl (by omega) hI.out hp hv)
      have HAT := Lib.hid (HOK.out.at hkl hp hv (H := Unit) (.lit (.int .u64 0)))
      have hpl := HR.out.pl
      have hp2 := HR.out.p2
      have hvp := HR.out.vp
      obtain ⟨r, hr⟩ : ∃ r, a % p = r := ⟨_, rfl⟩
      obtain ⟨r', hr'⟩ : ∃ r', m % p = r' := ⟨_, rfl⟩
      obtain ⟨s, hs⟩ : ∃ s, (v + (p - r)) % p = s := ⟨_, rfl⟩
      have hap : r < p := by rw [← hr]; exact Nat.mod_lt _ (by omega)
      have hmp : r' < p := by rw [← hr']; exact Nat.mod_lt _ (by omega)
      have hms : s < p := by rw [← hs]; exact Nat.mod_lt _ (by omega)
      have hm0 : 0 < r' := by rw [← hr']; exact HR.out.mp
      have HNX : Hid (∀ d, InvOk p r' d → CInv (L.take (k + 1)) (a + m * (s * d % p)) (m * p)) := fun d hd => by
        rw [← hs, ← hr]
        exact HR.out.next d (by rw [hr']; exact hd)
      have Hr := Lib.hid hr
      have Hr' := Lib.hid hr'
      have Hs := Lib.hid hs
      clear hr hr' hs
      obtain ⟨Ap', cp', ee, _, hrd⟩ := (hrow0.out.keep B).form
      injection ee with e1 e2 e3
      subst e1 e3
      obtain ⟨b, rfl, _, _, hc⟩ := hrd (by omega)
      have hpe : (L.map Prod.fst).getD k 0 = p := by
        rw [← hp, List.getD_eq_getElem?_getD, List.getD_eq_getElem?_getD, List.getElem?_map, List.getElem?_eq_getElem hkl]; rfl
      have hc0 := hc k hkn
      rw [hpe] at hc0
      have HK := fun (V : World) (hV : Below w.heap.size w V) => residue_z (some ⟨b, 0, none⟩) n cp bm n p v V (ownsMap_below hown0.out hV) (by omega) HAT.out
      have HK' := Lib.hid HK
      clear HK HAT hI hrd hc hpe hp hv
      go_upto_region 5 with (fail)
      have HS : Hid (∀ V, Below wr.heap.size wr V → (V.cell? ⟨gx, 0, none⟩ = some (.bool ga) ∧ V.cell? ⟨gx, 1, none⟩ = some (.slice Aa na ca))) := fun V hV => ⟨(X.after hV).1, (X.after hV).2.1⟩
      have Dr0 : Below wr.heap.size wr wr.drew := (Below.refl _ _).drew
      refine wp_region_seq (.pre [(0, true), (1, true), (2, true), (4, true), (5, true), (3, false), (6, false), (7, false), (8, true)] .done) (fun W => (W.cell? ⟨gx, 0, none⟩ = some (.bool ga) ∧ W.cell? ⟨gx, 1, none⟩ = some (.slice Aa na ca))) (by kernel_rfl) (by kernel_rfl) ?_ (by kernel_rfl) (HS.out _ Dr0) ?_
      · refine chk_pre _ _ _ (by as_aux_lemma => kernel_rfl) ?_
        exact (by as_aux_lemma => kernel_rfl)
      refine seq_take _ ?_ rfl (Or.inl ⟨by rfl, ?_⟩) ?_
      rotate_left
      · (intro w hSw; (try dsimp only at hSw); go_simp; (try with_reducible rfl))
      try simp only [Act.put, List.setIfInBounds_toArray, List.set_cons_zero, List.set_cons_succ]
      refine seq_take _ ?_ rfl (Or.inl ⟨by rfl, ?_⟩) ?_
      rotate_left
      · (intro w hSw; (try dsimp only at hSw); go_simp; (try with_reducible rfl))
      try simp only [Act.put, List.setIfInBounds_toArray, List.set_cons_zero, List.set_cons_succ]
      refine seq_take _ ?_ rfl (Or.inl ⟨by rfl, ?_⟩) ?_
      rotate_left
      · (intro w hSw; (try dsimp only at hSw); go_simp; (try with_reducible rfl))
      try simp only [Act.put, List.setIfInBounds_toArray, List.set_cons_zero, List.set_cons_succ]
      refine seq_take _ ?_ rfl (Or.inl ⟨by rfl, ?_⟩) ?_
      rotate_left
      · (intro w hSw; (try dsimp only at hSw); go_simp; (try with_reducible rfl))
      try simp only [Act.put, List.setIfInBounds_toArray, List.set_cons_zero, List.set_cons_succ]
      refine seq_take _ ?_ rfl (Or.inl ⟨by rfl, ?_⟩) ?_
      rotate_left
      · (intro w hSw; (try dsimp only at hSw); go_simp; (try with_reducible rfl))
      try simp only [Act.put, List.setIfInBounds_toArray, List.set_cons_zero, List.set_cons_succ]
      refine seq_one _ rfl fun K hK => ?_
      go_simp
      (with_reducible refine (HK'.out _ (B.trans (Dr0.mono B.size))).mono ?_)
      rintro e vr1 ⟨rfl, br1⟩
      have Dr1 : Below wr.heap.size wr vr1 := Below.trans Dr0 (br1.mono (Below.size Dr0))
      go_wp2_with fail
      refine hK.out _ _ (HS.out _ Dr1) (fun hHeld => ?_)
      clear hK K hHeld
      try simp only [Act.put, List.setIfInBounds_toArray, List.set_cons_zero, List.set_cons_succ]
      refine seq_one _ rfl fun K hK => ?_
      go_simp
      (with_reducible refine (mred_n p r hp2 hpl (Ia.below Dr1) Hr.out).mono ?_)
      rintro e vr2 ⟨rfl, br2⟩
      have Dr2 : Below wr.heap.size wr vr2 := Below.trans Dr1 (br2.mono (Below.size Dr1))
      go_wp2_with fail
      refine hK.out _ _ (HS.out _ Dr2) (fun hHeld => ?_)
      clear hK K hHeld
      try simp only [Act.put, List.setIfInBounds_toArray, List.set_cons_zero, List.set_cons_succ]
      refine seq_one _ rfl fun K hK => ?_
      go_simp
      (with_reducible refine (msub_b p v r s _ hpl hvp hap Hs.out).mono ?_)
      rintro e vr3 ⟨rfl, br3⟩
      have Dr3 : Below wr.heap.size wr vr3 := Below.trans Dr2 (br3.mono (Below.size Dr2))
      go_wp2_with fail
      refine hK.out _ _ (HS.out _ Dr3) (fun hHeld => ?_)
      clear hK K hHeld
      try simp only [Act.put, List.setIfInBounds_toArray, List.set_cons_zero, List.set_cons_succ]
      refine seq_take _ ?_ rfl (Or.inl ⟨by rfl, ?_⟩) ?_
      rotate_left
      · (intro w hSw; (try dsimp only at hSw); go_simp; (try with_reducible rfl))
      try simp only [Act.put, List.setIfInBounds_toArray, List.set_cons_zero, List.set_cons_succ]
      refine NoPanic.normal ?_
      replace X := X.after Dr3
      replace Y := Y.after Dr3
      replace Ia := Ia.below Dr3
      replace Im := Im.below Dr3
      replace R := R.after Dr3
      replace Q := Q.after Dr3
      replace B := B.trans (Dr3.mono B.size)
      clear Dr0 Dr1 Dr2 Dr3 br1 br2 br3 HS HK'
      have ⟨y0, y1, _, _, _⟩ := Y
      go_wp2_with fail
      (with_reducible refine (mred_n p r' hp2 hpl Im Hr'.out).mono ?_)
      rintro e w5 ⟨rfl, b5⟩
      go_wp2_with fail
      (with_reducible refine (minv_b p r' _ HR.out.pr hpl hm0 hmp).mono ?_)
      rintro e w6 ⟨d, rfl, hd, b6⟩
      have hdp := hd.2.1
      have HN := Lib.hid (HNX.out d hd)
      clear hd y0 y1
      go_wp2_with fail
      (with_reducible refine (mmul_b p s d _ (by omega) hpl hms hdp).mono ?_)
      rintro e w7 ⟨t, rfl, ht, b7⟩
      have htp : t < p := by rw [← ht]; exact Nat.mod_lt _ (by omega)
      rw [ht] at HN
      clear ht
      go_wp2_with fail
      (with_reducible refine (natural_z t _ (by omega)).mono ?_)
      rintro e w8 ⟨gt, At, nt, ct, rfl, It, b8⟩
      replace b5 := b5.trans (b6.mono b5.size)
      replace b5 := b5.trans (b7.mono b5.size)
      replace b5 := b5.trans (b8.mono b5.size)
      have a9 := (Below.refl w8.heap.size w8).alloc (Nat.le_refl _) (.cells #[.bool gt, .slice At nt ct] 28)
      have hgy : gx + 1 < w8.heap.size := by
        have h1 := (Y.after b5).2.2.2.2
        exact h1
      replace b5 := b5.trans (a9.mono b5.size)
      have T := Slot2.new w8 (.bool gt) (.slice At nt ct) 28
      replace It := It.below a9
      replace X := X.after b5
      replace Y := Y.after b5
      replace Ia := Ia.below b5
      replace Im := Im.below b5
      replace R := R.after b5
      replace Q := Q.after b5
      replace B := B.trans (b5.mono B.size)
      clear b5 b6 b7 b8 a9
      obtain ⟨gt0, hgt0⟩ : ∃ gt0, gt0 = w8.heap.size := ⟨_, rfl⟩
      rw [← hgt0] at hgy T
      go_upto_region 8 with (fail)
      generalize w8.alloc (.cells #[.bool gt, .slice At nt ct] 28) = W9 at *
      rw [← hgt0]
      clear hgt0
      have St : Sz 1 (t : Int) := Sz.of (by rw [Int.natAbs_natCast]; omega) (by decide)
      have Sp : Sz 1 (p : Int) := Sz.of (by rw [Int.natAbs_natCast]; omega) (by decide)
      have Sa := HR.out.sa
      have Sm := HR.out.sm
      have Smt := Sm.mul St (by omega)
      have hsl : w.heap.size + 1 + 1 ≤ gx := hsz
      go_cut [] (fun wx => Below w.heap.size w wx ∧ IntAt wx gx ((a : Int) + m * t) ∧ IntAt wx (gx + 1) (m : Int) ∧ Slot2 wx w.heap.size (.bool false) (.slice none 0 0) ∧ Slot2 wx (w.heap.size + 1) (.bool false) (.slice none 0 0))
      case first =>
        as_aux_lemma =>
          refine wp_region_ev (fun d a0 a' w' => ∃ u43 u44 u45 u46 u47 : Value, a' = (((((a0.put (some 43) u43).put (some 44) u44).put (some 45) u45).put (some 46) u46).put (some 47) u47) ∧ Below w.heap.size w w' ∧ (d 0 = true → IntV w' u43 ((a : Int))) ∧ (d 1 = true → IntV w' u44 ((m : Int))) ∧ (d 2 = true → IntV w' u45 ((t : Int))) ∧ (d 3 = true → IntV w' u46 ((m : Int) * t)) ∧ (d 4 = true → IntV w' u47 ((a : Int) + m * t)) ∧ (BlkI w' (gx) ga Aa na ca ((a : Int)) (d 5) ((a : Int) + m * t)) ∧ (BlkI w' (gx + 1) gm Am nm cm ((m : Int)) false (0)) ∧ (BlkF w' (w.heap.size) (.bool false) (.slice none 0 0) false (0)) ∧ (BlkF w' (w.heap.size + 1) (.bool false) (.slice none 0 0) false (0)) ∧ (BlkI w' (gt0) gt At nt ct ((t : Int)) false (0)) ∧ (d 5 = true → d 0 = true)) (by kernel_rfl) (by kernel_rfl) ?_ ?_ ?_ ?_
          · intro d d' h a' w' hh
            obtain rfl : d = d' := funext h
            exact hh
          · exact ⟨_, _, _, _, _, (by simp only [Act.put, List.setIfInBounds_toArray, List.set_cons_zero, List.set_cons_succ]; rfl), Below.drew (B), (fun h => by cases h), (fun h => by cases h), (fun h => by cases h), (fun h => by cases h), (fun h => by cases h), (BlkI.start X Ia), (BlkI.start Y Im), (BlkF.start (Slot2.drew R)), (BlkF.start (Slot2.drew Q)), (BlkI.start T It), (fun h => by cases h)⟩
          · refine ⟨?_, ?_, ?_, ?_, ?_, ?_, trivial⟩
            · intro d a2 w2 hd hm ⟨u43, u44, u45, u46, u47, e, HB, f0, f1, f2, f3, f4, kX, kY, kR, kQ, kT, o5_0⟩ K hK
              subst e
              simp only [Act.put, List.setIfInBounds_toArray, List.set_cons_zero, List.set_cons_succ]
              have hs : d 5 = false := by cases hq : d 5 with | false => rfl | true => (have hz := o5_0 hq; rw [hd] at hz; cases hz)
              have ⟨⟨y0, y1, _, _, _⟩, iL⟩ := kX.1 hs
              clear hs
              go_simp
              exact hK.out _ _ ⟨.agg #[.bool ga, .slice Aa na ca], u44, u45, u46, u47, (by simp only [Act.put, List.setIfInBounds_toArray, List.set_cons_zero, List.set_cons_succ]), HB, (fun _ => ⟨_, _, _, _, rfl, iL⟩), (fun h => (f1 (by simpa using h))), (fun h => (f2 (by simpa using h))), (fun h => (f3 (by simpa using h))), (fun h => (f4 (by simpa using h))), (by simpa using (kX)), (by simpa using (kY)), (by simpa using (kR)), (by simpa using (kQ)), (by simpa using (kT)), (fun _ => by simp)⟩
            · intro d a2 w2 hd hm ⟨u43, u44, u45, u46, u47, e, HB, f0, f1, f2, f3, f4, kX, kY, kR, kQ, kT, o5_0⟩ K hK
              subst e
              simp only [Act.put, List.setIfInBounds_toArray, List.set_cons_zero, List.set_cons_succ]
              have ⟨⟨y0, y1, _, _, _⟩, iL⟩ := kY.1 rfl
              go_simp
              exact hK.out _ _ ⟨u43, .agg #[.bool gm, .slice Am nm cm], u45, u46, u47, (by simp only [Act.put, List.setIfInBounds_toArray, List.set_cons_zero, List.set_cons_succ]), HB, (fun h => (f0 (by simpa using h))), (fun _ => ⟨_, _, _, _, rfl, iL⟩), (fun h => (f2 (by simpa using h))), (fun h => (f3 (by simpa using h))), (fun h => (f4 (by simpa using h))), (by simpa using (kX)), (by simpa using (kY)), (by simpa using (kR)), (by simpa using (kQ)), (by simpa using (kT)), (fun h => by simpa using o5_0 (by simpa using h))⟩
            · intro d a2 w2 hd hm ⟨u43, u44, u45, u46, u47, e, HB, f0, f1, f2, f3, f4, kX, kY, kR, kQ, kT, o5_0⟩ K hK
              subst e
              simp only [Act.put, List.setIfInBounds_toArray, List.set_cons_zero, List.set_cons_succ]
              have ⟨⟨y0, y1, _, _, _⟩, iL⟩ := kT.1 rfl
              go_simp
              exact hK.out _ _ ⟨u43, u44, .agg #[.bool gt, .slice At nt ct], u46, u47, (by simp only [Act.put, List.setIfInBounds_toArray, List.set_cons_zero, List.set_cons_succ]), HB, (fun h => (f0 (by simpa using h))), (fun h => (f1 (by simpa using h))), (fun _ => ⟨_, _, _, _, rfl, iL⟩), (fun h => (f3 (by simpa using h))), (fun h => (f4 (by simpa using h))), (by simpa using (kX)), (by simpa using (kY)), (by simpa using (kR)), (by simpa using (kQ)), (by simpa using (kT)), (fun h => by simpa using o5_0 (by simpa using h))⟩
            · intro d a2 w2 hd hm ⟨u43, u44, u45, u46, u47, e, HB, f0, f1, f2, f3, f4, kX, kY, kR, kQ, kT, o5_0⟩ K hK
              subst e
              simp only [Act.put, List.setIfInBounds_toArray, List.set_cons_zero, List.set_cons_succ]
              obtain ⟨G1, A1, N1, C1, rfl, I1⟩ := f1 (hm ⟨1, .data⟩ (by simp) rfl)
              obtain ⟨G2, A2, N2, C2, rfl, I2⟩ := f2 (hm ⟨2, .data⟩ (by simp) rfl)
              go_simp
              (with_reducible refine (mul_z' G1 G2 A1 A2 N1 C1 N2 C2 _ I1 I2 Sm St).mono ?_)
              rintro e w3 ⟨gg, AA, nn, cc, rfl, hi, hb⟩
              have HB3 := HB.trans (hb.mono HB.size)
              go_wp2_with fail
              exact hK.out _ _ ⟨u43, .agg #[.bool G1, .slice A1 N1 C1], .agg #[.bool G2, .slice A2 N2 C2], .agg #[.bool gg, .slice AA nn cc], u47, (by simp only [Act.put, List.setIfInBounds_toArray, List.set_cons_zero, List.set_cons_succ]), HB3, (fun h => (f0 (by simpa using h)).below hb), (fun h => (f1 (by simpa using h)).below hb), (fun h => (f2 (by simpa using h)).below hb), (fun _ => ⟨_, _, _, _, rfl, hi⟩), (fun h => (f4 (by simpa using h)).below hb), (by simpa using (kX).below hb), (by simpa using (kY).below hb), (by simpa using (kR).below hb), (by simpa using (kQ).below hb), (by simpa using (kT).below hb), (fun h => by simpa using o5_0 (by simpa using h))⟩
            · intro d a2 w2 hd hm ⟨u43, u44, u45, u46, u47, e, HB, f0, f1, f2, f3, f4, kX, kY, kR, kQ, kT, o5_0⟩ K hK
              subst e
              simp only [Act.put, List.setIfInBounds_toArray, List.set_cons_zero, List.set_cons_succ]
              obtain ⟨G0, A0, N0, C0, rfl, I0⟩ := f0 (hm ⟨0, .data⟩ (by simp) rfl)
              obtain ⟨G3, A3, N3, C3, rfl, I3⟩ := f3 (hm ⟨3, .data⟩ (by simp) rfl)
              go_simp
              (with_reducible refine (add_z G0 G3 A0 A3 N0 C0 N3 C3 _ I0 I3 Sa Smt).mono ?_)
              rintro e w3 ⟨gg, AA, nn, cc, rfl, hi, hb⟩
              have HB3 := HB.trans (hb.mono HB.size)
              go_wp2_with fail
              exact hK.out _ _ ⟨.agg #[.bool G0, .slice A0 N0 C0], u44, u45, .agg #[.bool G3, .slice A3 N3 C3], .agg #[.bool gg, .slice AA nn cc], (by simp only [Act.put, List.setIfInBounds_toArray, List.set_cons_zero, List.set_cons_succ]), HB3, (fun h => (f0 (by simpa using h)).below hb), (fun h => (f1 (by simpa using h)).below hb), (fun h => (f2 (by simpa using h)).below hb), (fun h => (f3 (by simpa using h)).below hb), (fun _ => ⟨_, _, _, _, rfl, hi⟩), (by simpa using (kX).below hb), (by simpa using (kY).below hb), (by simpa using (kR).below hb), (by simpa using (kQ).below hb), (by simpa using (kT).below hb), (fun h => by simpa using o5_0 (by simpa using h))⟩
            · intro d a2 w2 hd hm ⟨u43, u44, u45, u46, u47, e, HB, f0, f1, f2, f3, f4, kX, kY, kR, kQ, kT, o5_0⟩ K hK
              subst e
              simp only [Act.put, List.setIfInBounds_toArray, List.set_cons_zero, List.set_cons_succ]
              obtain ⟨gg, AA, nn, cc, rfl, hi⟩ := f4 (hm ⟨4, .data⟩ (by simp) rfl)
              have hs := (kX.1 hd).1
              obtain ⟨k0, k1, k2, k3, k4⟩ := id hs
              go_simp
              exact hK.out _ _ ⟨u43, u44, u45, u46, .agg #[.bool gg, .slice AA nn cc], (by simp only [Act.put, List.setIfInBounds_toArray, List.set_cons_zero, List.set_cons_succ]), Below.set2 HB (by omega) _ _, (fun h => (f0 (by simpa using h)).set2 hs rfl rfl _ _), (fun h => (f1 (by simpa using h)).set2 hs rfl rfl _ _), (fun h => (f2 (by simpa using h)).set2 hs rfl rfl _ _), (fun h => (f3 (by simpa using h)).set2 hs rfl rfl _ _), (fun h => (f4 (by simpa using h)).set2 hs rfl rfl _ _), (by simpa using BlkI.near hi hs), (by simpa using (kY).far2 (by omega) hs rfl rfl _ _), (by simpa using (kR).far2 (by omega) hs rfl rfl _ _), (by simpa using (kQ).far2 (by omega) hs rfl rfl _ _), (by simpa using (kT).far2 (by omega) hs rfl rfl _ _), (fun _ => by simpa using hm ⟨0, .phase⟩ (by simp) rfl)⟩
          · intro d a2 w2 hall ⟨u43, u44, u45, u46, u47, e, HB, f0, f1, f2, f3, f4, kX, kY, kR, kQ, kT, o5_0⟩
            subst e
            simp only [Act.put, List.setIfInBounds_toArray, List.set_cons_zero, List.set_cons_succ]
            have eX := kX.2 (hall _ (by decide))
            have eY := kY.1 rfl
            have eR := kR.1 rfl
            have eQ := kQ.1 rfl
            have eT := kT.1 rfl
            go_wp2_with fail
            go_meet
            exact ⟨HB, eX, ⟨_, _, _, _, eY⟩, eR, eQ⟩
      case rest =>
      clear X Y Ia Im R Q B T It
      obtain ⟨B, ⟨ga, Aa, na, ca, X, Ia⟩, ⟨gm, Am, nm, cm, Y, Im⟩, R, Q⟩ := hcut
      obtain ⟨W10, rfl⟩ : ∃ x : World, x = wc := ⟨_, rfl⟩
      go_upto_region 9 with (fail)
      refine wp_region_ev (fun d a0 a' w' => ∃ u48 u49 u50 u51 : Value, a' = ((((a0.put (some 48) u48).put (some 49) u49).put (some 50) u50).put (some 51) u51) ∧ Below w.heap.size w w' ∧ (d 0 = true → IntV w' u48 ((m : Int))) ∧ (d 1 = true → u49 = .int .u64 (p : Int)) ∧ (d 2 = true → IntV w' u50 ((p : Int))) ∧ (d 3 = true → IntV w' u51 ((m : Int) * p)) ∧ (BlkI w' (gx) ga Aa na ca (((a : Int) + m * t)) false (0)) ∧ (BlkI w' (gx + 1) gm Am nm cm ((m : Int)) (d 4) ((m : Int) * p)) ∧ (BlkF w' (w.heap.size) (.bool false) (.slice none 0 0) false (0)) ∧ (BlkF w' (w.heap.size + 1) (.bool false) (.slice none 0 0) false (0)) ∧ (d 4 = true → d 0 = true)) (by kernel_rfl) (by kernel_rfl) ?_ ?_ ?_ ?_
      · intro d d' h a' w' hh
        obtain rfl : d = d' := funext h
        exact hh
      · exact ⟨_, _, _, _, (by simp only [Act.put, List.setIfInBounds_toArray, List.set_cons_zero, List.set_cons_succ]; rfl), Below.drew (B), (fun h => by cases h), (fun h => by cases h), (fun h => by cases h), (fun h => by cases h), (BlkI.start X Ia), (BlkI.start Y Im), (BlkF.start (Slot2.drew R)), (BlkF.start (Slot2.drew Q)), (fun h => by cases h)⟩
      · refine ⟨?_, ?_, ?_, ?_, ?_, trivial⟩
        · intro d a2 w2 hd hm ⟨u48, u49, u50, u51, e, HB, f0, f1, f2, f3, kX, kY, kR, kQ, o4_0⟩ K hK
          subst e
          simp only [Act.put, List.setIfInBounds_toArray, List.set_cons_zero, List.set_cons_succ]
          have hs : d 4 = false := by cases hq : d 4 with | false => rfl | true => (have hz := o4_0 hq; rw [hd] at hz; cases hz)
          have ⟨⟨y0, y1, _, _, _⟩, iL⟩ := kY.1 hs
          clear hs
          go_simp
          exact hK.out _ _ ⟨.agg #[.bool gm, .slice Am nm cm], u49, u50, u51, (by simp only [Act.put, List.setIfInBounds_toArray, List.set_cons_zero, List.set_cons_succ]), HB, (fun _ => ⟨_, _, _, _, rfl, iL⟩), (fun h => f1 (by simpa using h)), (fun h => (f2 (by simpa using h))), (fun h => (f3 (by simpa using h))), (by simpa using (kX)), (by simpa using (kY)), (by simpa using (kR)), (by simpa using (kQ)), (fun _ => by simp)⟩
        · intro d a2 w2 hd hm ⟨u48, u49, u50, u51, e, HB, f0, f1, f2, f3, kX, kY, kR, kQ, o4_0⟩ K hK
          subst e
          simp only [Act.put, List.setIfInBounds_toArray, List.set_cons_zero, List.set_cons_succ]
          go_simp
          exact hK.out _ _ ⟨u48, .int .u64 (p : Int), u50, u51, (by simp only [Act.put, List.setIfInBounds_toArray, List.set_cons_zero, List.set_cons_succ]), HB, (fun h => (f0 (by simpa using h))), (fun _ => rfl), (fun h => (f2 (by simpa using h))), (fun h => (f3 (by simpa using h))), (by simpa using (kX)), (by simpa using (kY)), (by simpa using (kR)), (by simpa using (kQ)), (fun h => by simpa using o4_0 (by simpa using h))⟩
        · intro d a2 w2 hd hm ⟨u48, u49, u50, u51, e, HB, f0, f1, f2, f3, kX, kY, kR, kQ, o4_0⟩ K hK
          subst e
          simp only [Act.put, List.setIfInBounds_toArray, List.set_cons_zero, List.set_cons_succ]
          obtain rfl := f1 (hm ⟨1, .data⟩ (by simp) rfl)
          clear f1
          go_simp
          (with_reducible refine (natural_z p _ (by omega)).mono ?_)
          rintro e w3 ⟨gg, AA, nn, cc, rfl, hi, hb⟩
          have HB3 := HB.trans (hb.mono HB.size)
          go_wp2_with fail
          exact hK.out _ _ ⟨u48, .int .u64 (p : Int), .agg #[.bool gg, .slice AA nn cc], u51, (by simp only [Act.put, List.setIfInBounds_toArray, List.set_cons_zero, List.set_cons_succ]), HB3, (fun h => (f0 (by simpa using h)).below hb), (fun _ => rfl), (fun _ => ⟨_, _, _, _, rfl, hi⟩), (fun h => (f3 (by simpa using h)).below hb), (by simpa using (kX).below hb), (by simpa using (kY).below hb), (by simpa using (kR).below hb), (by simpa using (kQ).below hb), (fun h => by simpa using o4_0 (by simpa using h))⟩
        · intro d a2 w2 hd hm ⟨u48, u49, u50, u51, e, HB, f0, f1, f2, f3, kX, kY, kR, kQ, o4_0⟩ K hK
          subst e
          simp only [Act.put, List.setIfInBounds_toArray, List.set_cons_zero, List.set_cons_succ]
          obtain ⟨G0, A0, N0, C0, rfl, I0⟩ := f0 (hm ⟨0, .data⟩ (by simp) rfl)
          obtain ⟨G2, A2, N2, C2, rfl, I2⟩ := f2 (hm ⟨2, .data⟩ (by simp) rfl)
          go_simp
          (with_reducible refine (mul_z' G0 G2 A0 A2 N0 C0 N2 C2 _ I0 I2 Sm Sp).mono ?_)
          rintro e w3 ⟨gg, AA, nn, cc, rfl, hi, hb⟩
          have HB3 := HB.trans (hb.mono HB.size)
          go_wp2_with fail
          exact hK.out _ _ ⟨.agg #[.bool G0, .slice A0 N0 C0], u49, .agg #[.bool G2, .slice A2 N2 C2], .agg #[.bool gg, .slice AA nn cc], (by simp only [Act.put, List.setIfInBounds_toArray, List.set_cons_zero, List.set_cons_succ]), HB3, (fun h => (f0 (by simpa using h)).below hb), (fun h => f1 (by simpa using h)), (fun h => (f2 (by simpa using h)).below hb), (fun _ => ⟨_, _, _, _, rfl, hi⟩), (by simpa using (kX).below hb), (by simpa using (kY).below hb), (by simpa using (kR).below hb), (by simpa using (kQ).below hb), (fun h => by simpa using o4_0 (by simpa using h))⟩
        · intro d a2 w2 hd hm ⟨u48, u49, u50, u51, e, HB, f0, f1, f2, f3, kX, kY, kR, kQ, o4_0⟩ K hK
          subst e
          simp only [Act.put, List.setIfInBounds_toArray, List.set_cons_zero, List.set_cons_succ]
          obtain ⟨gg, AA, nn, cc, rfl, hi⟩ := f3 (hm ⟨3, .data⟩ (by simp) rfl)
          have hs := (kY.1 hd).1
          obtain ⟨k0, k1, k2, k3, k4⟩ := id hs
          go_simp
          exact hK.out _ _ ⟨u48, u49, u50, .agg #[.bool gg, .slice AA nn cc], (by simp only [Act.put, List.setIfInBounds_toArray, List.set_cons_zero, List.set_cons_succ]), Below.set2 HB (by omega) _ _, (fun h => (f0 (by simpa using h)).set2 hs rfl rfl _ _), (fun h => f1 (by simpa using h)), (fun h => (f2 (by simpa using h)).set2 hs rfl rfl _ _), (fun h => (f3 (by simpa using h)).set2 hs rfl rfl _ _), (by simpa using (kX).far2 (by omega) hs rfl rfl _ _), (by simpa using BlkI.near hi hs), (by simpa using (kR).far2 (by omega) hs rfl rfl _ _), (by simpa using (kQ).far2 (by omega) hs rfl rfl _ _), (fun _ => by simpa using hm ⟨0, .phase⟩ (by simp) rfl)⟩
      · intro d a2 w2 hall ⟨u48, u49, u50, u51, e, HB, f0, f1, f2, f3, kX, kY, kR, kQ, o4_0⟩
        subst e
        simp only [Act.put, List.setIfInBounds_toArray, List.set_cons_zero, List.set_cons_succ]
        obtain rfl := f1 (hall _ (by decide))
        have eX := kX.1 rfl
        have eY := kY.2 (hall _ (by decide))
        have eR := kR.1 rfl
        have eQ := kQ.1 rfl
        go_wp2_with fail
        go_roundw
        case rel =>
          refine ⟨k + 1, by omega, by go_num, a + m * t, m * p, ?_, ?_, eR, eQ, HB, HN.out⟩
          · rw [Int.natCast_add, Int.natCast_mul]; exact ⟨_, _, _, _, eX⟩
          · rw [Int.natCast_mul]; exact eY
        case measure => simp [intOf]; omega
    · obtain rfl : k = n := by omega
      have hT0 : L.take k = L := List.take_of_length_le (by omega)
      have HC : Hid (CInv L a m) := by have := hI.out; rw [hT0] at this; exact this
      clear hI hT0
      have hsl : w.heap.size + 1 + 1 ≤ gx := hsz
      go_upto_region 11 with (fail)
      refine wp_region_ev (fun d a0 a' w' => ∃ u53 u54 : Value, a' = ((a0.put (some 53) u53).put (some 54) u54) ∧ Below w.heap.size w w' ∧ (d 0 = true → IntV w' u53 ((a : Int))) ∧ (d 1 = true → IntV w' u54 ((m : Int))) ∧ (BlkI w' (gx) ga Aa na ca ((a : Int)) false (0)) ∧ (BlkI w' (gx + 1) gm Am nm cm ((m : Int)) false (0)) ∧ (BlkF w' (w.heap.size) (.bool false) (.slice none 0 0) (d 2) ((a : Int))) ∧ (BlkF w' (w.heap.size + 1) (.bool false) (.slice none 0 0) (d 3) ((m : Int)))) (by kernel_rfl) (by kernel_rfl) ?_ ?_ ?_ ?_
      · intro d d' h a' w' hh
        obtain rfl : d = d' := funext h
        exact hh
      · exact ⟨_, _, (by simp only [Act.put, List.setIfInBounds_toArray, List.set_cons_zero, List.set_cons_succ]; rfl), Below.drew (B), (fun h => by cases h), (fun h => by cases h), (BlkI.start X Ia), (BlkI.start Y Im), (BlkF.start (Slot2.drew R)), (BlkF.start (Slot2.drew Q))⟩
      · refine ⟨?_, ?_, ?_, ?_, trivial⟩
        · intro d a2 w2 hd hm ⟨u53, u54, e, HB, f0, f1, kX, kY, kR, kQ⟩ K hK
          subst e
          simp only [Act.put, List.setIfInBounds_toArray, List.set_cons_zero, List.set_cons_succ]
          have ⟨⟨y0, y1, _, _, _⟩, iL⟩ := kX.1 rfl
          go_simp
          exact hK.out _ _ ⟨.agg #[.bool ga, .slice Aa na ca], u54, (by simp only [Act.put, List.setIfInBounds_toArray, List.set_cons_zero, List.set_cons_succ]), HB, (fun _ => ⟨_, _, _, _, rfl, iL⟩), (fun h => (f1 (by simpa using h))), (by simpa using (kX)), (by simpa using (kY)), (by simpa using (kR)), (by simpa using (kQ))⟩
        · intro d a2 w2 hd hm ⟨u53, u54, e, HB, f0, f1, kX, kY, kR, kQ⟩ K hK
          subst e
          simp only [Act.put, List.setIfInBounds_toArray, List.set_cons_zero, List.set_cons_succ]
          have ⟨⟨y0, y1, _, _, _⟩, iL⟩ := kY.1 rfl
          go_simp
          exact hK.out _ _ ⟨u53, .agg #[.bool gm, .slice Am nm cm], (by simp only [Act.put, List.setIfInBounds_toArray, List.set_cons_zero, List.set_cons_succ]), HB, (fun h => (f0 (by simpa using h))), (fun _ => ⟨_, _, _, _, rfl, iL⟩), (by simpa using (kX)), (by simpa using (kY)), (by simpa using (kR)), (by simpa using (kQ))⟩
        · intro d a2 w2 hd hm ⟨u53, u54, e, HB, f0, f1, kX, kY, kR, kQ⟩ K hK
          subst e
          simp only [Act.put, List.setIfInBounds_toArray, List.set_cons_zero, List.set_cons_succ]
          obtain ⟨gg, AA, nn, cc, rfl, hi⟩ := f0 (hm ⟨0, .data⟩ (by simp) rfl)
          have hs := kR.1 hd
          obtain ⟨k0, k1, k2, k3, k4⟩ := id hs
          go_simp
          exact hK.out _ _ ⟨.agg #[.bool gg, .slice AA nn cc], u54, (by simp only [Act.put, List.setIfInBounds_toArray, List.set_cons_zero, List.set_cons_succ]), Below.set2 HB (by omega) _ _, (fun h => (f0 (by simpa using h)).set2 hs rfl rfl _ _), (fun h => (f1 (by simpa using h)).set2 hs rfl rfl _ _), (by simpa using (kX).far2 (by omega) hs rfl rfl _ _), (by simpa using (kY).far2 (by omega) hs rfl rfl _ _), (by simpa using BlkF.near hi hs rfl rfl), (by simpa using (kQ).far2 (by omega) hs rfl rfl _ _)⟩
        · intro d a2 w2 hd hm ⟨u53, u54, e, HB, f0, f1, kX, kY, kR, kQ⟩ K hK
          subst e
          simp only [Act.put, List.setIfInBounds_toArray, List.set_cons_zero, List.set_cons_succ]
          obtain ⟨gg, AA, nn, cc, rfl, hi⟩ := f1 (hm ⟨1, .data⟩ (by simp) rfl)
          have hs := kQ.1 hd
          obtain ⟨k0, k1, k2, k3, k4⟩ := id hs
          go_simp
          exact hK.out _ _ ⟨u53, .agg #[.bool gg, .slice AA nn cc], (by simp only [Act.put, List.setIfInBounds_toArray, List.set_cons_zero, List.set_cons_succ]), Below.set2 HB (by omega) _ _, (fun h => (f0 (by simpa using h)).set2 hs rfl rfl _ _), (fun h => (f1 (by simpa using h)).set2 hs rfl rfl _ _), (by simpa using (kX).far2 (by omega) hs rfl rfl _ _), (by simpa using (kY).far2 (by omega) hs rfl rfl _ _), (by simpa using (kR).far2 (by omega) hs rfl rfl _ _), (by simpa using BlkF.near hi hs rfl rfl)⟩
      · intro d a2 w2 hall ⟨u53, u54, e, HB, f0, f1, kX, kY, kR, kQ⟩
        subst e
        simp only [Act.put, List.setIfInBounds_toArray, List.set_cons_zero, List.set_cons_succ]
        have eX := kX.1 rfl
        have eY := kY.1 rfl
        have eR := kR.2 (hall _ (by decide))
        have eQ := kQ.2 (hall _ (by decide))
        obtain ⟨g1', A1', n1', c1', ⟨x0, x1, _, _, _⟩, J1⟩ := eR
        obtain ⟨g2', A2', n2', c2', ⟨z0, z1, _, _, _⟩, J2⟩ := eQ
        go_wp2_with fail
        exact bodyPost_ret (v := .tuple #[.agg #[.bool g1', .slice A1' n1' c1'], .agg #[.bool g2', .slice A2' n2' c2']]) (by simp [results, Tryd.results42, go_sem, x0, x1, z0, z1]) rfl ⟨a, m, HC, _, _, _, _, _, _, _, _, rfl, J1, J2, HB⟩
end Go.Proofs.YtclmenpclkmfeaaDoor
