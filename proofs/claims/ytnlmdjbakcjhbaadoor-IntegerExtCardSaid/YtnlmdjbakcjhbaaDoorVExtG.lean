/- Contract of integer.Ext at any size. -/
import Derived.Test.YtnlmdjbakcjhbaaDoorVExtS
import Derived.Test.YtnlmdjbakcjhbaaDoorVExt
import Derived.Test.YtnlmdjbakcjhbaaDoorVLawRootK
namespace Go.Proofs.YtnlmdjbakcjhbaaDoor
open Go.RowKit
theorem extE_at (a b : Nat) : ∀ (R G : Nat) (x y T T' : Int), ExtInv a b G R x y T T' → (0 < G ∨ 0 < R) → (b = 0 → R = 0 ∧ T = 0) → extF G R x y = sE a b → ∃ s' t' : Int, ExtInv a b (Nat.gcd a b) 0 (sE a b) s' (tE a b) t' := by
  intro R
  induction R using Nat.strongRecOn with
  | _ R ih =>
    intro G x y T T' inv hG hZ hE
    rcases Nat.eq_zero_or_pos R with h | h
    · subst h
      have hgc : G = Nat.gcd a b := by have := inv.gc; rwa [Nat.gcd_zero_right] at this
      have hx : x = sE a b := by rw [← hE, extF_zero]
      have ht : T = tE a b := by
        unfold tE
        split
        · rename_i h; exact (hZ h).2
        · rename_i hb0
          have e1 := inv.e1
          rw [← hgc, ← hx, show (G : Int) - x * (a : Int) = T * (b : Int) by omega]
          exact (Int.mul_ediv_cancel _ (by omega)).symm
      exact ⟨y, T', by rw [← hgc, ← hx, ← ht]; exact inv⟩
    · exact ih (G % R) (Nat.mod_lt _ h) R y _ T' _ (inv.step h) (.inl h) (fun hb => absurd (hZ hb).1 (by omega)) (by rw [← extF_step _ _ h]; exact hE)
theorem extE_inv (a b : Nat) (h : 0 < a ∨ 0 < b) : ∃ s' t' : Int, ExtInv a b (Nat.gcd a b) 0 (sE a b) s' (tE a b) t' :=
  extE_at a b b a 1 0 0 1 (ExtInv.start a b) h (fun hb => ⟨hb, rfl⟩) rfl
/-- A tuple of three integers. -/
def Tup3 (w : World) (v : Value) (x y z : Int) : Prop := ∃ v1 v2 v3, v = .tuple #[v1, v2, v3] ∧ IntV w v1 x ∧ IntV w v2 y ∧ IntV w v3 z
theorem Tup3.below {w w' : World} {v : Value} {x y z : Int} (h : Tup3 w v x y z) (hb : Below w.heap.size w w') : Tup3 w' v x y z := by
  obtain ⟨v1, v2, v3, e1, h1, h2, h3⟩ := h
  exact ⟨v1, v2, v3, e1, h1.below hb, h2.below hb, h3.below hb⟩
theorem Tup3.set2 {w : World} {v : Value} {x y z : Int} (h : Tup3 w v x y z) {g : Nat} {a0 a1 : Value} (hs : Slot2 w g a0 a1) (n0 : noLimb a0 = true) (n1 : noLimb a1 = true) (u0 u1 : Value) : Tup3 ((w.setCell ⟨g, 0, none⟩ u0).setCell ⟨g, 1, none⟩ u1) v x y z := by
  obtain ⟨v1, v2, v3, e1, h1, h2, h3⟩ := h
  exact ⟨v1, v2, v3, e1, h1.set2 hs n0 n1 u0 u1, h2.set2 hs n0 n1 u0 u1, h3.set2 hs n0 n1 u0 u1⟩
theorem withSign_v (neg s : Bool) (A : Option Addr) (n c : Nat) (z v : Int) (w : World) (ha : IsInt w neg A n c z) (h : Hid (v = if s then -z else z)) :
    Calls Tryd.prog 75 #[.agg #[.bool neg, .slice A n c], .bool s] w (RetInt w v) := by
  rw [h.out]; exact withSign_any neg s A n c z w ha
theorem tidyI (neg : Bool) (A : Option Addr) (n c : Nat) (z : Int) (w : World) (ha : IsInt w neg A n c z) : Calls Tryd.prog 65 #[.agg #[.bool neg, .slice A n c]] w (RetInt w z) := by
  refine (tidy_z neg A n c z w w ha (Below.refl _ _)).mono ?_
  rintro e w' ⟨rfl, hB⟩
  exact ⟨neg, A, n, n, rfl, IsInt.below ⟨ha.sign, ha.lim.tight⟩ hB, hB⟩
theorem exts_r (neg neg' : Bool) (A A' : Option Addr) (n c m dc : Nat) {k : Nat} {a b : Nat} (w : World) (ha : IsInt w neg A n c (a : Int)) (hb : IsInt w neg' A' m dc (b : Int)) (sa : Sz k (a : Int)) (sb : Sz k (b : Int)) (hk1 : 1 ≤ k) (hk : k + k + k + 2 ≤ 10000) (hab : 0 < a ∨ 0 < b) :
    Calls Tryd.prog 74 #[.agg #[.bool neg, .slice A n c], .agg #[.bool neg', .slice A' m dc]] w (Ret3 w ((Nat.gcd a b : Nat) : Int) (sE a b) (tE a b)) :=
  (exts_z neg neg' A A' n c m dc w ha hb sa sb hk1 hk hab).mono (fun _ _ h => h.1)
set_option maxRecDepth 1000000 in
set_option maxHeartbeats 8000000 in
theorem extG_any (neg neg' : Bool) (A A' : Option Addr) (n c m dc : Nat) (a b : Int) {k : Nat} (w : World) (ha : IsInt w neg A n c a) (hb : IsInt w neg' A' m dc b) (hnm : ¬ (n ≤ 2 ∧ m ≤ 2)) (sa : Sz k a) (sb : Sz k b) (hk1 : 1 ≤ k) (hk : k + k + k + 2 ≤ 10000) :
    Calls Tryd.prog 23 #[.agg #[.bool neg, .slice A n c], .agg #[.bool neg', .slice A' m dc]] w (Ret3 w ((Nat.gcd a.natAbs b.natAbs : Nat) : Int) (if neg then -(sE a.natAbs b.natAbs) else sE a.natAbs b.natAbs) (if neg' then -(tE a.natAbs b.natAbs) else tE a.natAbs b.natAbs)) := by
  obtain ⟨sv, hsv⟩ : ∃ v : Int, v = if neg then -(sE a.natAbs b.natAbs) else sE a.natAbs b.natAbs := ⟨_, rfl⟩
  obtain ⟨tv, htv⟩ : ∃ v : Int, v = if neg' then -(tE a.natAbs b.natAbs) else tE a.natAbs b.natAbs := ⟨_, rfl⟩
  rw [← hsv, ← htv]
  have HSV := Lib.hid hsv
  have HTV := Lib.hid htv
  clear hsv htv
  obtain ⟨BB, SP, SO, SR, SS, SU⟩ := frame23 w (.bool neg) (.slice A n c) (.bool neg') (.slice A' m dc)
  obtain ⟨V0, hV0⟩ : ∃ x : World, x = ((((w.alloc (.cells #[.bool neg, .slice A n c] 27)).alloc (.cells #[.bool neg', .slice A' m dc] 27)).alloc (.cells #[.bool false, .slice none 0 0] 27)).alloc (.cells #[.bool false, .slice none 0 0] 27)).alloc (.cells #[.bool false, .slice none 0 0] 27) := ⟨_, rfl⟩
  have IP := ha.below BB
  have IO := hb.below BB
  rw [← hV0] at BB SP SO SR SS SU IP IO
  have HSA := Lib.hid ha.sign
  have HSB := Lib.hid hb.sign
  have HLA := Lib.hid ha.lim.len
  have HLB := Lib.hid hb.lim.len
  have hn0 := len_of ha
  have hm0 := len_of hb
  have hab : 0 < a.natAbs ∨ 0 < b.natAbs := by omega
  clear ha hb
  go_enter Tryd.func23, Tryd.ntmps23
  go_upto_region 1 with (fail)
  rw [← hV0]
  clear hV0
  go_cut [] (fun wx => Below w.heap.size w wx ∧ IntAt wx w.heap.size a ∧ IntAt wx (w.heap.size + 1) b ∧ Slot2 wx (w.heap.size + 1 + 1) (.bool false) (.slice none 0 0) ∧ Slot2 wx (w.heap.size + 1 + 1 + 1) (.bool false) (.slice none 0 0) ∧ Slot2 wx (w.heap.size + 1 + 1 + 1 + 1) (.bool false) (.slice none 0 0))
  case first =>
    refine wp_region_ev (fun d a0 a' w' => ∃ u13 u14 u15 u16 : Value, a' = ((((a0.put (some 13) u13).put (some 14) u14).put (some 15) u15).put (some 16) u16) ∧ Below w.heap.size w w' ∧ (d 0 = true → u13 = .agg #[.bool neg, .slice A n c]) ∧ (d 1 = true → IntV w' u14 (a)) ∧ (d 2 = true → u15 = .agg #[.bool neg', .slice A' m dc]) ∧ (d 3 = true → IntV w' u16 (b)) ∧ (BlkI w' (w.heap.size) neg A n c (a) (d 4) (a)) ∧ (BlkI w' (w.heap.size + 1) neg' A' m dc (b) (d 5) (b)) ∧ (BlkF w' (w.heap.size + 1 + 1) (.bool false) (.slice none 0 0) false (0)) ∧ (BlkF w' (w.heap.size + 1 + 1 + 1) (.bool false) (.slice none 0 0) false (0)) ∧ (BlkF w' (w.heap.size + 1 + 1 + 1 + 1) (.bool false) (.slice none 0 0) false (0)) ∧ (d 4 = true → d 0 = true) ∧ (d 4 = true → d 1 = true) ∧ (d 5 = true → d 2 = true) ∧ (d 5 = true → d 3 = true)) (by kernel_rfl) (by kernel_rfl) ?_ ?_ ?_ ?_
    · intro d d' h a' w' hh
      obtain rfl : d = d' := funext h
      exact hh
    · exact ⟨_, _, _, _, (by simp only [Act.put, List.setIfInBounds_toArray, List.set_cons_zero, List.set_cons_succ]; rfl), Below.drew (BB), (fun h => by cases h), (fun h => by cases h), (fun h => by cases h), (fun h => by cases h), (BlkI.start SP IP), (BlkI.start SO IO), (BlkF.start (Slot2.drew SR)), (BlkF.start (Slot2.drew SS)), (BlkF.start (Slot2.drew SU)), (fun h => by cases h), (fun h => by cases h), (fun h => by cases h), (fun h => by cases h)⟩
    · refine ⟨?_, ?_, ?_, ?_, ?_, ?_, trivial⟩
      · intro d a2 w2 hd hm ⟨u13, u14, u15, u16, e, HB, f0, f1, f2, f3, kP, kO, kR, kS, kU, o4_0, o4_1, o5_2, o5_3⟩ K hK
        subst e
        simp only [Act.put, List.setIfInBounds_toArray, List.set_cons_zero, List.set_cons_succ]
        have hs : d 4 = false := by cases hq : d 4 with | false => rfl | true => (have hz := o4_0 hq; rw [hd] at hz; cases hz)
        have ⟨y0, y1, _, _, _⟩ := (kP.1 hs).1
        clear hs
        go_simp
        exact hK.out _ _ ⟨.agg #[.bool neg, .slice A n c], u14, u15, u16, (by simp only [Act.put, List.setIfInBounds_toArray, List.set_cons_zero, List.set_cons_succ]), HB, (fun _ => rfl), (fun h => (f1 (by simpa using h))), (fun h => f2 (by simpa using h)), (fun h => (f3 (by simpa using h))), (by simpa using (kP)), (by simpa using (kO)), (by simpa using (kR)), (by simpa using (kS)), (by simpa using (kU)), (fun _ => by simp), (fun h => by simpa using o4_1 (by simpa using h)), (fun h => by simpa using o5_2 (by simpa using h)), (fun h => by simpa using o5_3 (by simpa using h))⟩
      · intro d a2 w2 hd hm ⟨u13, u14, u15, u16, e, HB, f0, f1, f2, f3, kP, kO, kR, kS, kU, o4_0, o4_1, o5_2, o5_3⟩ K hK
        subst e
        simp only [Act.put, List.setIfInBounds_toArray, List.set_cons_zero, List.set_cons_succ]
        obtain rfl := f0 (hm ⟨0, .data⟩ (by simp) rfl)
        clear f0
        have hsP : d 4 = false := by cases hq : d 4 with | false => rfl | true => (have hz := o4_1 hq; rw [hd] at hz; cases hz)
        have iP := (kP.1 hsP).2
        clear hsP
        go_simp
        (with_reducible refine (tidyI neg A n c a _ iP).mono ?_)
        rintro e w3 ⟨gg, AA, nn, cc, rfl, hi, hb⟩
        have HB3 := HB.trans (hb.mono HB.size)
        go_wp2_with fail
        exact hK.out _ _ ⟨.agg #[.bool neg, .slice A n c], .agg #[.bool gg, .slice AA nn cc], u15, u16, (by simp only [Act.put, List.setIfInBounds_toArray, List.set_cons_zero, List.set_cons_succ]), HB3, (fun _ => rfl), (fun _ => ⟨_, _, _, _, rfl, hi⟩), (fun h => f2 (by simpa using h)), (fun h => (f3 (by simpa using h)).below hb), (by simpa using (kP).below hb), (by simpa using (kO).below hb), (by simpa using (kR).below hb), (by simpa using (kS).below hb), (by simpa using (kU).below hb), (fun h => by simpa using o4_0 (by simpa using h)), (fun _ => by simp), (fun h => by simpa using o5_2 (by simpa using h)), (fun h => by simpa using o5_3 (by simpa using h))⟩
      · intro d a2 w2 hd hm ⟨u13, u14, u15, u16, e, HB, f0, f1, f2, f3, kP, kO, kR, kS, kU, o4_0, o4_1, o5_2, o5_3⟩ K hK
        subst e
        simp only [Act.put, List.setIfInBounds_toArray, List.set_cons_zero, List.set_cons_succ]
        have hs : d 5 = false := by cases hq : d 5 with | false => rfl | true => (have hz := o5_2 hq; rw [hd] at hz; cases hz)
        have ⟨y0, y1, _, _, _⟩ := (kO.1 hs).1
        clear hs
        go_simp
        exact hK.out _ _ ⟨u13, u14, .agg #[.bool neg', .slice A' m dc], u16, (by simp only [Act.put, List.setIfInBounds_toArray, List.set_cons_zero, List.set_cons_succ]), HB, (fun h => f0 (by simpa using h)), (fun h => (f1 (by simpa using h))), (fun _ => rfl), (fun h => (f3 (by simpa using h))), (by simpa using (kP)), (by simpa using (kO)), (by simpa using (kR)), (by simpa using (kS)), (by simpa using (kU)), (fun h => by simpa using o4_0 (by simpa using h)), (fun h => by simpa using o4_1 (by simpa using h)), (fun _ => by simp), (fun h => by simpa using o5_3 (by simpa using h))⟩
      · intro d a2 w2 hd hm ⟨u13, u14, u15, u16, e, HB, f0, f1, f2, f3, kP, kO, kR, kS, kU, o4_0, o4_1, o5_2, o5_3⟩ K hK
        subst e
        simp only [Act.put, List.setIfInBounds_toArray, List.set_cons_zero, List.set_cons_succ]
        obtain rfl := f2 (hm ⟨2, .data⟩ (by simp) rfl)
        clear f2
        have hsO : d 5 = false := by cases hq : d 5 with | false => rfl | true => (have hz := o5_3 hq; rw [hd] at hz; cases hz)
        have iO := (kO.1 hsO).2
        clear hsO
        go_simp
        (with_reducible refine (tidyI neg' A' m dc b _ iO).mono ?_)
        rintro e w3 ⟨gg, AA, nn, cc, rfl, hi, hb⟩
        have HB3 := HB.trans (hb.mono HB.size)
        go_wp2_with fail
        exact hK.out _ _ ⟨u13, u14, .agg #[.bool neg', .slice A' m dc], .agg #[.bool gg, .slice AA nn cc], (by simp only [Act.put, List.setIfInBounds_toArray, List.set_cons_zero, List.set_cons_succ]), HB3, (fun h => f0 (by simpa using h)), (fun h => (f1 (by simpa using h)).below hb), (fun _ => rfl), (fun _ => ⟨_, _, _, _, rfl, hi⟩), (by simpa using (kP).below hb), (by simpa using (kO).below hb), (by simpa using (kR).below hb), (by simpa using (kS).below hb), (by simpa using (kU).below hb), (fun h => by simpa using o4_0 (by simpa using h)), (fun h => by simpa using o4_1 (by simpa using h)), (fun h => by simpa using o5_2 (by simpa using h)), (fun _ => by simp)⟩
      · intro d a2 w2 hd hm ⟨u13, u14, u15, u16, e, HB, f0, f1, f2, f3, kP, kO, kR, kS, kU, o4_0, o4_1, o5_2, o5_3⟩ K hK
        subst e
        simp only [Act.put, List.setIfInBounds_toArray, List.set_cons_zero, List.set_cons_succ]
        obtain ⟨gg, AA, nn, cc, rfl, hi⟩ := f1 (hm ⟨1, .data⟩ (by simp) rfl)
        have hs := (kP.1 hd).1
        obtain ⟨k0, k1, k2, k3, k4⟩ := id hs
        go_simp
        exact hK.out _ _ ⟨u13, .agg #[.bool gg, .slice AA nn cc], u15, u16, (by simp only [Act.put, List.setIfInBounds_toArray, List.set_cons_zero, List.set_cons_succ]), Below.set2 HB (by omega) _ _, (fun h => f0 (by simpa using h)), (fun h => (f1 (by simpa using h)).set2 hs rfl rfl _ _), (fun h => f2 (by simpa using h)), (fun h => (f3 (by simpa using h)).set2 hs rfl rfl _ _), (by simpa using BlkI.near hi hs), (by simpa using (kO).far2 (by omega) hs rfl rfl _ _), (by simpa using (kR).far2 (by omega) hs rfl rfl _ _), (by simpa using (kS).far2 (by omega) hs rfl rfl _ _), (by simpa using (kU).far2 (by omega) hs rfl rfl _ _), (fun _ => by simpa using hm ⟨0, .phase⟩ (by simp) rfl), (fun _ => by simpa using hm ⟨1, .data⟩ (by simp) rfl), (fun h => by simpa using o5_2 (by simpa using h)), (fun h => by simpa using o5_3 (by simpa using h))⟩
      · intro d a2 w2 hd hm ⟨u13, u14, u15, u16, e, HB, f0, f1, f2, f3, kP, kO, kR, kS, kU, o4_0, o4_1, o5_2, o5_3⟩ K hK
        subst e
        simp only [Act.put, List.setIfInBounds_toArray, List.set_cons_zero, List.set_cons_succ]
        obtain ⟨gg, AA, nn, cc, rfl, hi⟩ := f3 (hm ⟨3, .data⟩ (by simp) rfl)
        have hs := (kO.1 hd).1
        obtain ⟨k0, k1, k2, k3, k4⟩ := id hs
        go_simp
        exact hK.out _ _ ⟨u13, u14, u15, .agg #[.bool gg, .slice AA nn cc], (by simp only [Act.put, List.setIfInBounds_toArray, List.set_cons_zero, List.set_cons_succ]), Below.set2 HB (by omega) _ _, (fun h => f0 (by simpa using h)), (fun h => (f1 (by simpa using h)).set2 hs rfl rfl _ _), (fun h => f2 (by simpa using h)), (fun h => (f3 (by simpa using h)).set2 hs rfl rfl _ _), (by simpa using (kP).far2 (by omega) hs rfl rfl _ _), (by simpa using BlkI.near hi hs), (by simpa using (kR).far2 (by omega) hs rfl rfl _ _), (by simpa using (kS).far2 (by omega) hs rfl rfl _ _), (by simpa using (kU).far2 (by omega) hs rfl rfl _ _), (fun h => by simpa using o4_0 (by simpa using h)), (fun h => by simpa using o4_1 (by simpa using h)), (fun _ => by simpa using hm ⟨2, .phase⟩ (by simp) rfl), (fun _ => by simpa using hm ⟨3, .data⟩ (by simp) rfl)⟩
    · intro d a2 w2 hall ⟨u13, u14, u15, u16, e, HB, f0, f1, f2, f3, kP, kO, kR, kS, kU, o4_0, o4_1, o5_2, o5_3⟩
      subst e
      simp only [Act.put, List.setIfInBounds_toArray, List.set_cons_zero, List.set_cons_succ]
      obtain rfl := f0 (hall _ (by decide))
      obtain rfl := f2 (hall _ (by decide))
      have eP := kP.2 (hall _ (by decide))
      have eO := kO.2 (hall _ (by decide))
      have eR := kR.1 rfl
      have eS := kS.1 rfl
      have eU := kU.1 rfl
      go_wp2_with fail
      go_meet
      exact ⟨HB, eP, eO, eR, eS, eU⟩
  case rest =>
  obtain ⟨B1, ⟨gp, Ap, np, cp, SP1, IP1⟩, ⟨go, Ao, no, co, SO1, IO1⟩, SR1, SS1, SU1⟩ := hcut
  have hnp : np = n := by rw [← IP1.lim.len, HLA.out]
  have hno : no = m := by rw [← IO1.lim.len, HLB.out]
  obtain ⟨V1, rfl⟩ : ∃ x : World, x = wc := ⟨_, rfl⟩
  subst hnp hno
  have hgp : gp = neg := by rw [IP1.sign, HSA.out]
  have hgo : go = neg' := by rw [IO1.sign, HSB.out]
  subst hgp hgo
  clear SP SO SR SS SU IP IO BB HLA HLB HSA HSB
  have HW := Lib.hid (fun W (hW : Below V1.heap.size V1 W) => words_no Ap Ao np cp no co _ _ _ _ W (IP1.lim.below hW) (IO1.lim.below hW) hnm)
  have ⟨c1, c2, _, _, _⟩ := SP1
  have ⟨c3, c4, _, _, _⟩ := SO1
  have DZ : Below V1.heap.size V1 (((V1.alloc (.cells #[.bool false, .slice none 0 0] 27)).alloc (.cells #[.bool false, .slice none 0 0] 27)).alloc (.cells #[.bool false, .slice none 0 0] 27)) := (frame003 V1).1
  obtain ⟨_, SX, SY, SZ⟩ := frame003 V1
  by_cases hnz : np = 0
  · have hmz : ((no : Int) == 0) = false := by simp; omega
    have bn : ((np : Int) == 0) = true := by simp; omega
    clear hnz
    have ⟨c5, c6, _, _, _⟩ := SP1.after DZ
    have ⟨c7, c8, _, _, _⟩ := SO1.after DZ
    go_wp2_with fail
    refine (HW.out _ DZ).mono ?_
    rintro e w5 ⟨⟨x, y, rfl⟩, hd5⟩
    have D5 := DZ.trans (hd5.below _)
    have SP8 := SP1.after D5
    have IP8 := IP1.below D5
    have SO8 := SO1.after D5
    have IO8 := IO1.below D5
    have SR8 := SR1.after D5
    have SS8 := SS1.after D5
    have SU8 := SU1.after D5
    have SX8 := SX.after (hd5.below _)
    have SY8 := SY.after (hd5.below _)
    have SZ8 := SZ.after (hd5.below _)
    have BB8 := B1.trans (D5.mono B1.size)
    have hh7 := SU1.2.2.2.2
    clear hn0 hm0 c1 c2 c3 c4 c5 c6 c7 c8 SP1 IP1 SO1 IO1 SR1 SS1 SU1 SX SY SZ DZ D5 hd5 HW B1 bn
    generalize V1.heap.size = h7 at *
    go_wp2_with fail
    go_cut [] (fun wx => Below w.heap.size w wx ∧ (Slot2 wx w.heap.size (.bool gp) (.slice Ap np cp) ∧ IsInt wx gp Ap np cp a) ∧ (Slot2 wx (w.heap.size + 1) (.bool go) (.slice Ao no co) ∧ IsInt wx go Ao no co b) ∧ Slot2 wx (w.heap.size + 1 + 1) (.bool false) (.slice none 0 0) ∧ Slot2 wx (w.heap.size + 1 + 1 + 1) (.bool false) (.slice none 0 0) ∧ Slot2 wx (w.heap.size + 1 + 1 + 1 + 1) (.bool false) (.slice none 0 0) ∧ IntAt wx h7 ((Nat.gcd a.natAbs b.natAbs : Nat) : Int) ∧ IntAt wx (h7 + 1) (sE a.natAbs b.natAbs) ∧ IntAt wx (h7 + 1 + 1) (tE a.natAbs b.natAbs))
    case first =>
      refine wp_region_ev (fun d a0 a' w' => ∃ u48 u49 u50 u51 u52 u47 u53 u54 u55 : Value, a' = (((((((((a0.put (some 48) u48).put (some 49) u49).put (some 50) u50).put (some 51) u51).put (some 52) u52).put (some 47) u47).put (some 53) u53).put (some 54) u54).put (some 55) u55) ∧ Below w.heap.size w w' ∧ (d 0 = true → u48 = .agg #[.bool gp, .slice Ap np cp]) ∧ (d 1 = true → IntV w' u49 (((a.natAbs : Nat) : Int))) ∧ (d 2 = true → u50 = .agg #[.bool go, .slice Ao no co]) ∧ (d 3 = true → IntV w' u51 (((b.natAbs : Nat) : Int))) ∧ (d 4 = true → Tup3 w' u52 (((Nat.gcd a.natAbs b.natAbs : Nat) : Int)) (sE a.natAbs b.natAbs) (tE a.natAbs b.natAbs)) ∧ (d 5 = true → Tup3 w' u47 (((Nat.gcd a.natAbs b.natAbs : Nat) : Int)) (sE a.natAbs b.natAbs) (tE a.natAbs b.natAbs)) ∧ (d 6 = true → IntV w' u53 (((Nat.gcd a.natAbs b.natAbs : Nat) : Int))) ∧ (d 7 = true → IntV w' u54 (sE a.natAbs b.natAbs)) ∧ (d 8 = true → IntV w' u55 (tE a.natAbs b.natAbs)) ∧ (BlkI w' (w.heap.size) gp Ap np cp (a) false (0)) ∧ (BlkI w' (w.heap.size + 1) go Ao no co (b) false (0)) ∧ (BlkF w' (w.heap.size + 1 + 1) (.bool false) (.slice none 0 0) false (0)) ∧ (BlkF w' (w.heap.size + 1 + 1 + 1) (.bool false) (.slice none 0 0) false (0)) ∧ (BlkF w' (w.heap.size + 1 + 1 + 1 + 1) (.bool false) (.slice none 0 0) false (0)) ∧ (BlkF w' (h7) (.bool false) (.slice none 0 0) (d 9) (((Nat.gcd a.natAbs b.natAbs : Nat) : Int))) ∧ (BlkF w' (h7 + 1) (.bool false) (.slice none 0 0) (d 10) (sE a.natAbs b.natAbs)) ∧ (BlkF w' (h7 + 1 + 1) (.bool false) (.slice none 0 0) (d 11) (tE a.natAbs b.natAbs))) (by kernel_rfl) (by kernel_rfl) ?_ ?_ ?_ ?_
      · intro d d' h a' w' hh
        obtain rfl : d = d' := funext h
        exact hh
      · exact ⟨_, _, _, _, _, _, _, _, _, (by simp only [Act.put, List.setIfInBounds_toArray, List.set_cons_zero, List.set_cons_succ]; rfl), Below.drew (BB8), (fun h => by cases h), (fun h => by cases h), (fun h => by cases h), (fun h => by cases h), (fun h => by cases h), (fun h => by cases h), (fun h => by cases h), (fun h => by cases h), (fun h => by cases h), (BlkI.start SP8 IP8), (BlkI.start SO8 IO8), (BlkF.start (Slot2.drew SR8)), (BlkF.start (Slot2.drew SS8)), (BlkF.start (Slot2.drew SU8)), (BlkF.start (Slot2.drew SX8)), (BlkF.start (Slot2.drew SY8)), (BlkF.start (Slot2.drew SZ8))⟩
      · refine ⟨?_, ?_, ?_, ?_, ?_, ?_, ?_, ?_, ?_, ?_, ?_, ?_, trivial⟩
        · intro d a2 w2 hd hm ⟨u48, u49, u50, u51, u52, u47, u53, u54, u55, e, HB, f0, f1, f2, f3, f4, f5, f6, f7, f8, kP, kO, kR, kS, kU, kX, kY, kZ⟩ K hK
          subst e
          simp only [Act.put, List.setIfInBounds_toArray, List.set_cons_zero, List.set_cons_succ]
          have ⟨y0, y1, _, _, _⟩ := (kP.1 rfl).1
          go_simp
          exact hK.out _ _ ⟨.agg #[.bool gp, .slice Ap np cp], u49, u50, u51, u52, u47, u53, u54, u55, (by simp only [Act.put, List.setIfInBounds_toArray, List.set_cons_zero, List.set_cons_succ]), HB, (fun _ => rfl), (fun h => (f1 (by simpa using h))), (fun h => f2 (by simpa using h)), (fun h => (f3 (by simpa using h))), (fun h => (f4 (by simpa using h))), (fun h => (f5 (by simpa using h))), (fun h => (f6 (by simpa using h))), (fun h => (f7 (by simpa using h))), (fun h => (f8 (by simpa using h))), (by simpa using (kP)), (by simpa using (kO)), (by simpa using (kR)), (by simpa using (kS)), (by simpa using (kU)), (by simpa using (kX)), (by simpa using (kY)), (by simpa using (kZ))⟩
        · intro d a2 w2 hd hm ⟨u48, u49, u50, u51, u52, u47, u53, u54, u55, e, HB, f0, f1, f2, f3, f4, f5, f6, f7, f8, kP, kO, kR, kS, kU, kX, kY, kZ⟩ K hK
          subst e
          simp only [Act.put, List.setIfInBounds_toArray, List.set_cons_zero, List.set_cons_succ]
          obtain rfl := f0 (hm ⟨0, .data⟩ (by simp) rfl)
          clear f0
          have iP := (kP.1 rfl).2
          go_simp
          (with_reducible refine (abs_z gp Ap np cp _ iP sa).mono ?_)
          rintro e w3 ⟨gg, AA, nn, cc, rfl, hi, hb⟩
          have HB3 := HB.trans (hb.mono HB.size)
          go_wp2_with fail
          exact hK.out _ _ ⟨.agg #[.bool gp, .slice Ap np cp], .agg #[.bool gg, .slice AA nn cc], u50, u51, u52, u47, u53, u54, u55, (by simp only [Act.put, List.setIfInBounds_toArray, List.set_cons_zero, List.set_cons_succ]), HB3, (fun _ => rfl), (fun _ => ⟨_, _, _, _, rfl, hi⟩), (fun h => f2 (by simpa using h)), (fun h => (f3 (by simpa using h)).below hb), (fun h => (f4 (by simpa using h)).below hb), (fun h => (f5 (by simpa using h)).below hb), (fun h => (f6 (by simpa using h)).below hb), (fun h => (f7 (by simpa using h)).below hb), (fun h => (f8 (by simpa using h)).below hb), (by simpa using (kP).below hb), (by simpa using (kO).below hb), (by simpa using (kR).below hb), (by simpa using (kS).below hb), (by simpa using (kU).below hb), (by simpa using (kX).below hb), (by simpa using (kY).below hb), (by simpa using (kZ).below hb)⟩
        · intro d a2 w2 hd hm ⟨u48, u49, u50, u51, u52, u47, u53, u54, u55, e, HB, f0, f1, f2, f3, f4, f5, f6, f7, f8, kP, kO, kR, kS, kU, kX, kY, kZ⟩ K hK
          subst e
          simp only [Act.put, List.setIfInBounds_toArray, List.set_cons_zero, List.set_cons_succ]
          have ⟨y0, y1, _, _, _⟩ := (kO.1 rfl).1
          go_simp
          exact hK.out _ _ ⟨u48, u49, .agg #[.bool go, .slice Ao no co], u51, u52, u47, u53, u54, u55, (by simp only [Act.put, List.setIfInBounds_toArray, List.set_cons_zero, List.set_cons_succ]), HB, (fun h => f0 (by simpa using h)), (fun h => (f1 (by simpa using h))), (fun _ => rfl), (fun h => (f3 (by simpa using h))), (fun h => (f4 (by simpa using h))), (fun h => (f5 (by simpa using h))), (fun h => (f6 (by simpa using h))), (fun h => (f7 (by simpa using h))), (fun h => (f8 (by simpa using h))), (by simpa using (kP)), (by simpa using (kO)), (by simpa using (kR)), (by simpa using (kS)), (by simpa using (kU)), (by simpa using (kX)), (by simpa using (kY)), (by simpa using (kZ))⟩
        · intro d a2 w2 hd hm ⟨u48, u49, u50, u51, u52, u47, u53, u54, u55, e, HB, f0, f1, f2, f3, f4, f5, f6, f7, f8, kP, kO, kR, kS, kU, kX, kY, kZ⟩ K hK
          subst e
          simp only [Act.put, List.setIfInBounds_toArray, List.set_cons_zero, List.set_cons_succ]
          obtain rfl := f2 (hm ⟨2, .data⟩ (by simp) rfl)
          clear f2
          have iO := (kO.1 rfl).2
          go_simp
          (with_reducible refine (abs_z go Ao no co _ iO sb).mono ?_)
          rintro e w3 ⟨gg, AA, nn, cc, rfl, hi, hb⟩
          have HB3 := HB.trans (hb.mono HB.size)
          go_wp2_with fail
          exact hK.out _ _ ⟨u48, u49, .agg #[.bool go, .slice Ao no co], .agg #[.bool gg, .slice AA nn cc], u52, u47, u53, u54, u55, (by simp only [Act.put, List.setIfInBounds_toArray, List.set_cons_zero, List.set_cons_succ]), HB3, (fun h => f0 (by simpa using h)), (fun h => (f1 (by simpa using h)).below hb), (fun _ => rfl), (fun _ => ⟨_, _, _, _, rfl, hi⟩), (fun h => (f4 (by simpa using h)).below hb), (fun h => (f5 (by simpa using h)).below hb), (fun h => (f6 (by simpa using h)).below hb), (fun h => (f7 (by simpa using h)).below hb), (fun h => (f8 (by simpa using h)).below hb), (by simpa using (kP).below hb), (by simpa using (kO).below hb), (by simpa using (kR).below hb), (by simpa using (kS).below hb), (by simpa using (kU).below hb), (by simpa using (kX).below hb), (by simpa using (kY).below hb), (by simpa using (kZ).below hb)⟩
        · intro d a2 w2 hd hm ⟨u48, u49, u50, u51, u52, u47, u53, u54, u55, e, HB, f0, f1, f2, f3, f4, f5, f6, f7, f8, kP, kO, kR, kS, kU, kX, kY, kZ⟩ K hK
          subst e
          simp only [Act.put, List.setIfInBounds_toArray, List.set_cons_zero, List.set_cons_succ]
          obtain ⟨G1, A1, N1, C1, rfl, I1⟩ := f1 (hm ⟨1, .data⟩ (by simp) rfl)
          obtain ⟨G3, A3, N3, C3, rfl, I3⟩ := f3 (hm ⟨3, .data⟩ (by simp) rfl)
          go_simp
          (with_reducible refine (exts_r G1 G3 A1 A3 N1 C1 N3 C3 _ I1 I3 (Sz.abs sa) (Sz.abs sb) hk1 hk hab).mono ?_)
          rintro e w3 ⟨g1, A1', n1', c1', g2, A2', n2', c2', g3, A3', n3', c3', rfl, hi1, hi2, hi3, hb⟩
          have HB3 := HB.trans (hb.mono HB.size)
          go_wp2_with fail
          exact hK.out _ _ ⟨u48, .agg #[.bool G1, .slice A1 N1 C1], u50, .agg #[.bool G3, .slice A3 N3 C3], .tuple #[.agg #[.bool g1, .slice A1' n1' c1'], .agg #[.bool g2, .slice A2' n2' c2'], .agg #[.bool g3, .slice A3' n3' c3']], u47, u53, u54, u55, (by simp only [Act.put, List.setIfInBounds_toArray, List.set_cons_zero, List.set_cons_succ]), HB3, (fun h => f0 (by simpa using h)), (fun h => (f1 (by simpa using h)).below hb), (fun h => f2 (by simpa using h)), (fun h => (f3 (by simpa using h)).below hb), (fun _ => ⟨_, _, _, rfl, ⟨_, _, _, _, rfl, hi1⟩, ⟨_, _, _, _, rfl, hi2⟩, ⟨_, _, _, _, rfl, hi3⟩⟩), (fun h => (f5 (by simpa using h)).below hb), (fun h => (f6 (by simpa using h)).below hb), (fun h => (f7 (by simpa using h)).below hb), (fun h => (f8 (by simpa using h)).below hb), (by simpa using (kP).below hb), (by simpa using (kO).below hb), (by simpa using (kR).below hb), (by simpa using (kS).below hb), (by simpa using (kU).below hb), (by simpa using (kX).below hb), (by simpa using (kY).below hb), (by simpa using (kZ).below hb)⟩
        · intro d a2 w2 hd hm ⟨u48, u49, u50, u51, u52, u47, u53, u54, u55, e, HB, f0, f1, f2, f3, f4, f5, f6, f7, f8, kP, kO, kR, kS, kU, kX, kY, kZ⟩ K hK
          subst e
          simp only [Act.put, List.setIfInBounds_toArray, List.set_cons_zero, List.set_cons_succ]
          obtain ⟨V4, U4, T4, rfl, I4, J4, K4⟩ := f4 (hm ⟨4, .data⟩ (by simp) rfl)
          go_simp
          exact hK.out _ _ ⟨u48, u49, u50, u51, .tuple #[V4, U4, T4], .tuple #[V4, U4, T4], u53, u54, u55, (by simp only [Act.put, List.setIfInBounds_toArray, List.set_cons_zero, List.set_cons_succ]), HB, (fun h => f0 (by simpa using h)), (fun h => (f1 (by simpa using h))), (fun h => f2 (by simpa using h)), (fun h => (f3 (by simpa using h))), (fun h => (f4 (by simpa using h))), (fun _ => ⟨V4, U4, T4, rfl, I4, J4, K4⟩), (fun h => (f6 (by simpa using h))), (fun h => (f7 (by simpa using h))), (fun h => (f8 (by simpa using h))), (by simpa using (kP)), (by simpa using (kO)), (by simpa using (kR)), (by simpa using (kS)), (by simpa using (kU)), (by simpa using (kX)), (by simpa using (kY)), (by simpa using (kZ))⟩
        · intro d a2 w2 hd hm ⟨u48, u49, u50, u51, u52, u47, u53, u54, u55, e, HB, f0, f1, f2, f3, f4, f5, f6, f7, f8, kP, kO, kR, kS, kU, kX, kY, kZ⟩ K hK
          subst e
          simp only [Act.put, List.setIfInBounds_toArray, List.set_cons_zero, List.set_cons_succ]
          obtain ⟨V5, U5, T5, rfl, I5, J5, K5⟩ := f5 (hm ⟨5, .data⟩ (by simp) rfl)
          go_simp
          exact hK.out _ _ ⟨u48, u49, u50, u51, u52, .tuple #[V5, U5, T5], V5, u54, u55, (by simp only [Act.put, List.setIfInBounds_toArray, List.set_cons_zero, List.set_cons_succ]), HB, (fun h => f0 (by simpa using h)), (fun h => (f1 (by simpa using h))), (fun h => f2 (by simpa using h)), (fun h => (f3 (by simpa using h))), (fun h => (f4 (by simpa using h))), (fun h => (f5 (by simpa using h))), (fun _ => I5), (fun h => (f7 (by simpa using h))), (fun h => (f8 (by simpa using h))), (by simpa using (kP)), (by simpa using (kO)), (by simpa using (kR)), (by simpa using (kS)), (by simpa using (kU)), (by simpa using (kX)), (by simpa using (kY)), (by simpa using (kZ))⟩
        · intro d a2 w2 hd hm ⟨u48, u49, u50, u51, u52, u47, u53, u54, u55, e, HB, f0, f1, f2, f3, f4, f5, f6, f7, f8, kP, kO, kR, kS, kU, kX, kY, kZ⟩ K hK
          subst e
          simp only [Act.put, List.setIfInBounds_toArray, List.set_cons_zero, List.set_cons_succ]
          obtain ⟨V5, U5, T5, rfl, I5, J5, K5⟩ := f5 (hm ⟨5, .data⟩ (by simp) rfl)
          go_simp
          exact hK.out _ _ ⟨u48, u49, u50, u51, u52, .tuple #[V5, U5, T5], u53, U5, u55, (by simp only [Act.put, List.setIfInBounds_toArray, List.set_cons_zero, List.set_cons_succ]), HB, (fun h => f0 (by simpa using h)), (fun h => (f1 (by simpa using h))), (fun h => f2 (by simpa using h)), (fun h => (f3 (by simpa using h))), (fun h => (f4 (by simpa using h))), (fun h => (f5 (by simpa using h))), (fun h => (f6 (by simpa using h))), (fun _ => J5), (fun h => (f8 (by simpa using h))), (by simpa using (kP)), (by simpa using (kO)), (by simpa using (kR)), (by simpa using (kS)), (by simpa using (kU)), (by simpa using (kX)), (by simpa using (kY)), (by simpa using (kZ))⟩
        · intro d a2 w2 hd hm ⟨u48, u49, u50, u51, u52, u47, u53, u54, u55, e, HB, f0, f1, f2, f3, f4, f5, f6, f7, f8, kP, kO, kR, kS, kU, kX, kY, kZ⟩ K hK
          subst e
          simp only [Act.put, List.setIfInBounds_toArray, List.set_cons_zero, List.set_cons_succ]
          obtain ⟨V5, U5, T5, rfl, I5, J5, K5⟩ := f5 (hm ⟨5, .data⟩ (by simp) rfl)
          go_simp
          exact hK.out _ _ ⟨u48, u49, u50, u51, u52, .tuple #[V5, U5, T5], u53, u54, T5, (by simp only [Act.put, List.setIfInBounds_toArray, List.set_cons_zero, List.set_cons_succ]), HB, (fun h => f0 (by simpa using h)), (fun h => (f1 (by simpa using h))), (fun h => f2 (by simpa using h)), (fun h => (f3 (by simpa using h))), (fun h => (f4 (by simpa using h))), (fun h => (f5 (by simpa using h))), (fun h => (f6 (by simpa using h))), (fun h => (f7 (by simpa using h))), (fun _ => K5), (by simpa using (kP)), (by simpa using (kO)), (by simpa using (kR)), (by simpa using (kS)), (by simpa using (kU)), (by simpa using (kX)), (by simpa using (kY)), (by simpa using (kZ))⟩
        · intro d a2 w2 hd hm ⟨u48, u49, u50, u51, u52, u47, u53, u54, u55, e, HB, f0, f1, f2, f3, f4, f5, f6, f7, f8, kP, kO, kR, kS, kU, kX, kY, kZ⟩ K hK
          subst e
          simp only [Act.put, List.setIfInBounds_toArray, List.set_cons_zero, List.set_cons_succ]
          obtain ⟨gg, AA, nn, cc, rfl, hi⟩ := f6 (hm ⟨6, .data⟩ (by simp) rfl)
          have hs := kX.1 hd
          obtain ⟨k0, k1, k2, k3, k4⟩ := id hs
          go_simp
          exact hK.out _ _ ⟨u48, u49, u50, u51, u52, u47, .agg #[.bool gg, .slice AA nn cc], u54, u55, (by simp only [Act.put, List.setIfInBounds_toArray, List.set_cons_zero, List.set_cons_succ]), Below.set2 HB (by omega) _ _, (fun h => f0 (by simpa using h)), (fun h => (f1 (by simpa using h)).set2 hs rfl rfl _ _), (fun h => f2 (by simpa using h)), (fun h => (f3 (by simpa using h)).set2 hs rfl rfl _ _), (fun h => (f4 (by simpa using h)).set2 hs rfl rfl _ _), (fun h => (f5 (by simpa using h)).set2 hs rfl rfl _ _), (fun h => (f6 (by simpa using h)).set2 hs rfl rfl _ _), (fun h => (f7 (by simpa using h)).set2 hs rfl rfl _ _), (fun h => (f8 (by simpa using h)).set2 hs rfl rfl _ _), (by simpa using (kP).far2 (by omega) hs rfl rfl _ _), (by simpa using (kO).far2 (by omega) hs rfl rfl _ _), (by simpa using (kR).far2 (by omega) hs rfl rfl _ _), (by simpa using (kS).far2 (by omega) hs rfl rfl _ _), (by simpa using (kU).far2 (by omega) hs rfl rfl _ _), (by simpa using BlkF.near hi hs rfl rfl), (by simpa using (kY).far2 (by omega) hs rfl rfl _ _), (by simpa using (kZ).far2 (by omega) hs rfl rfl _ _)⟩
        · intro d a2 w2 hd hm ⟨u48, u49, u50, u51, u52, u47, u53, u54, u55, e, HB, f0, f1, f2, f3, f4, f5, f6, f7, f8, kP, kO, kR, kS, kU, kX, kY, kZ⟩ K hK
          subst e
          simp only [Act.put, List.setIfInBounds_toArray, List.set_cons_zero, List.set_cons_succ]
          obtain ⟨gg, AA, nn, cc, rfl, hi⟩ := f7 (hm ⟨7, .data⟩ (by simp) rfl)
          have hs := kY.1 hd
          obtain ⟨k0, k1, k2, k3, k4⟩ := id hs
          go_simp
          exact hK.out _ _ ⟨u48, u49, u50, u51, u52, u47, u53, .agg #[.bool gg, .slice AA nn cc], u55, (by simp only [Act.put, List.setIfInBounds_toArray, List.set_cons_zero, List.set_cons_succ]), Below.set2 HB (by omega) _ _, (fun h => f0 (by simpa using h)), (fun h => (f1 (by simpa using h)).set2 hs rfl rfl _ _), (fun h => f2 (by simpa using h)), (fun h => (f3 (by simpa using h)).set2 hs rfl rfl _ _), (fun h => (f4 (by simpa using h)).set2 hs rfl rfl _ _), (fun h => (f5 (by simpa using h)).set2 hs rfl rfl _ _), (fun h => (f6 (by simpa using h)).set2 hs rfl rfl _ _), (fun h => (f7 (by simpa using h)).set2 hs rfl rfl _ _), (fun h => (f8 (by simpa using h)).set2 hs rfl rfl _ _), (by simpa using (kP).far2 (by omega) hs rfl rfl _ _), (by simpa using (kO).far2 (by omega) hs rfl rfl _ _), (by simpa using (kR).far2 (by omega) hs rfl rfl _ _), (by simpa using (kS).far2 (by omega) hs rfl rfl _ _), (by simpa using (kU).far2 (by omega) hs rfl rfl _ _), (by simpa using (kX).far2 (by omega) hs rfl rfl _ _), (by simpa using BlkF.near hi hs rfl rfl), (by simpa using (kZ).far2 (by omega) hs rfl rfl _ _)⟩
        · intro d a2 w2 hd hm ⟨u48, u49, u50, u51, u52, u47, u53, u54, u55, e, HB, f0, f1, f2, f3, f4, f5, f6, f7, f8, kP, kO, kR, kS, kU, kX, kY, kZ⟩ K hK
          subst e
          simp only [Act.put, List.setIfInBounds_toArray, List.set_cons_zero, List.set_cons_succ]
          obtain ⟨gg, AA, nn, cc, rfl, hi⟩ := f8 (hm ⟨8, .data⟩ (by simp) rfl)
          have hs := kZ.1 hd
          obtain ⟨k0, k1, k2, k3, k4⟩ := id hs
          go_simp
          exact hK.out _ _ ⟨u48, u49, u50, u51, u52, u47, u53, u54, .agg #[.bool gg, .slice AA nn cc], (by simp only [Act.put, List.setIfInBounds_toArray, List.set_cons_zero, List.set_cons_succ]), Below.set2 HB (by omega) _ _, (fun h => f0 (by simpa using h)), (fun h => (f1 (by simpa using h)).set2 hs rfl rfl _ _), (fun h => f2 (by simpa using h)), (fun h => (f3 (by simpa using h)).set2 hs rfl rfl _ _), (fun h => (f4 (by simpa using h)).set2 hs rfl rfl _ _), (fun h => (f5 (by simpa using h)).set2 hs rfl rfl _ _), (fun h => (f6 (by simpa using h)).set2 hs rfl rfl _ _), (fun h => (f7 (by simpa using h)).set2 hs rfl rfl _ _), (fun h => (f8 (by simpa using h)).set2 hs rfl rfl _ _), (by simpa using (kP).far2 (by omega) hs rfl rfl _ _), (by simpa using (kO).far2 (by omega) hs rfl rfl _ _), (by simpa using (kR).far2 (by omega) hs rfl rfl _ _), (by simpa using (kS).far2 (by omega) hs rfl rfl _ _), (by simpa using (kU).far2 (by omega) hs rfl rfl _ _), (by simpa using (kX).far2 (by omega) hs rfl rfl _ _), (by simpa using (kY).far2 (by omega) hs rfl rfl _ _), (by simpa using BlkF.near hi hs rfl rfl)⟩
      · intro d a2 w2 hall ⟨u48, u49, u50, u51, u52, u47, u53, u54, u55, e, HB, f0, f1, f2, f3, f4, f5, f6, f7, f8, kP, kO, kR, kS, kU, kX, kY, kZ⟩
        subst e
        simp only [Act.put, List.setIfInBounds_toArray, List.set_cons_zero, List.set_cons_succ]
        obtain rfl := f0 (hall _ (by decide))
        obtain rfl := f2 (hall _ (by decide))
        have eP := kP.1 rfl
        have eO := kO.1 rfl
        have eR := kR.1 rfl
        have eS := kS.1 rfl
        have eU := kU.1 rfl
        have eX := kX.2 (hall _ (by decide))
        have eY := kY.2 (hall _ (by decide))
        have eZ := kZ.2 (hall _ (by decide))
        go_wp2_with fail
        go_meet
        exact ⟨HB, eP, eO, eR, eS, eU, eX, eY, eZ⟩
    case rest =>
    obtain ⟨BB9, ⟨SP9, IP9⟩, ⟨SO9, IO9⟩, SR9, SS9, SU9, ⟨gx, Ax, nx, cx, SX9, IX9⟩, ⟨gy, Ay, ny, cy, SY9, IY9⟩, ⟨gz, Az, nz, cz, SZ9, IZ9⟩⟩ := hcut
    clear SP8 IP8 SO8 IO8 SR8 SS8 SU8 SX8 SY8 SZ8 BB8
    go_wp2_with fail
    go_cut [] (fun wx => Below w.heap.size w wx ∧ IntAt wx (w.heap.size + 1 + 1) ((Nat.gcd a.natAbs b.natAbs : Nat) : Int) ∧ IntAt wx (w.heap.size + 1 + 1 + 1) sv ∧ IntAt wx (w.heap.size + 1 + 1 + 1 + 1) tv)
    case first =>
      refine wp_region_ev (fun d a0 a' w' => ∃ u56 u57 u58 u59 u60 u61 u62 u63 u64 : Value, a' = (((((((((a0.put (some 56) u56).put (some 57) u57).put (some 58) u58).put (some 59) u59).put (some 60) u60).put (some 61) u61).put (some 62) u62).put (some 63) u63).put (some 64) u64) ∧ Below w.heap.size w w' ∧ (d 0 = true → IntV w' u56 (((Nat.gcd a.natAbs b.natAbs : Nat) : Int))) ∧ (d 1 = true → u57 = .agg #[.bool gy, .slice Ay ny cy]) ∧ (d 2 = true → u58 = .pointer (some ⟨w.heap.size, 0, none⟩)) ∧ (d 3 = true → u59 = .bool gp) ∧ (d 4 = true → IntV w' u60 (sv)) ∧ (d 5 = true → u61 = .agg #[.bool gz, .slice Az nz cz]) ∧ (d 6 = true → u62 = .pointer (some ⟨w.heap.size + 1, 0, none⟩)) ∧ (d 7 = true → u63 = .bool go) ∧ (d 8 = true → IntV w' u64 (tv)) ∧ (BlkI w' (w.heap.size) gp Ap np cp (a) false (0)) ∧ (BlkI w' (w.heap.size + 1) go Ao no co (b) false (0)) ∧ (BlkF w' (w.heap.size + 1 + 1) (.bool false) (.slice none 0 0) (d 9) (((Nat.gcd a.natAbs b.natAbs : Nat) : Int))) ∧ (BlkF w' (w.heap.size + 1 + 1 + 1) (.bool false) (.slice none 0 0) (d 10) (sv)) ∧ (BlkF w' (w.heap.size + 1 + 1 + 1 + 1) (.bool false) (.slice none 0 0) (d 11) (tv)) ∧ (BlkI w' (h7) gx Ax nx cx (((Nat.gcd a.natAbs b.natAbs : Nat) : Int)) false (0)) ∧ (BlkI w' (h7 + 1) gy Ay ny cy (sE a.natAbs b.natAbs) false (0)) ∧ (BlkI w' (h7 + 1 + 1) gz Az nz cz (tE a.natAbs b.natAbs) false (0))) (by kernel_rfl) (by kernel_rfl) ?_ ?_ ?_ ?_
      · intro d d' h a' w' hh
        obtain rfl : d = d' := funext h
        exact hh
      · exact ⟨_, _, _, _, _, _, _, _, _, (by simp only [Act.put, List.setIfInBounds_toArray, List.set_cons_zero, List.set_cons_succ]; rfl), Below.drew (BB9), (fun h => by cases h), (fun h => by cases h), (fun h => by cases h), (fun h => by cases h), (fun h => by cases h), (fun h => by cases h), (fun h => by cases h), (fun h => by cases h), (fun h => by cases h), (BlkI.start SP9 IP9), (BlkI.start SO9 IO9), (BlkF.start (Slot2.drew SR9)), (BlkF.start (Slot2.drew SS9)), (BlkF.start (Slot2.drew SU9)), (BlkI.start SX9 IX9), (BlkI.start SY9 IY9), (BlkI.start SZ9 IZ9)⟩
      · refine ⟨?_, ?_, ?_, ?_, ?_, ?_, ?_, ?_, ?_, ?_, ?_, ?_, trivial⟩
        · intro d a2 w2 hd hm ⟨u56, u57, u58, u59, u60, u61, u62, u63, u64, e, HB, f0, f1, f2, f3, f4, f5, f6, f7, f8, kP, kO, kR, kS, kU, kX, kY, kZ⟩ K hK
          subst e
          simp only [Act.put, List.setIfInBounds_toArray, List.set_cons_zero, List.set_cons_succ]
          have ⟨⟨y0, y1, _, _, _⟩, iL⟩ := kX.1 rfl
          go_simp
          exact hK.out _ _ ⟨.agg #[.bool gx, .slice Ax nx cx], u57, u58, u59, u60, u61, u62, u63, u64, (by simp only [Act.put, List.setIfInBounds_toArray, List.set_cons_zero, List.set_cons_succ]), HB, (fun _ => ⟨_, _, _, _, rfl, iL⟩), (fun h => f1 (by simpa using h)), (fun h => f2 (by simpa using h)), (fun h => f3 (by simpa using h)), (fun h => (f4 (by simpa using h))), (fun h => f5 (by simpa using h)), (fun h => f6 (by simpa using h)), (fun h => f7 (by simpa using h)), (fun h => (f8 (by simpa using h))), (by simpa using (kP)), (by simpa using (kO)), (by simpa using (kR)), (by simpa using (kS)), (by simpa using (kU)), (by simpa using (kX)), (by simpa using (kY)), (by simpa using (kZ))⟩
        · intro d a2 w2 hd hm ⟨u56, u57, u58, u59, u60, u61, u62, u63, u64, e, HB, f0, f1, f2, f3, f4, f5, f6, f7, f8, kP, kO, kR, kS, kU, kX, kY, kZ⟩ K hK
          subst e
          simp only [Act.put, List.setIfInBounds_toArray, List.set_cons_zero, List.set_cons_succ]
          have ⟨y0, y1, _, _, _⟩ := (kY.1 rfl).1
          go_simp
          exact hK.out _ _ ⟨u56, .agg #[.bool gy, .slice Ay ny cy], u58, u59, u60, u61, u62, u63, u64, (by simp only [Act.put, List.setIfInBounds_toArray, List.set_cons_zero, List.set_cons_succ]), HB, (fun h => (f0 (by simpa using h))), (fun _ => rfl), (fun h => f2 (by simpa using h)), (fun h => f3 (by simpa using h)), (fun h => (f4 (by simpa using h))), (fun h => f5 (by simpa using h)), (fun h => f6 (by simpa using h)), (fun h => f7 (by simpa using h)), (fun h => (f8 (by simpa using h))), (by simpa using (kP)), (by simpa using (kO)), (by simpa using (kR)), (by simpa using (kS)), (by simpa using (kU)), (by simpa using (kX)), (by simpa using (kY)), (by simpa using (kZ))⟩
        · intro d a2 w2 hd hm ⟨u56, u57, u58, u59, u60, u61, u62, u63, u64, e, HB, f0, f1, f2, f3, f4, f5, f6, f7, f8, kP, kO, kR, kS, kU, kX, kY, kZ⟩ K hK
          subst e
          simp only [Act.put, List.setIfInBounds_toArray, List.set_cons_zero, List.set_cons_succ]
          go_simp
          exact hK.out _ _ ⟨u56, u57, .pointer (some ⟨w.heap.size, 0, none⟩), u59, u60, u61, u62, u63, u64, (by simp only [Act.put, List.setIfInBounds_toArray, List.set_cons_zero, List.set_cons_succ]), HB, (fun h => (f0 (by simpa using h))), (fun h => f1 (by simpa using h)), (fun _ => rfl), (fun h => f3 (by simpa using h)), (fun h => (f4 (by simpa using h))), (fun h => f5 (by simpa using h)), (fun h => f6 (by simpa using h)), (fun h => f7 (by simpa using h)), (fun h => (f8 (by simpa using h))), (by simpa using (kP)), (by simpa using (kO)), (by simpa using (kR)), (by simpa using (kS)), (by simpa using (kU)), (by simpa using (kX)), (by simpa using (kY)), (by simpa using (kZ))⟩
        · intro d a2 w2 hd hm ⟨u56, u57, u58, u59, u60, u61, u62, u63, u64, e, HB, f0, f1, f2, f3, f4, f5, f6, f7, f8, kP, kO, kR, kS, kU, kX, kY, kZ⟩ K hK
          subst e
          simp only [Act.put, List.setIfInBounds_toArray, List.set_cons_zero, List.set_cons_succ]
          obtain rfl := f2 (hm ⟨2, .data⟩ (by simp) rfl)
          clear f2
          have ⟨y0, y1, _, _, _⟩ := (kP.1 rfl).1
          go_simp
          exact hK.out _ _ ⟨u56, u57, .pointer (some ⟨w.heap.size, 0, none⟩), .bool gp, u60, u61, u62, u63, u64, (by simp only [Act.put, List.setIfInBounds_toArray, List.set_cons_zero, List.set_cons_succ]), HB, (fun h => (f0 (by simpa using h))), (fun h => f1 (by simpa using h)), (fun _ => rfl), (fun _ => rfl), (fun h => (f4 (by simpa using h))), (fun h => f5 (by simpa using h)), (fun h => f6 (by simpa using h)), (fun h => f7 (by simpa using h)), (fun h => (f8 (by simpa using h))), (by simpa using (kP)), (by simpa using (kO)), (by simpa using (kR)), (by simpa using (kS)), (by simpa using (kU)), (by simpa using (kX)), (by simpa using (kY)), (by simpa using (kZ))⟩
        · intro d a2 w2 hd hm ⟨u56, u57, u58, u59, u60, u61, u62, u63, u64, e, HB, f0, f1, f2, f3, f4, f5, f6, f7, f8, kP, kO, kR, kS, kU, kX, kY, kZ⟩ K hK
          subst e
          simp only [Act.put, List.setIfInBounds_toArray, List.set_cons_zero, List.set_cons_succ]
          obtain rfl := f1 (hm ⟨1, .data⟩ (by simp) rfl)
          clear f1
          obtain rfl := f3 (hm ⟨3, .data⟩ (by simp) rfl)
          clear f3
          have iY := (kY.1 rfl).2
          go_simp
          (with_reducible refine (withSign_v gy gp Ay ny cy _ sv _ iY HSV).mono ?_)
          rintro e w3 ⟨gg, AA, nn, cc, rfl, hi, hb⟩
          have HB3 := HB.trans (hb.mono HB.size)
          go_wp2_with fail
          exact hK.out _ _ ⟨u56, .agg #[.bool gy, .slice Ay ny cy], u58, .bool gp, .agg #[.bool gg, .slice AA nn cc], u61, u62, u63, u64, (by simp only [Act.put, List.setIfInBounds_toArray, List.set_cons_zero, List.set_cons_succ]), HB3, (fun h => (f0 (by simpa using h)).below hb), (fun _ => rfl), (fun h => f2 (by simpa using h)), (fun _ => rfl), (fun _ => ⟨_, _, _, _, rfl, hi⟩), (fun h => f5 (by simpa using h)), (fun h => f6 (by simpa using h)), (fun h => f7 (by simpa using h)), (fun h => (f8 (by simpa using h)).below hb), (by simpa using (kP).below hb), (by simpa using (kO).below hb), (by simpa using (kR).below hb), (by simpa using (kS).below hb), (by simpa using (kU).below hb), (by simpa using (kX).below hb), (by simpa using (kY).below hb), (by simpa using (kZ).below hb)⟩
        · intro d a2 w2 hd hm ⟨u56, u57, u58, u59, u60, u61, u62, u63, u64, e, HB, f0, f1, f2, f3, f4, f5, f6, f7, f8, kP, kO, kR, kS, kU, kX, kY, kZ⟩ K hK
          subst e
          simp only [Act.put, List.setIfInBounds_toArray, List.set_cons_zero, List.set_cons_succ]
          have ⟨y0, y1, _, _, _⟩ := (kZ.1 rfl).1
          go_simp
          exact hK.out _ _ ⟨u56, u57, u58, u59, u60, .agg #[.bool gz, .slice Az nz cz], u62, u63, u64, (by simp only [Act.put, List.setIfInBounds_toArray, List.set_cons_zero, List.set_cons_succ]), HB, (fun h => (f0 (by simpa using h))), (fun h => f1 (by simpa using h)), (fun h => f2 (by simpa using h)), (fun h => f3 (by simpa using h)), (fun h => (f4 (by simpa using h))), (fun _ => rfl), (fun h => f6 (by simpa using h)), (fun h => f7 (by simpa using h)), (fun h => (f8 (by simpa using h))), (by simpa using (kP)), (by simpa using (kO)), (by simpa using (kR)), (by simpa using (kS)), (by simpa using (kU)), (by simpa using (kX)), (by simpa using (kY)), (by simpa using (kZ))⟩
        · intro d a2 w2 hd hm ⟨u56, u57, u58, u59, u60, u61, u62, u63, u64, e, HB, f0, f1, f2, f3, f4, f5, f6, f7, f8, kP, kO, kR, kS, kU, kX, kY, kZ⟩ K hK
          subst e
          simp only [Act.put, List.setIfInBounds_toArray, List.set_cons_zero, List.set_cons_succ]
          go_simp
          exact hK.out _ _ ⟨u56, u57, u58, u59, u60, u61, .pointer (some ⟨w.heap.size + 1, 0, none⟩), u63, u64, (by simp only [Act.put, List.setIfInBounds_toArray, List.set_cons_zero, List.set_cons_succ]), HB, (fun h => (f0 (by simpa using h))), (fun h => f1 (by simpa using h)), (fun h => f2 (by simpa using h)), (fun h => f3 (by simpa using h)), (fun h => (f4 (by simpa using h))), (fun h => f5 (by simpa using h)), (fun _ => rfl), (fun h => f7 (by simpa using h)), (fun h => (f8 (by simpa using h))), (by simpa using (kP)), (by simpa using (kO)), (by simpa using (kR)), (by simpa using (kS)), (by simpa using (kU)), (by simpa using (kX)), (by simpa using (kY)), (by simpa using (kZ))⟩
        · intro d a2 w2 hd hm ⟨u56, u57, u58, u59, u60, u61, u62, u63, u64, e, HB, f0, f1, f2, f3, f4, f5, f6, f7, f8, kP, kO, kR, kS, kU, kX, kY, kZ⟩ K hK
          subst e
          simp only [Act.put, List.setIfInBounds_toArray, List.set_cons_zero, List.set_cons_succ]
          obtain rfl := f6 (hm ⟨6, .data⟩ (by simp) rfl)
          clear f6
          have ⟨y0, y1, _, _, _⟩ := (kO.1 rfl).1
          go_simp
          exact hK.out _ _ ⟨u56, u57, u58, u59, u60, u61, .pointer (some ⟨w.heap.size + 1, 0, none⟩), .bool go, u64, (by simp only [Act.put, List.setIfInBounds_toArray, List.set_cons_zero, List.set_cons_succ]), HB, (fun h => (f0 (by simpa using h))), (fun h => f1 (by simpa using h)), (fun h => f2 (by simpa using h)), (fun h => f3 (by simpa using h)), (fun h => (f4 (by simpa using h))), (fun h => f5 (by simpa using h)), (fun _ => rfl), (fun _ => rfl), (fun h => (f8 (by simpa using h))), (by simpa using (kP)), (by simpa using (kO)), (by simpa using (kR)), (by simpa using (kS)), (by simpa using (kU)), (by simpa using (kX)), (by simpa using (kY)), (by simpa using (kZ))⟩
        · intro d a2 w2 hd hm ⟨u56, u57, u58, u59, u60, u61, u62, u63, u64, e, HB, f0, f1, f2, f3, f4, f5, f6, f7, f8, kP, kO, kR, kS, kU, kX, kY, kZ⟩ K hK
          subst e
          simp only [Act.put, List.setIfInBounds_toArray, List.set_cons_zero, List.set_cons_succ]
          obtain rfl := f5 (hm ⟨5, .data⟩ (by simp) rfl)
          clear f5
          obtain rfl := f7 (hm ⟨7, .data⟩ (by simp) rfl)
          clear f7
          have iZ := (kZ.1 rfl).2
          go_simp
          (with_reducible refine (withSign_v gz go Az nz cz _ tv _ iZ HTV).mono ?_)
          rintro e w3 ⟨gg, AA, nn, cc, rfl, hi, hb⟩
          have HB3 := HB.trans (hb.mono HB.size)
          go_wp2_with fail
          exact hK.out _ _ ⟨u56, u57, u58, u59, u60, .agg #[.bool gz, .slice Az nz cz], u62, .bool go, .agg #[.bool gg, .slice AA nn cc], (by simp only [Act.put, List.setIfInBounds_toArray, List.set_cons_zero, List.set_cons_succ]), HB3, (fun h => (f0 (by simpa using h)).below hb), (fun h => f1 (by simpa using h)), (fun h => f2 (by simpa using h)), (fun h => f3 (by simpa using h)), (fun h => (f4 (by simpa using h)).below hb), (fun _ => rfl), (fun h => f6 (by simpa using h)), (fun _ => rfl), (fun _ => ⟨_, _, _, _, rfl, hi⟩), (by simpa using (kP).below hb), (by simpa using (kO).below hb), (by simpa using (kR).below hb), (by simpa using (kS).below hb), (by simpa using (kU).below hb), (by simpa using (kX).below hb), (by simpa using (kY).below hb), (by simpa using (kZ).below hb)⟩
        · intro d a2 w2 hd hm ⟨u56, u57, u58, u59, u60, u61, u62, u63, u64, e, HB, f0, f1, f2, f3, f4, f5, f6, f7, f8, kP, kO, kR, kS, kU, kX, kY, kZ⟩ K hK
          subst e
          simp only [Act.put, List.setIfInBounds_toArray, List.set_cons_zero, List.set_cons_succ]
          obtain ⟨gg, AA, nn, cc, rfl, hi⟩ := f0 (hm ⟨0, .data⟩ (by simp) rfl)
          have hs := kR.1 hd
          obtain ⟨k0, k1, k2, k3, k4⟩ := id hs
          go_simp
          exact hK.out _ _ ⟨.agg #[.bool gg, .slice AA nn cc], u57, u58, u59, u60, u61, u62, u63, u64, (by simp only [Act.put, List.setIfInBounds_toArray, List.set_cons_zero, List.set_cons_succ]), Below.set2 HB (by omega) _ _, (fun h => (f0 (by simpa using h)).set2 hs rfl rfl _ _), (fun h => f1 (by simpa using h)), (fun h => f2 (by simpa using h)), (fun h => f3 (by simpa using h)), (fun h => (f4 (by simpa using h)).set2 hs rfl rfl _ _), (fun h => f5 (by simpa using h)), (fun h => f6 (by simpa using h)), (fun h => f7 (by simpa using h)), (fun h => (f8 (by simpa using h)).set2 hs rfl rfl _ _), (by simpa using (kP).far2 (by omega) hs rfl rfl _ _), (by simpa using (kO).far2 (by omega) hs rfl rfl _ _), (by simpa using BlkF.near hi hs rfl rfl), (by simpa using (kS).far2 (by omega) hs rfl rfl _ _), (by simpa using (kU).far2 (by omega) hs rfl rfl _ _), (by simpa using (kX).far2 (by omega) hs rfl rfl _ _), (by simpa using (kY).far2 (by omega) hs rfl rfl _ _), (by simpa using (kZ).far2 (by omega) hs rfl rfl _ _)⟩
        · intro d a2 w2 hd hm ⟨u56, u57, u58, u59, u60, u61, u62, u63, u64, e, HB, f0, f1, f2, f3, f4, f5, f6, f7, f8, kP, kO, kR, kS, kU, kX, kY, kZ⟩ K hK
          subst e
          simp only [Act.put, List.setIfInBounds_toArray, List.set_cons_zero, List.set_cons_succ]
          obtain ⟨gg, AA, nn, cc, rfl, hi⟩ := f4 (hm ⟨4, .data⟩ (by simp) rfl)
          have hs := kS.1 hd
          obtain ⟨k0, k1, k2, k3, k4⟩ := id hs
          go_simp
          exact hK.out _ _ ⟨u56, u57, u58, u59, .agg #[.bool gg, .slice AA nn cc], u61, u62, u63, u64, (by simp only [Act.put, List.setIfInBounds_toArray, List.set_cons_zero, List.set_cons_succ]), Below.set2 HB (by omega) _ _, (fun h => (f0 (by simpa using h)).set2 hs rfl rfl _ _), (fun h => f1 (by simpa using h)), (fun h => f2 (by simpa using h)), (fun h => f3 (by simpa using h)), (fun h => (f4 (by simpa using h)).set2 hs rfl rfl _ _), (fun h => f5 (by simpa using h)), (fun h => f6 (by simpa using h)), (fun h => f7 (by simpa using h)), (fun h => (f8 (by simpa using h)).set2 hs rfl rfl _ _), (by simpa using (kP).far2 (by omega) hs rfl rfl _ _), (by simpa using (kO).far2 (by omega) hs rfl rfl _ _), (by simpa using (kR).far2 (by omega) hs rfl rfl _ _), (by simpa using BlkF.near hi hs rfl rfl), (by simpa using (kU).far2 (by omega) hs rfl rfl _ _), (by simpa using (kX).far2 (by omega) hs rfl rfl _ _), (by simpa using (kY).far2 (by omega) hs rfl rfl _ _), (by simpa using (kZ).far2 (by omega) hs rfl rfl _ _)⟩
        · intro d a2 w2 hd hm ⟨u56, u57, u58, u59, u60, u61, u62, u63, u64, e, HB, f0, f1, f2, f3, f4, f5, f6, f7, f8, kP, kO, kR, kS, kU, kX, kY, kZ⟩ K hK
          subst e
          simp only [Act.put, List.setIfInBounds_toArray, List.set_cons_zero, List.set_cons_succ]
          obtain ⟨gg, AA, nn, cc, rfl, hi⟩ := f8 (hm ⟨8, .data⟩ (by simp) rfl)
          have hs := kU.1 hd
          obtain ⟨k0, k1, k2, k3, k4⟩ := id hs
          go_simp
          exact hK.out _ _ ⟨u56, u57, u58, u59, u60, u61, u62, u63, .agg #[.bool gg, .slice AA nn cc], (by simp only [Act.put, List.setIfInBounds_toArray, List.set_cons_zero, List.set_cons_succ]), Below.set2 HB (by omega) _ _, (fun h => (f0 (by simpa using h)).set2 hs rfl rfl _ _), (fun h => f1 (by simpa using h)), (fun h => f2 (by simpa using h)), (fun h => f3 (by simpa using h)), (fun h => (f4 (by simpa using h)).set2 hs rfl rfl _ _), (fun h => f5 (by simpa using h)), (fun h => f6 (by simpa using h)), (fun h => f7 (by simpa using h)), (fun h => (f8 (by simpa using h)).set2 hs rfl rfl _ _), (by simpa using (kP).far2 (by omega) hs rfl rfl _ _), (by simpa using (kO).far2 (by omega) hs rfl rfl _ _), (by simpa using (kR).far2 (by omega) hs rfl rfl _ _), (by simpa using (kS).far2 (by omega) hs rfl rfl _ _), (by simpa using BlkF.near hi hs rfl rfl), (by simpa using (kX).far2 (by omega) hs rfl rfl _ _), (by simpa using (kY).far2 (by omega) hs rfl rfl _ _), (by simpa using (kZ).far2 (by omega) hs rfl rfl _ _)⟩
      · intro d a2 w2 hall ⟨u56, u57, u58, u59, u60, u61, u62, u63, u64, e, HB, f0, f1, f2, f3, f4, f5, f6, f7, f8, kP, kO, kR, kS, kU, kX, kY, kZ⟩
        subst e
        simp only [Act.put, List.setIfInBounds_toArray, List.set_cons_zero, List.set_cons_succ]
        obtain rfl := f1 (hall _ (by decide))
        obtain rfl := f2 (hall _ (by decide))
        obtain rfl := f3 (hall _ (by decide))
        obtain rfl := f5 (hall _ (by decide))
        obtain rfl := f6 (hall _ (by decide))
        obtain rfl := f7 (hall _ (by decide))
        have eP := kP.1 rfl
        have eO := kO.1 rfl
        have eR := kR.2 (hall _ (by decide))
        have eS := kS.2 (hall _ (by decide))
        have eU := kU.2 (hall _ (by decide))
        have eX := kX.1 rfl
        have eY := kY.1 rfl
        have eZ := kZ.1 rfl
        go_wp2_with fail
        go_meet
        exact ⟨HB, eR, eS, eU⟩
    case rest =>
    obtain ⟨BF, ⟨k1, K1, l1, e1, F1, J1⟩, ⟨k2, K2, l2, e2, F2, J2⟩, ⟨k3, K3, l3, e3, F3, J3⟩⟩ := hcut
    have ⟨f0, f1, _, _, _⟩ := F1
    have ⟨f2, f3, _, _, _⟩ := F2
    have ⟨f4, f5, _, _, _⟩ := F3
    go_wp2
    exact bodyPost_ret (v := .tuple #[.agg #[.bool k1, .slice K1 l1 e1], .agg #[.bool k2, .slice K2 l2 e2], .agg #[.bool k3, .slice K3 l3 e3]]) (by simp [results, Tryd.results23, go_sem, f0, f1, f2, f3, f4, f5]) rfl
      ⟨_, _, _, _, _, _, _, _, _, _, _, _, rfl, J1, J2, J3, BF⟩
  · have bn : ((np : Int) == 0) = false := by simp; omega
    clear hnz
    have ⟨c5, c6, _, _, _⟩ := SP1.after DZ
    have ⟨c7, c8, _, _, _⟩ := SO1.after DZ
    go_wp2_with fail
    refine (HW.out _ DZ).mono ?_
    rintro e w5 ⟨⟨x, y, rfl⟩, hd5⟩
    have D5 := DZ.trans (hd5.below _)
    have SP8 := SP1.after D5
    have IP8 := IP1.below D5
    have SO8 := SO1.after D5
    have IO8 := IO1.below D5
    have SR8 := SR1.after D5
    have SS8 := SS1.after D5
    have SU8 := SU1.after D5
    have SX8 := SX.after (hd5.below _)
    have SY8 := SY.after (hd5.below _)
    have SZ8 := SZ.after (hd5.below _)
    have BB8 := B1.trans (D5.mono B1.size)
    have hh7 := SU1.2.2.2.2
    clear hn0 hm0 c1 c2 c3 c4 c5 c6 c7 c8 SP1 IP1 SO1 IO1 SR1 SS1 SU1 SX SY SZ DZ D5 hd5 HW B1 bn
    generalize V1.heap.size = h7 at *
    go_wp2_with fail
    go_cut [] (fun wx => Below w.heap.size w wx ∧ (Slot2 wx w.heap.size (.bool gp) (.slice Ap np cp) ∧ IsInt wx gp Ap np cp a) ∧ (Slot2 wx (w.heap.size + 1) (.bool go) (.slice Ao no co) ∧ IsInt wx go Ao no co b) ∧ Slot2 wx (w.heap.size + 1 + 1) (.bool false) (.slice none 0 0) ∧ Slot2 wx (w.heap.size + 1 + 1 + 1) (.bool false) (.slice none 0 0) ∧ Slot2 wx (w.heap.size + 1 + 1 + 1 + 1) (.bool false) (.slice none 0 0) ∧ IntAt wx h7 ((Nat.gcd a.natAbs b.natAbs : Nat) : Int) ∧ IntAt wx (h7 + 1) (sE a.natAbs b.natAbs) ∧ IntAt wx (h7 + 1 + 1) (tE a.natAbs b.natAbs))
    case first =>
      refine wp_region_ev (fun d a0 a' w' => ∃ u48 u49 u50 u51 u52 u47 u53 u54 u55 : Value, a' = (((((((((a0.put (some 48) u48).put (some 49) u49).put (some 50) u50).put (some 51) u51).put (some 52) u52).put (some 47) u47).put (some 53) u53).put (some 54) u54).put (some 55) u55) ∧ Below w.heap.size w w' ∧ (d 0 = true → u48 = .agg #[.bool gp, .slice Ap np cp]) ∧ (d 1 = true → IntV w' u49 (((a.natAbs : Nat) : Int))) ∧ (d 2 = true → u50 = .agg #[.bool go, .slice Ao no co]) ∧ (d 3 = true → IntV w' u51 (((b.natAbs : Nat) : Int))) ∧ (d 4 = true → Tup3 w' u52 (((Nat.gcd a.natAbs b.natAbs : Nat) : Int)) (sE a.natAbs b.natAbs) (tE a.natAbs b.natAbs)) ∧ (d 5 = true → Tup3 w' u47 (((Nat.gcd a.natAbs b.natAbs : Nat) : Int)) (sE a.natAbs b.natAbs) (tE a.natAbs b.natAbs)) ∧ (d 6 = true → IntV w' u53 (((Nat.gcd a.natAbs b.natAbs : Nat) : Int))) ∧ (d 7 = true → IntV w' u54 (sE a.natAbs b.natAbs)) ∧ (d 8 = true → IntV w' u55 (tE a.natAbs b.natAbs)) ∧ (BlkI w' (w.heap.size) gp Ap np cp (a) false (0)) ∧ (BlkI w' (w.heap.size + 1) go Ao no co (b) false (0)) ∧ (BlkF w' (w.heap.size + 1 + 1) (.bool false) (.slice none 0 0) false (0)) ∧ (BlkF w' (w.heap.size + 1 + 1 + 1) (.bool false) (.slice none 0 0) false (0)) ∧ (BlkF w' (w.heap.size + 1 + 1 + 1 + 1) (.bool false) (.slice none 0 0) false (0)) ∧ (BlkF w' (h7) (.bool false) (.slice none 0 0) (d 9) (((Nat.gcd a.natAbs b.natAbs : Nat) : Int))) ∧ (BlkF w' (h7 + 1) (.bool false) (.slice none 0 0) (d 10) (sE a.natAbs b.natAbs)) ∧ (BlkF w' (h7 + 1 + 1) (.bool false) (.slice none 0 0) (d 11) (tE a.natAbs b.natAbs))) (by kernel_rfl) (by kernel_rfl) ?_ ?_ ?_ ?_
      · intro d d' h a' w' hh
        obtain rfl : d = d' := funext h
        exact hh
      · exact ⟨_, _, _, _, _, _, _, _, _, (by simp only [Act.put, List.setIfInBounds_toArray, List.set_cons_zero, List.set_cons_succ]; rfl), Below.drew (BB8), (fun h => by cases h), (fun h => by cases h), (fun h => by cases h), (fun h => by cases h), (fun h => by cases h), (fun h => by cases h), (fun h => by cases h), (fun h => by cases h), (fun h => by cases h), (BlkI.start SP8 IP8), (BlkI.start SO8 IO8), (BlkF.start (Slot2.drew SR8)), (BlkF.start (Slot2.drew SS8)), (BlkF.start (Slot2.drew SU8)), (BlkF.start (Slot2.drew SX8)), (BlkF.start (Slot2.drew SY8)), (BlkF.start (Slot2.drew SZ8))⟩
      · refine ⟨?_, ?_, ?_, ?_, ?_, ?_, ?_, ?_, ?_, ?_, ?_, ?_, trivial⟩
        · intro d a2 w2 hd hm ⟨u48, u49, u50, u51, u52, u47, u53, u54, u55, e, HB, f0, f1, f2, f3, f4, f5, f6, f7, f8, kP, kO, kR, kS, kU, kX, kY, kZ⟩ K hK
          subst e
          simp only [Act.put, List.setIfInBounds_toArray, List.set_cons_zero, List.set_cons_succ]
          have ⟨y0, y1, _, _, _⟩ := (kP.1 rfl).1
          go_simp
          exact hK.out _ _ ⟨.agg #[.bool gp, .slice Ap np cp], u49, u50, u51, u52, u47, u53, u54, u55, (by simp only [Act.put, List.setIfInBounds_toArray, List.set_cons_zero, List.set_cons_succ]), HB, (fun _ => rfl), (fun h => (f1 (by simpa using h))), (fun h => f2 (by simpa using h)), (fun h => (f3 (by simpa using h))), (fun h => (f4 (by simpa using h))), (fun h => (f5 (by simpa using h))), (fun h => (f6 (by simpa using h))), (fun h => (f7 (by simpa using h))), (fun h => (f8 (by simpa using h))), (by simpa using (kP)), (by simpa using (kO)), (by simpa using (kR)), (by simpa using (kS)), (by simpa using (kU)), (by simpa using (kX)), (by simpa using (kY)), (by simpa using (kZ))⟩
        · intro d a2 w2 hd hm ⟨u48, u49, u50, u51, u52, u47, u53, u54, u55, e, HB, f0, f1, f2, f3, f4, f5, f6, f7, f8, kP, kO, kR, kS, kU, kX, kY, kZ⟩ K hK
          subst e
          simp only [Act.put, List.setIfInBounds_toArray, List.set_cons_zero, List.set_cons_succ]
          obtain rfl := f0 (hm ⟨0, .data⟩ (by simp) rfl)
          clear f0
          have iP := (kP.1 rfl).2
          go_simp
          (with_reducible refine (abs_z gp Ap np cp _ iP sa).mono ?_)
          rintro e w3 ⟨gg, AA, nn, cc, rfl, hi, hb⟩
          have HB3 := HB.trans (hb.mono HB.size)
          go_wp2_with fail
          exact hK.out _ _ ⟨.agg #[.bool gp, .slice Ap np cp], .agg #[.bool gg, .slice AA nn cc], u50, u51, u52, u47, u53, u54, u55, (by simp only [Act.put, List.setIfInBounds_toArray, List.set_cons_zero, List.set_cons_succ]), HB3, (fun _ => rfl), (fun _ => ⟨_, _, _, _, rfl, hi⟩), (fun h => f2 (by simpa using h)), (fun h => (f3 (by simpa using h)).below hb), (fun h => (f4 (by simpa using h)).below hb), (fun h => (f5 (by simpa using h)).below hb), (fun h => (f6 (by simpa using h)).below hb), (fun h => (f7 (by simpa using h)).below hb), (fun h => (f8 (by simpa using h)).below hb), (by simpa using (kP).below hb), (by simpa using (kO).below hb), (by simpa using (kR).below hb), (by simpa using (kS).below hb), (by simpa using (kU).below hb), (by simpa using (kX).below hb), (by simpa using (kY).below hb), (by simpa using (kZ).below hb)⟩
        · intro d a2 w2 hd hm ⟨u48, u49, u50, u51, u52, u47, u53, u54, u55, e, HB, f0, f1, f2, f3, f4, f5, f6, f7, f8, kP, kO, kR, kS, kU, kX, kY, kZ⟩ K hK
          subst e
          simp only [Act.put, List.setIfInBounds_toArray, List.set_cons_zero, List.set_cons_succ]
          have ⟨y0, y1, _, _, _⟩ := (kO.1 rfl).1
          go_simp
          exact hK.out _ _ ⟨u48, u49, .agg #[.bool go, .slice Ao no co], u51, u52, u47, u53, u54, u55, (by simp only [Act.put, List.setIfInBounds_toArray, List.set_cons_zero, List.set_cons_succ]), HB, (fun h => f0 (by simpa using h)), (fun h => (f1 (by simpa using h))), (fun _ => rfl), (fun h => (f3 (by simpa using h))), (fun h => (f4 (by simpa using h))), (fun h => (f5 (by simpa using h))), (fun h => (f6 (by simpa using h))), (fun h => (f7 (by simpa using h))), (fun h => (f8 (by simpa using h))), (by simpa using (kP)), (by simpa using (kO)), (by simpa using (kR)), (by simpa using (kS)), (by simpa using (kU)), (by simpa using (kX)), (by simpa using (kY)), (by simpa using (kZ))⟩
        · intro d a2 w2 hd hm ⟨u48, u49, u50, u51, u52, u47, u53, u54, u55, e, HB, f0, f1, f2, f3, f4, f5, f6, f7, f8, kP, kO, kR, kS, kU, kX, kY, kZ⟩ K hK
          subst e
          simp only [Act.put, List.setIfInBounds_toArray, List.set_cons_zero, List.set_cons_succ]
          obtain rfl := f2 (hm ⟨2, .data⟩ (by simp) rfl)
          clear f2
          have iO := (kO.1 rfl).2
          go_simp
          (with_reducible refine (abs_z go Ao no co _ iO sb).mono ?_)
          rintro e w3 ⟨gg, AA, nn, cc, rfl, hi, hb⟩
          have HB3 := HB.trans (hb.mono HB.size)
          go_wp2_with fail
          exact hK.out _ _ ⟨u48, u49, .agg #[.bool go, .slice Ao no co], .agg #[.bool gg, .slice AA nn cc], u52, u47, u53, u54, u55, (by simp only [Act.put, List.setIfInBounds_toArray, List.set_cons_zero, List.set_cons_succ]), HB3, (fun h => f0 (by simpa using h)), (fun h => (f1 (by simpa using h)).below hb), (fun _ => rfl), (fun _ => ⟨_, _, _, _, rfl, hi⟩), (fun h => (f4 (by simpa using h)).below hb), (fun h => (f5 (by simpa using h)).below hb), (fun h => (f6 (by simpa using h)).below hb), (fun h => (f7 (by simpa using h)).below hb), (fun h => (f8 (by simpa using h)).below hb), (by simpa using (kP).below hb), (by simpa using (kO).below hb), (by simpa using (kR).below hb), (by simpa using (kS).below hb), (by simpa using (kU).below hb), (by simpa using (kX).below hb), (by simpa using (kY).below hb), (by simpa using (kZ).below hb)⟩
        · intro d a2 w2 hd hm ⟨u48, u49, u50, u51, u52, u47, u53, u54, u55, e, HB, f0, f1, f2, f3, f4, f5, f6, f7, f8, kP, kO, kR, kS, kU, kX, kY, kZ⟩ K hK
          subst e
          simp only [Act.put, List.setIfInBounds_toArray, List.set_cons_zero, List.set_cons_succ]
          obtain ⟨G1, A1, N1, C1, rfl, I1⟩ := f1 (hm ⟨1, .data⟩ (by simp) rfl)
          obtain ⟨G3, A3, N3, C3, rfl, I3⟩ := f3 (hm ⟨3, .data⟩ (by simp) rfl)
          go_simp
          (with_reducible refine (exts_r G1 G3 A1 A3 N1 C1 N3 C3 _ I1 I3 (Sz.abs sa) (Sz.abs sb) hk1 hk hab).mono ?_)
          rintro e w3 ⟨g1, A1', n1', c1', g2, A2', n2', c2', g3, A3', n3', c3', rfl, hi1, hi2, hi3, hb⟩
          have HB3 := HB.trans (hb.mono HB.size)
          go_wp2_with fail
          exact hK.out _ _ ⟨u48, .agg #[.bool G1, .slice A1 N1 C1], u50, .agg #[.bool G3, .slice A3 N3 C3], .tuple #[.agg #[.bool g1, .slice A1' n1' c1'], .agg #[.bool g2, .slice A2' n2' c2'], .agg #[.bool g3, .slice A3' n3' c3']], u47, u53, u54, u55, (by simp only [Act.put, List.setIfInBounds_toArray, List.set_cons_zero, List.set_cons_succ]), HB3, (fun h => f0 (by simpa using h)), (fun h => (f1 (by simpa using h)).below hb), (fun h => f2 (by simpa using h)), (fun h => (f3 (by simpa using h)).below hb), (fun _ => ⟨_, _, _, rfl, ⟨_, _, _, _, rfl, hi1⟩, ⟨_, _, _, _, rfl, hi2⟩, ⟨_, _, _, _, rfl, hi3⟩⟩), (fun h => (f5 (by simpa using h)).below hb), (fun h => (f6 (by simpa using h)).below hb), (fun h => (f7 (by simpa using h)).below hb), (fun h => (f8 (by simpa using h)).below hb), (by simpa using (kP).below hb), (by simpa using (kO).below hb), (by simpa using (kR).below hb), (by simpa using (kS).below hb), (by simpa using (kU).below hb), (by simpa using (kX).below hb), (by simpa using (kY).below hb), (by simpa using (kZ).below hb)⟩
        · intro d a2 w2 hd hm ⟨u48, u49, u50, u51, u52, u47, u53, u54, u55, e, HB, f0, f1, f2, f3, f4, f5, f6, f7, f8, kP, kO, kR, kS, kU, kX, kY, kZ⟩ K hK
          subst e
          simp only [Act.put, List.setIfInBounds_toArray, List.set_cons_zero, List.set_cons_succ]
          obtain ⟨V4, U4, T4, rfl, I4, J4, K4⟩ := f4 (hm ⟨4, .data⟩ (by simp) rfl)
          go_simp
          exact hK.out _ _ ⟨u48, u49, u50, u51, .tuple #[V4, U4, T4], .tuple #[V4, U4, T4], u53, u54, u55, (by simp only [Act.put, List.setIfInBounds_toArray, List.set_cons_zero, List.set_cons_succ]), HB, (fun h => f0 (by simpa using h)), (fun h => (f1 (by simpa using h))), (fun h => f2 (by simpa using h)), (fun h => (f3 (by simpa using h))), (fun h => (f4 (by simpa using h))), (fun _ => ⟨V4, U4, T4, rfl, I4, J4, K4⟩), (fun h => (f6 (by simpa using h))), (fun h => (f7 (by simpa using h))), (fun h => (f8 (by simpa using h))), (by simpa using (kP)), (by simpa using (kO)), (by simpa using (kR)), (by simpa using (kS)), (by simpa using (kU)), (by simpa using (kX)), (by simpa using (kY)), (by simpa using (kZ))⟩
        · intro d a2 w2 hd hm ⟨u48, u49, u50, u51, u52, u47, u53, u54, u55, e, HB, f0, f1, f2, f3, f4, f5, f6, f7, f8, kP, kO, kR, kS, kU, kX, kY, kZ⟩ K hK
          subst e
          simp only [Act.put, List.setIfInBounds_toArray, List.set_cons_zero, List.set_cons_succ]
          obtain ⟨V5, U5, T5, rfl, I5, J5, K5⟩ := f5 (hm ⟨5, .data⟩ (by simp) rfl)
          go_simp
          exact hK.out _ _ ⟨u48, u49, u50, u51, u52, .tuple #[V5, U5, T5], V5, u54, u55, (by simp only [Act.put, List.setIfInBounds_toArray, List.set_cons_zero, List.set_cons_succ]), HB, (fun h => f0 (by simpa using h)), (fun h => (f1 (by simpa using h))), (fun h => f2 (by simpa using h)), (fun h => (f3 (by simpa using h))), (fun h => (f4 (by simpa using h))), (fun h => (f5 (by simpa using h))), (fun _ => I5), (fun h => (f7 (by simpa using h))), (fun h => (f8 (by simpa using h))), (by simpa using (kP)), (by simpa using (kO)), (by simpa using (kR)), (by simpa using (kS)), (by simpa using (kU)), (by simpa using (kX)), (by simpa using (kY)), (by simpa using (kZ))⟩
        · intro d a2 w2 hd hm ⟨u48, u49, u50, u51, u52, u47, u53, u54, u55, e, HB, f0, f1, f2, f3, f4, f5, f6, f7, f8, kP, kO, kR, kS, kU, kX, kY, kZ⟩ K hK
          subst e
          simp only [Act.put, List.setIfInBounds_toArray, List.set_cons_zero, List.set_cons_succ]
          obtain ⟨V5, U5, T5, rfl, I5, J5, K5⟩ := f5 (hm ⟨5, .data⟩ (by simp) rfl)
          go_simp
          exact hK.out _ _ ⟨u48, u49, u50, u51, u52, .tuple #[V5, U5, T5], u53, U5, u55, (by simp only [Act.put, List.setIfInBounds_toArray, List.set_cons_zero, List.set_cons_succ]), HB, (fun h => f0 (by simpa using h)), (fun h => (f1 (by simpa using h))), (fun h => f2 (by simpa using h)), (fun h => (f3 (by simpa using h))), (fun h => (f4 (by simpa using h))), (fun h => (f5 (by simpa using h))), (fun h => (f6 (by simpa using h))), (fun _ => J5), (fun h => (f8 (by simpa using h))), (by simpa using (kP)), (by simpa using (kO)), (by simpa using (kR)), (by simpa using (kS)), (by simpa using (kU)), (by simpa using (kX)), (by simpa using (kY)), (by simpa using (kZ))⟩
        · intro d a2 w2 hd hm ⟨u48, u49, u50, u51, u52, u47, u53, u54, u55, e, HB, f0, f1, f2, f3, f4, f5, f6, f7, f8, kP, kO, kR, kS, kU, kX, kY, kZ⟩ K hK
          subst e
          simp only [Act.put, List.setIfInBounds_toArray, List.set_cons_zero, List.set_cons_succ]
          obtain ⟨V5, U5, T5, rfl, I5, J5, K5⟩ := f5 (hm ⟨5, .data⟩ (by simp) rfl)
          go_simp
          exact hK.out _ _ ⟨u48, u49, u50, u51, u52, .tuple #[V5, U5, T5], u53, u54, T5, (by simp only [Act.put, List.setIfInBounds_toArray, List.set_cons_zero, List.set_cons_succ]), HB, (fun h => f0 (by simpa using h)), (fun h => (f1 (by simpa using h))), (fun h => f2 (by simpa using h)), (fun h => (f3 (by simpa using h))), (fun h => (f4 (by simpa using h))), (fun h => (f5 (by simpa using h))), (fun h => (f6 (by simpa using h))), (fun h => (f7 (by simpa using h))), (fun _ => K5), (by simpa using (kP)), (by simpa using (kO)), (by simpa using (kR)), (by simpa using (kS)), (by simpa using (kU)), (by simpa using (kX)), (by simpa using (kY)), (by simpa using (kZ))⟩
        · intro d a2 w2 hd hm ⟨u48, u49, u50, u51, u52, u47, u53, u54, u55, e, HB, f0, f1, f2, f3, f4, f5, f6, f7, f8, kP, kO, kR, kS, kU, kX, kY, kZ⟩ K hK
          subst e
          simp only [Act.put, List.setIfInBounds_toArray, List.set_cons_zero, List.set_cons_succ]
          obtain ⟨gg, AA, nn, cc, rfl, hi⟩ := f6 (hm ⟨6, .data⟩ (by simp) rfl)
          have hs := kX.1 hd
          obtain ⟨k0, k1, k2, k3, k4⟩ := id hs
          go_simp
          exact hK.out _ _ ⟨u48, u49, u50, u51, u52, u47, .agg #[.bool gg, .slice AA nn cc], u54, u55, (by simp only [Act.put, List.setIfInBounds_toArray, List.set_cons_zero, List.set_cons_succ]), Below.set2 HB (by omega) _ _, (fun h => f0 (by simpa using h)), (fun h => (f1 (by simpa using h)).set2 hs rfl rfl _ _), (fun h => f2 (by simpa using h)), (fun h => (f3 (by simpa using h)).set2 hs rfl rfl _ _), (fun h => (f4 (by simpa using h)).set2 hs rfl rfl _ _), (fun h => (f5 (by simpa using h)).set2 hs rfl rfl _ _), (fun h => (f6 (by simpa using h)).set2 hs rfl rfl _ _), (fun h => (f7 (by simpa using h)).set2 hs rfl rfl _ _), (fun h => (f8 (by simpa using h)).set2 hs rfl rfl _ _), (by simpa using (kP).far2 (by omega) hs rfl rfl _ _), (by simpa using (kO).far2 (by omega) hs rfl rfl _ _), (by simpa using (kR).far2 (by omega) hs rfl rfl _ _), (by simpa using (kS).far2 (by omega) hs rfl rfl _ _), (by simpa using (kU).far2 (by omega) hs rfl rfl _ _), (by simpa using BlkF.near hi hs rfl rfl), (by simpa using (kY).far2 (by omega) hs rfl rfl _ _), (by simpa using (kZ).far2 (by omega) hs rfl rfl _ _)⟩
        · intro d a2 w2 hd hm ⟨u48, u49, u50, u51, u52, u47, u53, u54, u55, e, HB, f0, f1, f2, f3, f4, f5, f6, f7, f8, kP, kO, kR, kS, kU, kX, kY, kZ⟩ K hK
          subst e
          simp only [Act.put, List.setIfInBounds_toArray, List.set_cons_zero, List.set_cons_succ]
          obtain ⟨gg, AA, nn, cc, rfl, hi⟩ := f7 (hm ⟨7, .data⟩ (by simp) rfl)
          have hs := kY.1 hd
          obtain ⟨k0, k1, k2, k3, k4⟩ := id hs
          go_simp
          exact hK.out _ _ ⟨u48, u49, u50, u51, u52, u47, u53, .agg #[.bool gg, .slice AA nn cc], u55, (by simp only [Act.put, List.setIfInBounds_toArray, List.set_cons_zero, List.set_cons_succ]), Below.set2 HB (by omega) _ _, (fun h => f0 (by simpa using h)), (fun h => (f1 (by simpa using h)).set2 hs rfl rfl _ _), (fun h => f2 (by simpa using h)), (fun h => (f3 (by simpa using h)).set2 hs rfl rfl _ _), (fun h => (f4 (by simpa using h)).set2 hs rfl rfl _ _), (fun h => (f5 (by simpa using h)).set2 hs rfl rfl _ _), (fun h => (f6 (by simpa using h)).set2 hs rfl rfl _ _), (fun h => (f7 (by simpa using h)).set2 hs rfl rfl _ _), (fun h => (f8 (by simpa using h)).set2 hs rfl rfl _ _), (by simpa using (kP).far2 (by omega) hs rfl rfl _ _), (by simpa using (kO).far2 (by omega) hs rfl rfl _ _), (by simpa using (kR).far2 (by omega) hs rfl rfl _ _), (by simpa using (kS).far2 (by omega) hs rfl rfl _ _), (by simpa using (kU).far2 (by omega) hs rfl rfl _ _), (by simpa using (kX).far2 (by omega) hs rfl rfl _ _), (by simpa using BlkF.near hi hs rfl rfl), (by simpa using (kZ).far2 (by omega) hs rfl rfl _ _)⟩
        · intro d a2 w2 hd hm ⟨u48, u49, u50, u51, u52, u47, u53, u54, u55, e, HB, f0, f1, f2, f3, f4, f5, f6, f7, f8, kP, kO, kR, kS, kU, kX, kY, kZ⟩ K hK
          subst e
          simp only [Act.put, List.setIfInBounds_toArray, List.set_cons_zero, List.set_cons_succ]
          obtain ⟨gg, AA, nn, cc, rfl, hi⟩ := f8 (hm ⟨8, .data⟩ (by simp) rfl)
          have hs := kZ.1 hd
          obtain ⟨k0, k1, k2, k3, k4⟩ := id hs
          go_simp
          exact hK.out _ _ ⟨u48, u49, u50, u51, u52, u47, u53, u54, .agg #[.bool gg, .slice AA nn cc], (by simp only [Act.put, List.setIfInBounds_toArray, List.set_cons_zero, List.set_cons_succ]), Below.set2 HB (by omega) _ _, (fun h => f0 (by simpa using h)), (fun h => (f1 (by simpa using h)).set2 hs rfl rfl _ _), (fun h => f2 (by simpa using h)), (fun h => (f3 (by simpa using h)).set2 hs rfl rfl _ _), (fun h => (f4 (by simpa using h)).set2 hs rfl rfl _ _), (fun h => (f5 (by simpa using h)).set2 hs rfl rfl _ _), (fun h => (f6 (by simpa using h)).set2 hs rfl rfl _ _), (fun h => (f7 (by simpa using h)).set2 hs rfl rfl _ _), (fun h => (f8 (by simpa using h)).set2 hs rfl rfl _ _), (by simpa using (kP).far2 (by omega) hs rfl rfl _ _), (by simpa using (kO).far2 (by omega) hs rfl rfl _ _), (by simpa using (kR).far2 (by omega) hs rfl rfl _ _), (by simpa using (kS).far2 (by omega) hs rfl rfl _ _), (by simpa using (kU).far2 (by omega) hs rfl rfl _ _), (by simpa using (kX).far2 (by omega) hs rfl rfl _ _), (by simpa using (kY).far2 (by omega) hs rfl rfl _ _), (by simpa using BlkF.near hi hs rfl rfl)⟩
      · intro d a2 w2 hall ⟨u48, u49, u50, u51, u52, u47, u53, u54, u55, e, HB, f0, f1, f2, f3, f4, f5, f6, f7, f8, kP, kO, kR, kS, kU, kX, kY, kZ⟩
        subst e
        simp only [Act.put, List.setIfInBounds_toArray, List.set_cons_zero, List.set_cons_succ]
        obtain rfl := f0 (hall _ (by decide))
        obtain rfl := f2 (hall _ (by decide))
        have eP := kP.1 rfl
        have eO := kO.1 rfl
        have eR := kR.1 rfl
        have eS := kS.1 rfl
        have eU := kU.1 rfl
        have eX := kX.2 (hall _ (by decide))
        have eY := kY.2 (hall _ (by decide))
        have eZ := kZ.2 (hall _ (by decide))
        go_wp2_with fail
        go_meet
        exact ⟨HB, eP, eO, eR, eS, eU, eX, eY, eZ⟩
    case rest =>
    obtain ⟨BB9, ⟨SP9, IP9⟩, ⟨SO9, IO9⟩, SR9, SS9, SU9, ⟨gx, Ax, nx, cx, SX9, IX9⟩, ⟨gy, Ay, ny, cy, SY9, IY9⟩, ⟨gz, Az, nz, cz, SZ9, IZ9⟩⟩ := hcut
    clear SP8 IP8 SO8 IO8 SR8 SS8 SU8 SX8 SY8 SZ8 BB8
    go_wp2_with fail
    go_cut [] (fun wx => Below w.heap.size w wx ∧ IntAt wx (w.heap.size + 1 + 1) ((Nat.gcd a.natAbs b.natAbs : Nat) : Int) ∧ IntAt wx (w.heap.size + 1 + 1 + 1) sv ∧ IntAt wx (w.heap.size + 1 + 1 + 1 + 1) tv)
    case first =>
      refine wp_region_ev (fun d a0 a' w' => ∃ u56 u57 u58 u59 u60 u61 u62 u63 u64 : Value, a' = (((((((((a0.put (some 56) u56).put (some 57) u57).put (some 58) u58).put (some 59) u59).put (some 60) u60).put (some 61) u61).put (some 62) u62).put (some 63) u63).put (some 64) u64) ∧ Below w.heap.size w w' ∧ (d 0 = true → IntV w' u56 (((Nat.gcd a.natAbs b.natAbs : Nat) : Int))) ∧ (d 1 = true → u57 = .agg #[.bool gy, .slice Ay ny cy]) ∧ (d 2 = true → u58 = .pointer (some ⟨w.heap.size, 0, none⟩)) ∧ (d 3 = true → u59 = .bool gp) ∧ (d 4 = true → IntV w' u60 (sv)) ∧ (d 5 = true → u61 = .agg #[.bool gz, .slice Az nz cz]) ∧ (d 6 = true → u62 = .pointer (some ⟨w.heap.size + 1, 0, none⟩)) ∧ (d 7 = true → u63 = .bool go) ∧ (d 8 = true → IntV w' u64 (tv)) ∧ (BlkI w' (w.heap.size) gp Ap np cp (a) false (0)) ∧ (BlkI w' (w.heap.size + 1) go Ao no co (b) false (0)) ∧ (BlkF w' (w.heap.size + 1 + 1) (.bool false) (.slice none 0 0) (d 9) (((Nat.gcd a.natAbs b.natAbs : Nat) : Int))) ∧ (BlkF w' (w.heap.size + 1 + 1 + 1) (.bool false) (.slice none 0 0) (d 10) (sv)) ∧ (BlkF w' (w.heap.size + 1 + 1 + 1 + 1) (.bool false) (.slice none 0 0) (d 11) (tv)) ∧ (BlkI w' (h7) gx Ax nx cx (((Nat.gcd a.natAbs b.natAbs : Nat) : Int)) false (0)) ∧ (BlkI w' (h7 + 1) gy Ay ny cy (sE a.natAbs b.natAbs) false (0)) ∧ (BlkI w' (h7 + 1 + 1) gz Az nz cz (tE a.natAbs b.natAbs) false (0))) (by kernel_rfl) (by kernel_rfl) ?_ ?_ ?_ ?_
      · intro d d' h a' w' hh
        obtain rfl : d = d' := funext h
        exact hh
      · exact ⟨_, _, _, _, _, _, _, _, _, (by simp only [Act.put, List.setIfInBounds_toArray, List.set_cons_zero, List.set_cons_succ]; rfl), Below.drew (BB9), (fun h => by cases h), (fun h => by cases h), (fun h => by cases h), (fun h => by cases h), (fun h => by cases h), (fun h => by cases h), (fun h => by cases h), (fun h => by cases h), (fun h => by cases h), (BlkI.start SP9 IP9), (BlkI.start SO9 IO9), (BlkF.start (Slot2.drew SR9)), (BlkF.start (Slot2.drew SS9)), (BlkF.start (Slot2.drew SU9)), (BlkI.start SX9 IX9), (BlkI.start SY9 IY9), (BlkI.start SZ9 IZ9)⟩
      · refine ⟨?_, ?_, ?_, ?_, ?_, ?_, ?_, ?_, ?_, ?_, ?_, ?_, trivial⟩
        · intro d a2 w2 hd hm ⟨u56, u57, u58, u59, u60, u61, u62, u63, u64, e, HB, f0, f1, f2, f3, f4, f5, f6, f7, f8, kP, kO, kR, kS, kU, kX, kY, kZ⟩ K hK
          subst e
          simp only [Act.put, List.setIfInBounds_toArray, List.set_cons_zero, List.set_cons_succ]
          have ⟨⟨y0, y1, _, _, _⟩, iL⟩ := kX.1 rfl
          go_simp
          exact hK.out _ _ ⟨.agg #[.bool gx, .slice Ax nx cx], u57, u58, u59, u60, u61, u62, u63, u64, (by simp only [Act.put, List.setIfInBounds_toArray, List.set_cons_zero, List.set_cons_succ]), HB, (fun _ => ⟨_, _, _, _, rfl, iL⟩), (fun h => f1 (by simpa using h)), (fun h => f2 (by simpa using h)), (fun h => f3 (by simpa using h)), (fun h => (f4 (by simpa using h))), (fun h => f5 (by simpa using h)), (fun h => f6 (by simpa using h)), (fun h => f7 (by simpa using h)), (fun h => (f8 (by simpa using h))), (by simpa using (kP)), (by simpa using (kO)), (by simpa using (kR)), (by simpa using (kS)), (by simpa using (kU)), (by simpa using (kX)), (by simpa using (kY)), (by simpa using (kZ))⟩
        · intro d a2 w2 hd hm ⟨u56, u57, u58, u59, u60, u61, u62, u63, u64, e, HB, f0, f1, f2, f3, f4, f5, f6, f7, f8, kP, kO, kR, kS, kU, kX, kY, kZ⟩ K hK
          subst e
          simp only [Act.put, List.setIfInBounds_toArray, List.set_cons_zero, List.set_cons_succ]
          have ⟨y0, y1, _, _, _⟩ := (kY.1 rfl).1
          go_simp
          exact hK.out _ _ ⟨u56, .agg #[.bool gy, .slice Ay ny cy], u58, u59, u60, u61, u62, u63, u64, (by simp only [Act.put, List.setIfInBounds_toArray, List.set_cons_zero, List.set_cons_succ]), HB, (fun h => (f0 (by simpa using h))), (fun _ => rfl), (fun h => f2 (by simpa using h)), (fun h => f3 (by simpa using h)), (fun h => (f4 (by simpa using h))), (fun h => f5 (by simpa using h)), (fun h => f6 (by simpa using h)), (fun h => f7 (by simpa using h)), (fun h => (f8 (by simpa using h))), (by simpa using (kP)), (by simpa using (kO)), (by simpa using (kR)), (by simpa using (kS)), (by simpa using (kU)), (by simpa using (kX)), (by simpa using (kY)), (by simpa using (kZ))⟩
        · intro d a2 w2 hd hm ⟨u56, u57, u58, u59, u60, u61, u62, u63, u64, e, HB, f0, f1, f2, f3, f4, f5, f6, f7, f8, kP, kO, kR, kS, kU, kX, kY, kZ⟩ K hK
          subst e
          simp only [Act.put, List.setIfInBounds_toArray, List.set_cons_zero, List.set_cons_succ]
          go_simp
          exact hK.out _ _ ⟨u56, u57, .pointer (some ⟨w.heap.size, 0, none⟩), u59, u60, u61, u62, u63, u64, (by simp only [Act.put, List.setIfInBounds_toArray, List.set_cons_zero, List.set_cons_succ]), HB, (fun h => (f0 (by simpa using h))), (fun h => f1 (by simpa using h)), (fun _ => rfl), (fun h => f3 (by simpa using h)), (fun h => (f4 (by simpa using h))), (fun h => f5 (by simpa using h)), (fun h => f6 (by simpa using h)), (fun h => f7 (by simpa using h)), (fun h => (f8 (by simpa using h))), (by simpa using (kP)), (by simpa using (kO)), (by simpa using (kR)), (by simpa using (kS)), (by simpa using (kU)), (by simpa using (kX)), (by simpa using (kY)), (by simpa using (kZ))⟩
        · intro d a2 w2 hd hm ⟨u56, u57, u58, u59, u60, u61, u62, u63, u64, e, HB, f0, f1, f2, f3, f4, f5, f6, f7, f8, kP, kO, kR, kS, kU, kX, kY, kZ⟩ K hK
          subst e
          simp only [Act.put, List.setIfInBounds_toArray, List.set_cons_zero, List.set_cons_succ]
          obtain rfl := f2 (hm ⟨2, .data⟩ (by simp) rfl)
          clear f2
          have ⟨y0, y1, _, _, _⟩ := (kP.1 rfl).1
          go_simp
          exact hK.out _ _ ⟨u56, u57, .pointer (some ⟨w.heap.size, 0, none⟩), .bool gp, u60, u61, u62, u63, u64, (by simp only [Act.put, List.setIfInBounds_toArray, List.set_cons_zero, List.set_cons_succ]), HB, (fun h => (f0 (by simpa using h))), (fun h => f1 (by simpa using h)), (fun _ => rfl), (fun _ => rfl), (fun h => (f4 (by simpa using h))), (fun h => f5 (by simpa using h)), (fun h => f6 (by simpa using h)), (fun h => f7 (by simpa using h)), (fun h => (f8 (by simpa using h))), (by simpa using (kP)), (by simpa using (kO)), (by simpa using (kR)), (by simpa using (kS)), (by simpa using (kU)), (by simpa using (kX)), (by simpa using (kY)), (by simpa using (kZ))⟩
        · intro d a2 w2 hd hm ⟨u56, u57, u58, u59, u60, u61, u62, u63, u64, e, HB, f0, f1, f2, f3, f4, f5, f6, f7, f8, kP, kO, kR, kS, kU, kX, kY, kZ⟩ K hK
          subst e
          simp only [Act.put, List.setIfInBounds_toArray, List.set_cons_zero, List.set_cons_succ]
          obtain rfl := f1 (hm ⟨1, .data⟩ (by simp) rfl)
          clear f1
          obtain rfl := f3 (hm ⟨3, .data⟩ (by simp) rfl)
          clear f3
          have iY := (kY.1 rfl).2
          go_simp
          (with_reducible refine (withSign_v gy gp Ay ny cy _ sv _ iY HSV).mono ?_)
          rintro e w3 ⟨gg, AA, nn, cc, rfl, hi, hb⟩
          have HB3 := HB.trans (hb.mono HB.size)
          go_wp2_with fail
          exact hK.out _ _ ⟨u56, .agg #[.bool gy, .slice Ay ny cy], u58, .bool gp, .agg #[.bool gg, .slice AA nn cc], u61, u62, u63, u64, (by simp only [Act.put, List.setIfInBounds_toArray, List.set_cons_zero, List.set_cons_succ]), HB3, (fun h => (f0 (by simpa using h)).below hb), (fun _ => rfl), (fun h => f2 (by simpa using h)), (fun _ => rfl), (fun _ => ⟨_, _, _, _, rfl, hi⟩), (fun h => f5 (by simpa using h)), (fun h => f6 (by simpa using h)), (fun h => f7 (by simpa using h)), (fun h => (f8 (by simpa using h)).below hb), (by simpa using (kP).below hb), (by simpa using (kO).below hb), (by simpa using (kR).below hb), (by simpa using (kS).below hb), (by simpa using (kU).below hb), (by simpa using (kX).below hb), (by simpa using (kY).below hb), (by simpa using (kZ).below hb)⟩
        · intro d a2 w2 hd hm ⟨u56, u57, u58, u59, u60, u61, u62, u63, u64, e, HB, f0, f1, f2, f3, f4, f5, f6, f7, f8, kP, kO, kR, kS, kU, kX, kY, kZ⟩ K hK
          subst e
          simp only [Act.put, List.setIfInBounds_toArray, List.set_cons_zero, List.set_cons_succ]
          have ⟨y0, y1, _, _, _⟩ := (kZ.1 rfl).1
          go_simp
          exact hK.out _ _ ⟨u56, u57, u58, u59, u60, .agg #[.bool gz, .slice Az nz cz], u62, u63, u64, (by simp only [Act.put, List.setIfInBounds_toArray, List.set_cons_zero, List.set_cons_succ]), HB, (fun h => (f0 (by simpa using h))), (fun h => f1 (by simpa using h)), (fun h => f2 (by simpa using h)), (fun h => f3 (by simpa using h)), (fun h => (f4 (by simpa using h))), (fun _ => rfl), (fun h => f6 (by simpa using h)), (fun h => f7 (by simpa using h)), (fun h => (f8 (by simpa using h))), (by simpa using (kP)), (by simpa using (kO)), (by simpa using (kR)), (by simpa using (kS)), (by simpa using (kU)), (by simpa using (kX)), (by simpa using (kY)), (by simpa using (kZ))⟩
        · intro d a2 w2 hd hm ⟨u56, u57, u58, u59, u60, u61, u62, u63, u64, e, HB, f0, f1, f2, f3, f4, f5, f6, f7, f8, kP, kO, kR, kS, kU, kX, kY, kZ⟩ K hK
          subst e
          simp only [Act.put, List.setIfInBounds_toArray, List.set_cons_zero, List.set_cons_succ]
          go_simp
          exact hK.out _ _ ⟨u56, u57, u58, u59, u60, u61, .pointer (some ⟨w.heap.size + 1, 0, none⟩), u63, u64, (by simp only [Act.put, List.setIfInBounds_toArray, List.set_cons_zero, List.set_cons_succ]), HB, (fun h => (f0 (by simpa using h))), (fun h => f1 (by simpa using h)), (fun h => f2 (by simpa using h)), (fun h => f3 (by simpa using h)), (fun h => (f4 (by simpa using h))), (fun h => f5 (by simpa using h)), (fun _ => rfl), (fun h => f7 (by simpa using h)), (fun h => (f8 (by simpa using h))), (by simpa using (kP)), (by simpa using (kO)), (by simpa using (kR)), (by simpa using (kS)), (by simpa using (kU)), (by simpa using (kX)), (by simpa using (kY)), (by simpa using (kZ))⟩
        · intro d a2 w2 hd hm ⟨u56, u57, u58, u59, u60, u61, u62, u63, u64, e, HB, f0, f1, f2, f3, f4, f5, f6, f7, f8, kP, kO, kR, kS, kU, kX, kY, kZ⟩ K hK
          subst e
          simp only [Act.put, List.setIfInBounds_toArray, List.set_cons_zero, List.set_cons_succ]
          obtain rfl := f6 (hm ⟨6, .data⟩ (by simp) rfl)
          clear f6
          have ⟨y0, y1, _, _, _⟩ := (kO.1 rfl).1
          go_simp
          exact hK.out _ _ ⟨u56, u57, u58, u59, u60, u61, .pointer (some ⟨w.heap.size + 1, 0, none⟩), .bool go, u64, (by simp only [Act.put, List.setIfInBounds_toArray, List.set_cons_zero, List.set_cons_succ]), HB, (fun h => (f0 (by simpa using h))), (fun h => f1 (by simpa using h)), (fun h => f2 (by simpa using h)), (fun h => f3 (by simpa using h)), (fun h => (f4 (by simpa using h))), (fun h => f5 (by simpa using h)), (fun _ => rfl), (fun _ => rfl), (fun h => (f8 (by simpa using h))), (by simpa using (kP)), (by simpa using (kO)), (by simpa using (kR)), (by simpa using (kS)), (by simpa using (kU)), (by simpa using (kX)), (by simpa using (kY)), (by simpa using (kZ))⟩
        · intro d a2 w2 hd hm ⟨u56, u57, u58, u59, u60, u61, u62, u63, u64, e, HB, f0, f1, f2, f3, f4, f5, f6, f7, f8, kP, kO, kR, kS, kU, kX, kY, kZ⟩ K hK
          subst e
          simp only [Act.put, List.setIfInBounds_toArray, List.set_cons_zero, List.set_cons_succ]
          obtain rfl := f5 (hm ⟨5, .data⟩ (by simp) rfl)
          clear f5
          obtain rfl := f7 (hm ⟨7, .data⟩ (by simp) rfl)
          clear f7
          have iZ := (kZ.1 rfl).2
          go_simp
          (with_reducible refine (withSign_v gz go Az nz cz _ tv _ iZ HTV).mono ?_)
          rintro e w3 ⟨gg, AA, nn, cc, rfl, hi, hb⟩
          have HB3 := HB.trans (hb.mono HB.size)
          go_wp2_with fail
          exact hK.out _ _ ⟨u56, u57, u58, u59, u60, .agg #[.bool gz, .slice Az nz cz], u62, .bool go, .agg #[.bool gg, .slice AA nn cc], (by simp only [Act.put, List.setIfInBounds_toArray, List.set_cons_zero, List.set_cons_succ]), HB3, (fun h => (f0 (by simpa using h)).below hb), (fun h => f1 (by simpa using h)), (fun h => f2 (by simpa using h)), (fun h => f3 (by simpa using h)), (fun h => (f4 (by simpa using h)).below hb), (fun _ => rfl), (fun h => f6 (by simpa using h)), (fun _ => rfl), (fun _ => ⟨_, _, _, _, rfl, hi⟩), (by simpa using (kP).below hb), (by simpa using (kO).below hb), (by simpa using (kR).below hb), (by simpa using (kS).below hb), (by simpa using (kU).below hb), (by simpa using (kX).below hb), (by simpa using (kY).below hb), (by simpa using (kZ).below hb)⟩
        · intro d a2 w2 hd hm ⟨u56, u57, u58, u59, u60, u61, u62, u63, u64, e, HB, f0, f1, f2, f3, f4, f5, f6, f7, f8, kP, kO, kR, kS, kU, kX, kY, kZ⟩ K hK
          subst e
          simp only [Act.put, List.setIfInBounds_toArray, List.set_cons_zero, List.set_cons_succ]
          obtain ⟨gg, AA, nn, cc, rfl, hi⟩ := f0 (hm ⟨0, .data⟩ (by simp) rfl)
          have hs := kR.1 hd
          obtain ⟨k0, k1, k2, k3, k4⟩ := id hs
          go_simp
          exact hK.out _ _ ⟨.agg #[.bool gg, .slice AA nn cc], u57, u58, u59, u60, u61, u62, u63, u64, (by simp only [Act.put, List.setIfInBounds_toArray, List.set_cons_zero, List.set_cons_succ]), Below.set2 HB (by omega) _ _, (fun h => (f0 (by simpa using h)).set2 hs rfl rfl _ _), (fun h => f1 (by simpa using h)), (fun h => f2 (by simpa using h)), (fun h => f3 (by simpa using h)), (fun h => (f4 (by simpa using h)).set2 hs rfl rfl _ _), (fun h => f5 (by simpa using h)), (fun h => f6 (by simpa using h)), (fun h => f7 (by simpa using h)), (fun h => (f8 (by simpa using h)).set2 hs rfl rfl _ _), (by simpa using (kP).far2 (by omega) hs rfl rfl _ _), (by simpa using (kO).far2 (by omega) hs rfl rfl _ _), (by simpa using BlkF.near hi hs rfl rfl), (by simpa using (kS).far2 (by omega) hs rfl rfl _ _), (by simpa using (kU).far2 (by omega) hs rfl rfl _ _), (by simpa using (kX).far2 (by omega) hs rfl rfl _ _), (by simpa using (kY).far2 (by omega) hs rfl rfl _ _), (by simpa using (kZ).far2 (by omega) hs rfl rfl _ _)⟩
        · intro d a2 w2 hd hm ⟨u56, u57, u58, u59, u60, u61, u62, u63, u64, e, HB, f0, f1, f2, f3, f4, f5, f6, f7, f8, kP, kO, kR, kS, kU, kX, kY, kZ⟩ K hK
          subst e
          simp only [Act.put, List.setIfInBounds_toArray, List.set_cons_zero, List.set_cons_succ]
          obtain ⟨gg, AA, nn, cc, rfl, hi⟩ := f4 (hm ⟨4, .data⟩ (by simp) rfl)
          have hs := kS.1 hd
          obtain ⟨k0, k1, k2, k3, k4⟩ := id hs
          go_simp
          exact hK.out _ _ ⟨u56, u57, u58, u59, .agg #[.bool gg, .slice AA nn cc], u61, u62, u63, u64, (by simp only [Act.put, List.setIfInBounds_toArray, List.set_cons_zero, List.set_cons_succ]), Below.set2 HB (by omega) _ _, (fun h => (f0 (by simpa using h)).set2 hs rfl rfl _ _), (fun h => f1 (by simpa using h)), (fun h => f2 (by simpa using h)), (fun h => f3 (by simpa using h)), (fun h => (f4 (by simpa using h)).set2 hs rfl rfl _ _), (fun h => f5 (by simpa using h)), (fun h => f6 (by simpa using h)), (fun h => f7 (by simpa using h)), (fun h => (f8 (by simpa using h)).set2 hs rfl rfl _ _), (by simpa using (kP).far2 (by omega) hs rfl rfl _ _), (by simpa using (kO).far2 (by omega) hs rfl rfl _ _), (by simpa using (kR).far2 (by omega) hs rfl rfl _ _), (by simpa using BlkF.near hi hs rfl rfl), (by simpa using (kU).far2 (by omega) hs rfl rfl _ _), (by simpa using (kX).far2 (by omega) hs rfl rfl _ _), (by simpa using (kY).far2 (by omega) hs rfl rfl _ _), (by simpa using (kZ).far2 (by omega) hs rfl rfl _ _)⟩
        · intro d a2 w2 hd hm ⟨u56, u57, u58, u59, u60, u61, u62, u63, u64, e, HB, f0, f1, f2, f3, f4, f5, f6, f7, f8, kP, kO, kR, kS, kU, kX, kY, kZ⟩ K hK
          subst e
          simp only [Act.put, List.setIfInBounds_toArray, List.set_cons_zero, List.set_cons_succ]
          obtain ⟨gg, AA, nn, cc, rfl, hi⟩ := f8 (hm ⟨8, .data⟩ (by simp) rfl)
          have hs := kU.1 hd
          obtain ⟨k0, k1, k2, k3, k4⟩ := id hs
          go_simp
          exact hK.out _ _ ⟨u56, u57, u58, u59, u60, u61, u62, u63, .agg #[.bool gg, .slice AA nn cc], (by simp only [Act.put, List.setIfInBounds_toArray, List.set_cons_zero, List.set_cons_succ]), Below.set2 HB (by omega) _ _, (fun h => (f0 (by simpa using h)).set2 hs rfl rfl _ _), (fun h => f1 (by simpa using h)), (fun h => f2 (by simpa using h)), (fun h => f3 (by simpa using h)), (fun h => (f4 (by simpa using h)).set2 hs rfl rfl _ _), (fun h => f5 (by simpa using h)), (fun h => f6 (by simpa using h)), (fun h => f7 (by simpa using h)), (fun h => (f8 (by simpa using h)).set2 hs rfl rfl _ _), (by simpa using (kP).far2 (by omega) hs rfl rfl _ _), (by simpa using (kO).far2 (by omega) hs rfl rfl _ _), (by simpa using (kR).far2 (by omega) hs rfl rfl _ _), (by simpa using (kS).far2 (by omega) hs rfl rfl _ _), (by simpa using BlkF.near hi hs rfl rfl), (by simpa using (kX).far2 (by omega) hs rfl rfl _ _), (by simpa using (kY).far2 (by omega) hs rfl rfl _ _), (by simpa using (kZ).far2 (by omega) hs rfl rfl _ _)⟩
      · intro d a2 w2 hall ⟨u56, u57, u58, u59, u60, u61, u62, u63, u64, e, HB, f0, f1, f2, f3, f4, f5, f6, f7, f8, kP, kO, kR, kS, kU, kX, kY, kZ⟩
        subst e
        simp only [Act.put, List.setIfInBounds_toArray, List.set_cons_zero, List.set_cons_succ]
        obtain rfl := f1 (hall _ (by decide))
        obtain rfl := f2 (hall _ (by decide))
        obtain rfl := f3 (hall _ (by decide))
        obtain rfl := f5 (hall _ (by decide))
        obtain rfl := f6 (hall _ (by decide))
        obtain rfl := f7 (hall _ (by decide))
        have eP := kP.1 rfl
        have eO := kO.1 rfl
        have eR := kR.2 (hall _ (by decide))
        have eS := kS.2 (hall _ (by decide))
        have eU := kU.2 (hall _ (by decide))
        have eX := kX.1 rfl
        have eY := kY.1 rfl
        have eZ := kZ.1 rfl
        go_wp2_with fail
        go_meet
        exact ⟨HB, eR, eS, eU⟩
    case rest =>
    obtain ⟨BF, ⟨k1, K1, l1, e1, F1, J1⟩, ⟨k2, K2, l2, e2, F2, J2⟩, ⟨k3, K3, l3, e3, F3, J3⟩⟩ := hcut
    have ⟨f0, f1, _, _, _⟩ := F1
    have ⟨f2, f3, _, _, _⟩ := F2
    have ⟨f4, f5, _, _, _⟩ := F3
    go_wp2
    exact bodyPost_ret (v := .tuple #[.agg #[.bool k1, .slice K1 l1 e1], .agg #[.bool k2, .slice K2 l2 e2], .agg #[.bool k3, .slice K3 l3 e3]]) (by simp [results, Tryd.results23, go_sem, f0, f1, f2, f3, f4, f5]) rfl
      ⟨_, _, _, _, _, _, _, _, _, _, _, _, rfl, J1, J2, J3, BF⟩
/-- integer.Ext at any size: the greatest common divisor and coefficients that are as small as asked. -/
theorem ext_z (neg neg' : Bool) (A A' : Option Addr) (n c m dc : Nat) (a b : Int) {k : Nat} (w : World) (ha : IsInt w neg A n c a) (hb : IsInt w neg' A' m dc b) (sa : Sz k a) (sb : Sz k b) (hk1 : 1 ≤ k) (hk : k + k + k + 2 ≤ 10000) (hab : a ≠ 0 ∨ b ≠ 0) :
    Calls Tryd.prog 23 #[.agg #[.bool neg, .slice A n c], .agg #[.bool neg', .slice A' m dc]] w (RetExt w (Nat.gcd a.natAbs b.natAbs) neg neg' a.natAbs b.natAbs) := by
  by_cases h : n ≤ 2 ∧ m ≤ 2
  · exact extW_any neg neg' A A' n c m dc a b w ha hb h.1 h.2 hab
  · refine (extG_any neg neg' A A' n c m dc a b w ha hb h sa sb hk1 hk).mono ?_
    rintro e w' hr
    obtain ⟨s', t', inv⟩ := extE_inv a.natAbs b.natAbs (by omega)
    exact ⟨_, _, s', t', hr, inv⟩
end Go.Proofs.YtnlmdjbakcjhbaaDoor
