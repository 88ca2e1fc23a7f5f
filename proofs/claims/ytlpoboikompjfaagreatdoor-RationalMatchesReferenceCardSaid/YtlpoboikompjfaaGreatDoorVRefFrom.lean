/- Contract of torsionref02.From: a fraction out of raw limbs. -/
import Derived.Test.YtlpoboikompjfaaGreatDoorVG25RatR
import Derived.Test.YtlpoboikompjfaaGreatDoorVG2Sign
import Derived.Deep.DeepCutAuto
namespace Go.Proofs.YtlpoboikompjfaaGreatDoor
open Go.RowKit
/-- The denominator of a raw fraction. -/
def rawD (ys : List Nat) : Int := if val (ys.take 3) = 0 then 1 else (val (ys.take 3) : Int)
/-- The fraction that raw limbs stand for. -/
def rawQ (neg : Bool) (xs ys : List Nat) : Rat := Rat.divInt (zOf neg (val (xs.take 3))) (rawD ys)
theorem rawD_ne (ys : List Nat) : rawD ys ≠ 0 := by unfold rawD; split <;> omega
theorem raw_num (neg : Bool) (xs : List Nat) (h : ∀ x ∈ xs, x < 4294967296) : Sz 3 (zOf neg (val (xs.take 3))) := Sz.raw neg xs 3 h (by decide)
theorem raw_den (ys : List Nat) (h : ∀ x ∈ ys, x < 4294967296) : Sz 3 (rawD ys) := by
  unfold rawD; split
  · exact Sz.of (by decide) (by decide)
  · have := Sz.raw false ys 3 h (by decide)
    have e : zOf false (val (ys.take 3)) = (val (ys.take 3) : Int) := rfl
    rwa [e] at this
theorem RSz.raw (neg : Bool) (xs ys : List Nat) (h : ∀ x ∈ xs, x < 4294967296) (h' : ∀ x ∈ ys, x < 4294967296) : RSz 3 (rawQ neg xs ys) := RSz.divInt (raw_num neg xs h) (raw_den ys h') (rawD_ne ys)
theorem take_min (xs : List Nat) (n k : Nat) (hl : xs.length = n) (hk : k = min n 3) : xs.take k = xs.take 3 := by
  rcases Nat.lt_or_ge n 3 with h | h
  · rw [List.take_of_length_le (by omega), List.take_of_length_le (by omega)]
  · rw [show k = 3 by omega]
theorem min3 (n k : Nat) (hk : k = min n 3) (ts : Array TypeId) (t : TypeId) (W : World) : (Builtin.min_ ts t #[.int .i64 (n : Int), .int .i64 3]).run Tryz.prog W = .ok (.int .i64 (k : Int)) W := by
  rw [run_min_int2]
  split
  · rename_i h; rw [show (k : Int) = 3 by omega]
  · rename_i h; rw [show (k : Int) = n by omega]

set_option maxRecDepth 1000000 in
set_option maxHeartbeats 8000000 in
theorem rqfrom_z (A1 A2 : Option Addr) (n1 c1 n2 c2 : Nat) (s : Bool) (B : Nat) (xs ys : List Nat) (w : World) (ha : Lim w B A1 n1 c1 xs) (hb : Lim w B A2 n2 c2 ys) (hB : B ≤ w.heap.size) :
    Calls Tryz.prog 11 #[.agg #[.slice A1 n1 c1, .slice A2 n2 c2, .bool s]] w (RetRat w (rawQ s xs ys)) := by
  have ca := ha.cap
  have cb := hb.cap
  obtain ⟨k1, hk1⟩ : ∃ k, k = min n1 3 := ⟨_, rfl⟩
  obtain ⟨k2, hk2⟩ : ∃ k, k = min n2 3 := ⟨_, rfl⟩
  have i10 : (0 : Int) ≤ k1 := by omega
  have i11 : (k1 : Int) ≤ c1 := by omega
  have i12 := min3 n1 k1 hk1
  have i20 : (0 : Int) ≤ k2 := by omega
  have i21 : (k2 : Int) ≤ c2 := by omega
  have i22 := min3 n2 k2 hk2
  have b1 := (Below.refl w.heap.size w).alloc (Nat.le_refl _) (.cells #[.slice A1 n1 c1, .slice A2 n2 c2, .bool s] 24)
  have B0 := b1.alloc b1.size (.cells #[.bool false, .slice none 0 0, .bool false, .slice none 0 0] 28)
  have R0 := Slot4.new (w.alloc (.cells #[.slice A1 n1 c1, .slice A2 n2 c2, .bool s] 24)) (.bool false) (.slice none 0 0) (.bool false) (.slice none 0 0) 28
  simp only [World.size_alloc] at R0
  have s0 : ((w.alloc (.cells #[.slice A1 n1 c1, .slice A2 n2 c2, .bool s] 24)).alloc (.cells #[.bool false, .slice none 0 0, .bool false, .slice none 0 0] 28)).cell? ⟨w.heap.size, 0, none⟩ = some (.slice A1 n1 c1) := by simp
  have s1 : ((w.alloc (.cells #[.slice A1 n1 c1, .slice A2 n2 c2, .bool s] 24)).alloc (.cells #[.bool false, .slice none 0 0, .bool false, .slice none 0 0] 28)).cell? ⟨w.heap.size, 1, none⟩ = some (.slice A2 n2 c2) := by simp
  have s2 : ((w.alloc (.cells #[.slice A1 n1 c1, .slice A2 n2 c2, .bool s] 24)).alloc (.cells #[.bool false, .slice none 0 0, .bool false, .slice none 0 0] 28)).cell? ⟨w.heap.size, 2, none⟩ = some (.bool s) := by simp
  have sl : w.heap.size < ((w.alloc (.cells #[.slice A1 n1 c1, .slice A2 n2 c2, .bool s] 24)).alloc (.cells #[.bool false, .slice none 0 0, .bool false, .slice none 0 0] 28)).heap.size := by simp; omega
  have M1 : Hid (∀ V, Below w.heap.size w V → Calls Tryz.prog 57 #[.slice A1 k1 c1, .bool s] V (RetInt V (zOf s (val (xs.take 3))))) := fun V hV => by
    have := Made_any s A1 k1 c1 w.heap.size (xs.take k1) V (((ha.take k1 (by omega)).more hB).below hV) hV.size (by omega)
    rwa [take_min xs n1 k1 ha.len hk1] at this
  have M2 : Hid (∀ V, Below w.heap.size w V → Calls Tryz.prog 57 #[.slice A2 k2 c2, .bool false] V (RetInt V ((val (ys.take 3) : Nat) : Int))) := fun V hV => by
    have := Made_any false A2 k2 c2 w.heap.size (ys.take k2) V (((hb.take k2 (by omega)).more hB).below hV) hV.size (by omega)
    rw [take_min ys n2 k2 hb.len hk2] at this
    exact this
  have Z1 := raw_num s xs ha.lt
  have Z2 := raw_den ys hb.lt
  have Z2' : Sz 3 ((val (ys.take 3) : Nat) : Int) := Sz.raw false ys 3 hb.lt (by decide)
  have hD0 := rawD_ne ys
  have hDv : Hid (rawD ys = if ((val (ys.take 3) : Nat) : Int) = 0 then 1 else ((val (ys.take 3) : Nat) : Int)) := by
    show rawD ys = _
    unfold rawD
    by_cases h : val (ys.take 3) = 0
    · rw [if_pos h, if_pos (by omega)]
    · rw [if_neg h, if_neg (by omega)]
  have HQ : Hid (rawQ s xs ys = Rat.divInt (zOf s (val (xs.take 3))) (rawD ys)) := rfl
  generalize rawQ s xs ys = QQ at *
  generalize zOf s (val (xs.take 3)) = N at *
  generalize ((val (ys.take 3) : Nat) : Int) = D at *
  generalize rawD ys = DD at *
  have HD0 := Lib.hid hD0
  clear ha hb ca cb hk1 hk2 b1 hB hD0
  go_enter Tryz.func11, Tryz.ntmps11
  go_upto_region 1 with (fail)
  generalize (w.alloc (.cells #[.slice A1 n1 c1, .slice A2 n2 c2, .bool s] 24)).alloc (.cells #[.bool false, .slice none 0 0, .bool false, .slice none 0 0] 28) = W0 at *
  have HX : Hid (∀ V, Below W0.heap.size W0 V → V.cell? ⟨w.heap.size, 0, none⟩ = some (.slice A1 n1 c1) ∧ V.cell? ⟨w.heap.size, 1, none⟩ = some (.slice A2 n2 c2) ∧ V.cell? ⟨w.heap.size, 2, none⟩ = some (.bool s)) := fun V hV => ⟨(hV.cell (p := ⟨w.heap.size, 0, none⟩) sl).trans s0, (hV.cell (p := ⟨w.heap.size, 1, none⟩) sl).trans s1, (hV.cell (p := ⟨w.heap.size, 2, none⟩) sl).trans s2⟩
  go_cut [3, 4] (fun p1 p2 wx => ∃ ga gb, p1 = .pointer (some ⟨ga, 0, none⟩) ∧ p2 = .pointer (some ⟨gb, 0, none⟩) ∧ IntAt wx ga N ∧ IntAt wx gb D ∧ ga ≠ gb ∧ W0.heap.size ≤ ga ∧ W0.heap.size ≤ gb ∧ Below W0.heap.size W0 wx)
  case first =>
    as_aux_lemma =>
      clear s0 s1 s2 sl R0
      refine wp_region_ev (fun d a0 a' w' => ∃ u5 u6 u7 u8 u9 u10 u11 u12 u13 u14 u15 u16 u17 u18 u19 u20 u21 u22 u3 u4 : Value, a' = ((((((((((((((((((((a0.put (some 5) u5).put (some 6) u6).put (some 7) u7).put (some 8) u8).put (some 9) u9).put (some 10) u10).put (some 11) u11).put (some 12) u12).put (some 13) u13).put (some 14) u14).put (some 15) u15).put (some 16) u16).put (some 17) u17).put (some 18) u18).put (some 19) u19).put (some 20) u20).put (some 21) u21).put (some 22) u22).put (some 3) u3).put (some 4) u4) ∧ Below W0.heap.size W0 w' ∧ (d 0 = true → u5 = .pointer (some ⟨w.heap.size, 0, none⟩)) ∧ (d 1 = true → u6 = .slice A1 n1 c1) ∧ (d 2 = true → u7 = .pointer (some ⟨w.heap.size, 0, none⟩)) ∧ (d 3 = true → u8 = .slice A1 n1 c1) ∧ (d 4 = true → u9 = .int .i64 (n1 : Int)) ∧ (d 5 = true → u10 = .int .i64 (k1 : Int)) ∧ (d 6 = true → u11 = .slice A1 k1 c1) ∧ (d 7 = true → u12 = .pointer (some ⟨w.heap.size, 2, none⟩)) ∧ (d 8 = true → u13 = .bool s) ∧ (d 9 = true → IntV w' u14 (N)) ∧ (d 10 = true → u15 = .pointer (some ⟨w.heap.size, 1, none⟩)) ∧ (d 11 = true → u16 = .slice A2 n2 c2) ∧ (d 12 = true → u17 = .pointer (some ⟨w.heap.size, 1, none⟩)) ∧ (d 13 = true → u18 = .slice A2 n2 c2) ∧ (d 14 = true → u19 = .int .i64 (n2 : Int)) ∧ (d 15 = true → u20 = .int .i64 (k2 : Int)) ∧ (d 16 = true → u21 = .slice A2 k2 c2) ∧ (d 17 = true → IntV w' u22 (D)) ∧ (d 18 = true → OwnP W0.heap.size w' u3 (d 20) (N)) ∧ (d 19 = true → OwnP W0.heap.size w' u4 (d 21) (D)) ∧ (d 18 = true → d 19 = true → u3 ≠ u4) ∧ (d 20 = true → d 18 = true) ∧ (d 21 = true → d 19 = true)) (by kernel_rfl) (by kernel_rfl) ?_ ?_ ?_ ?_
      · intro d d' h a' w' hh
        obtain rfl : d = d' := funext h
        exact hh
      · exact ⟨_, _, _, _, _, _, _, _, _, _, _, _, _, _, _, _, _, _, _, _, (by simp only [Act.put, List.setIfInBounds_toArray, List.set_cons_zero, List.set_cons_succ]; rfl), (Below.refl _ _).drew, (fun h => by cases h), (fun h => by cases h), (fun h => by cases h), (fun h => by cases h), (fun h => by cases h), (fun h => by cases h), (fun h => by cases h), (fun h => by cases h), (fun h => by cases h), (fun h => by cases h), (fun h => by cases h), (fun h => by cases h), (fun h => by cases h), (fun h => by cases h), (fun h => by cases h), (fun h => by cases h), (fun h => by cases h), (fun h => by cases h), (fun h => by cases h), (fun h => by cases h), (fun h => by cases h), (fun h => by cases h), (fun h => by cases h)⟩
      · refine ⟨?_, ?_, ?_, ?_, ?_, ?_, ?_, ?_, ?_, ?_, ?_, ?_, ?_, ?_, ?_, ?_, ?_, ?_, ?_, ?_, ?_, ?_, trivial⟩
        · intro d a2 w2 hd hm ⟨u5, u6, u7, u8, u9, u10, u11, u12, u13, u14, u15, u16, u17, u18, u19, u20, u21, u22, u3, u4, e, HB, f0, f1, f2, f3, f4, f5, f6, f7, f8, f9, f10, f11, f12, f13, f14, f15, f16, f17, f18, f19, n01, t0, t1⟩ K hK
          subst e
          simp only [Act.put, List.setIfInBounds_toArray, List.set_cons_zero, List.set_cons_succ]
          go_simp
          exact hK.out _ _ ⟨.pointer (some ⟨w.heap.size, 0, none⟩), u6, u7, u8, u9, u10, u11, u12, u13, u14, u15, u16, u17, u18, u19, u20, u21, u22, u3, u4, (by simp only [Act.put, List.setIfInBounds_toArray, List.set_cons_zero, List.set_cons_succ]), HB, (fun _ => rfl), (fun h => f1 (by simpa using h)), (fun h => f2 (by simpa using h)), (fun h => f3 (by simpa using h)), (fun h => f4 (by simpa using h)), (fun h => f5 (by simpa using h)), (fun h => f6 (by simpa using h)), (fun h => f7 (by simpa using h)), (fun h => f8 (by simpa using h)), (fun h => (f9 (by simpa using h))), (fun h => f10 (by simpa using h)), (fun h => f11 (by simpa using h)), (fun h => f12 (by simpa using h)), (fun h => f13 (by simpa using h)), (fun h => f14 (by simpa using h)), (fun h => f15 (by simpa using h)), (fun h => f16 (by simpa using h)), (fun h => (f17 (by simpa using h))), (fun h => by simpa using (f18 (by simpa using h))), (fun h => by simpa using (f19 (by simpa using h))), (fun h h' => n01 (by simpa using h) (by simpa using h')), (fun h => by simpa using t0 (by simpa using h)), (fun h => by simpa using t1 (by simpa using h))⟩
        · intro d a2 w2 hd hm ⟨u5, u6, u7, u8, u9, u10, u11, u12, u13, u14, u15, u16, u17, u18, u19, u20, u21, u22, u3, u4, e, HB, f0, f1, f2, f3, f4, f5, f6, f7, f8, f9, f10, f11, f12, f13, f14, f15, f16, f17, f18, f19, n01, t0, t1⟩ K hK
          subst e
          simp only [Act.put, List.setIfInBounds_toArray, List.set_cons_zero, List.set_cons_succ]
          obtain rfl := f0 (hm ⟨0, .data⟩ (by simp) rfl)
          clear f0
          obtain ⟨q0, q1, q2⟩ := HX.out w2 HB
          go_simp
          exact hK.out _ _ ⟨.pointer (some ⟨w.heap.size, 0, none⟩), .slice A1 n1 c1, u7, u8, u9, u10, u11, u12, u13, u14, u15, u16, u17, u18, u19, u20, u21, u22, u3, u4, (by simp only [Act.put, List.setIfInBounds_toArray, List.set_cons_zero, List.set_cons_succ]), HB, (fun _ => rfl), (fun _ => rfl), (fun h => f2 (by simpa using h)), (fun h => f3 (by simpa using h)), (fun h => f4 (by simpa using h)), (fun h => f5 (by simpa using h)), (fun h => f6 (by simpa using h)), (fun h => f7 (by simpa using h)), (fun h => f8 (by simpa using h)), (fun h => (f9 (by simpa using h))), (fun h => f10 (by simpa using h)), (fun h => f11 (by simpa using h)), (fun h => f12 (by simpa using h)), (fun h => f13 (by simpa using h)), (fun h => f14 (by simpa using h)), (fun h => f15 (by simpa using h)), (fun h => f16 (by simpa using h)), (fun h => (f17 (by simpa using h))), (fun h => by simpa using (f18 (by simpa using h))), (fun h => by simpa using (f19 (by simpa using h))), (fun h h' => n01 (by simpa using h) (by simpa using h')), (fun h => by simpa using t0 (by simpa using h)), (fun h => by simpa using t1 (by simpa using h))⟩
        · intro d a2 w2 hd hm ⟨u5, u6, u7, u8, u9, u10, u11, u12, u13, u14, u15, u16, u17, u18, u19, u20, u21, u22, u3, u4, e, HB, f0, f1, f2, f3, f4, f5, f6, f7, f8, f9, f10, f11, f12, f13, f14, f15, f16, f17, f18, f19, n01, t0, t1⟩ K hK
          subst e
          simp only [Act.put, List.setIfInBounds_toArray, List.set_cons_zero, List.set_cons_succ]
          go_simp
          exact hK.out _ _ ⟨u5, u6, .pointer (some ⟨w.heap.size, 0, none⟩), u8, u9, u10, u11, u12, u13, u14, u15, u16, u17, u18, u19, u20, u21, u22, u3, u4, (by simp only [Act.put, List.setIfInBounds_toArray, List.set_cons_zero, List.set_cons_succ]), HB, (fun h => f0 (by simpa using h)), (fun h => f1 (by simpa using h)), (fun _ => rfl), (fun h => f3 (by simpa using h)), (fun h => f4 (by simpa using h)), (fun h => f5 (by simpa using h)), (fun h => f6 (by simpa using h)), (fun h => f7 (by simpa using h)), (fun h => f8 (by simpa using h)), (fun h => (f9 (by simpa using h))), (fun h => f10 (by simpa using h)), (fun h => f11 (by simpa using h)), (fun h => f12 (by simpa using h)), (fun h => f13 (by simpa using h)), (fun h => f14 (by simpa using h)), (fun h => f15 (by simpa using h)), (fun h => f16 (by simpa using h)), (fun h => (f17 (by simpa using h))), (fun h => by simpa using (f18 (by simpa using h))), (fun h => by simpa using (f19 (by simpa using h))), (fun h h' => n01 (by simpa using h) (by simpa using h')), (fun h => by simpa using t0 (by simpa using h)), (fun h => by simpa using t1 (by simpa using h))⟩
        · intro d a2 w2 hd hm ⟨u5, u6, u7, u8, u9, u10, u11, u12, u13, u14, u15, u16, u17, u18, u19, u20, u21, u22, u3, u4, e, HB, f0, f1, f2, f3, f4, f5, f6, f7, f8, f9, f10, f11, f12, f13, f14, f15, f16, f17, f18, f19, n01, t0, t1⟩ K hK
          subst e
          simp only [Act.put, List.setIfInBounds_toArray, List.set_cons_zero, List.set_cons_succ]
          obtain rfl := f2 (hm ⟨2, .data⟩ (by simp) rfl)
          clear f2
          obtain ⟨q0, q1, q2⟩ := HX.out w2 HB
          go_simp
          exact hK.out _ _ ⟨u5, u6, .pointer (some ⟨w.heap.size, 0, none⟩), .slice A1 n1 c1, u9, u10, u11, u12, u13, u14, u15, u16, u17, u18, u19, u20, u21, u22, u3, u4, (by simp only [Act.put, List.setIfInBounds_toArray, List.set_cons_zero, List.set_cons_succ]), HB, (fun h => f0 (by simpa using h)), (fun h => f1 (by simpa using h)), (fun _ => rfl), (fun _ => rfl), (fun h => f4 (by simpa using h)), (fun h => f5 (by simpa using h)), (fun h => f6 (by simpa using h)), (fun h => f7 (by simpa using h)), (fun h => f8 (by simpa using h)), (fun h => (f9 (by simpa using h))), (fun h => f10 (by simpa using h)), (fun h => f11 (by simpa using h)), (fun h => f12 (by simpa using h)), (fun h => f13 (by simpa using h)), (fun h => f14 (by simpa using h)), (fun h => f15 (by simpa using h)), (fun h => f16 (by simpa using h)), (fun h => (f17 (by simpa using h))), (fun h => by simpa using (f18 (by simpa using h))), (fun h => by simpa using (f19 (by simpa using h))), (fun h h' => n01 (by simpa using h) (by simpa using h')), (fun h => by simpa using t0 (by simpa using h)), (fun h => by simpa using t1 (by simpa using h))⟩
        · intro d a2 w2 hd hm ⟨u5, u6, u7, u8, u9, u10, u11, u12, u13, u14, u15, u16, u17, u18, u19, u20, u21, u22, u3, u4, e, HB, f0, f1, f2, f3, f4, f5, f6, f7, f8, f9, f10, f11, f12, f13, f14, f15, f16, f17, f18, f19, n01, t0, t1⟩ K hK
          subst e
          simp only [Act.put, List.setIfInBounds_toArray, List.set_cons_zero, List.set_cons_succ]
          obtain rfl := f3 (hm ⟨3, .data⟩ (by simp) rfl)
          clear f3
          go_simp
          exact hK.out _ _ ⟨u5, u6, u7, .slice A1 n1 c1, .int .i64 (n1 : Int), u10, u11, u12, u13, u14, u15, u16, u17, u18, u19, u20, u21, u22, u3, u4, (by simp only [Act.put, List.setIfInBounds_toArray, List.set_cons_zero, List.set_cons_succ]), HB, (fun h => f0 (by simpa using h)), (fun h => f1 (by simpa using h)), (fun h => f2 (by simpa using h)), (fun _ => rfl), (fun _ => rfl), (fun h => f5 (by simpa using h)), (fun h => f6 (by simpa using h)), (fun h => f7 (by simpa using h)), (fun h => f8 (by simpa using h)), (fun h => (f9 (by simpa using h))), (fun h => f10 (by simpa using h)), (fun h => f11 (by simpa using h)), (fun h => f12 (by simpa using h)), (fun h => f13 (by simpa using h)), (fun h => f14 (by simpa using h)), (fun h => f15 (by simpa using h)), (fun h => f16 (by simpa using h)), (fun h => (f17 (by simpa using h))), (fun h => by simpa using (f18 (by simpa using h))), (fun h => by simpa using (f19 (by simpa using h))), (fun h h' => n01 (by simpa using h) (by simpa using h')), (fun h => by simpa using t0 (by simpa using h)), (fun h => by simpa using t1 (by simpa using h))⟩
        · intro d a2 w2 hd hm ⟨u5, u6, u7, u8, u9, u10, u11, u12, u13, u14, u15, u16, u17, u18, u19, u20, u21, u22, u3, u4, e, HB, f0, f1, f2, f3, f4, f5, f6, f7, f8, f9, f10, f11, f12, f13, f14, f15, f16, f17, f18, f19, n01, t0, t1⟩ K hK
          subst e
          simp only [Act.put, List.setIfInBounds_toArray, List.set_cons_zero, List.set_cons_succ]
          obtain rfl := f4 (hm ⟨4, .data⟩ (by simp) rfl)
          clear f4
          go_simp
          exact hK.out _ _ ⟨u5, u6, u7, u8, .int .i64 (n1 : Int), .int .i64 (k1 : Int), u11, u12, u13, u14, u15, u16, u17, u18, u19, u20, u21, u22, u3, u4, (by simp only [Act.put, List.setIfInBounds_toArray, List.set_cons_zero, List.set_cons_succ]), HB, (fun h => f0 (by simpa using h)), (fun h => f1 (by simpa using h)), (fun h => f2 (by simpa using h)), (fun h => f3 (by simpa using h)), (fun _ => rfl), (fun _ => rfl), (fun h => f6 (by simpa using h)), (fun h => f7 (by simpa using h)), (fun h => f8 (by simpa using h)), (fun h => (f9 (by simpa using h))), (fun h => f10 (by simpa using h)), (fun h => f11 (by simpa using h)), (fun h => f12 (by simpa using h)), (fun h => f13 (by simpa using h)), (fun h => f14 (by simpa using h)), (fun h => f15 (by simpa using h)), (fun h => f16 (by simpa using h)), (fun h => (f17 (by simpa using h))), (fun h => by simpa using (f18 (by simpa using h))), (fun h => by simpa using (f19 (by simpa using h))), (fun h h' => n01 (by simpa using h) (by simpa using h')), (fun h => by simpa using t0 (by simpa using h)), (fun h => by simpa using t1 (by simpa using h))⟩
        · intro d a2 w2 hd hm ⟨u5, u6, u7, u8, u9, u10, u11, u12, u13, u14, u15, u16, u17, u18, u19, u20, u21, u22, u3, u4, e, HB, f0, f1, f2, f3, f4, f5, f6, f7, f8, f9, f10, f11, f12, f13, f14, f15, f16, f17, f18, f19, n01, t0, t1⟩ K hK
          subst e
          simp only [Act.put, List.setIfInBounds_toArray, List.set_cons_zero, List.set_cons_succ]
          obtain rfl := f1 (hm ⟨1, .data⟩ (by simp) rfl)
          clear f1
          obtain rfl := f5 (hm ⟨5, .data⟩ (by simp) rfl)
          clear f5
          go_simp
          exact hK.out _ _ ⟨u5, .slice A1 n1 c1, u7, u8, u9, .int .i64 (k1 : Int), .slice A1 k1 c1, u12, u13, u14, u15, u16, u17, u18, u19, u20, u21, u22, u3, u4, (by simp only [Act.put, List.setIfInBounds_toArray, List.set_cons_zero, List.set_cons_succ]), HB, (fun h => f0 (by simpa using h)), (fun _ => rfl), (fun h => f2 (by simpa using h)), (fun h => f3 (by simpa using h)), (fun h => f4 (by simpa using h)), (fun _ => rfl), (fun _ => rfl), (fun h => f7 (by simpa using h)), (fun h => f8 (by simpa using h)), (fun h => (f9 (by simpa using h))), (fun h => f10 (by simpa using h)), (fun h => f11 (by simpa using h)), (fun h => f12 (by simpa using h)), (fun h => f13 (by simpa using h)), (fun h => f14 (by simpa using h)), (fun h => f15 (by simpa using h)), (fun h => f16 (by simpa using h)), (fun h => (f17 (by simpa using h))), (fun h => by simpa using (f18 (by simpa using h))), (fun h => by simpa using (f19 (by simpa using h))), (fun h h' => n01 (by simpa using h) (by simpa using h')), (fun h => by simpa using t0 (by simpa using h)), (fun h => by simpa using t1 (by simpa using h))⟩
        · intro d a2 w2 hd hm ⟨u5, u6, u7, u8, u9, u10, u11, u12, u13, u14, u15, u16, u17, u18, u19, u20, u21, u22, u3, u4, e, HB, f0, f1, f2, f3, f4, f5, f6, f7, f8, f9, f10, f11, f12, f13, f14, f15, f16, f17, f18, f19, n01, t0, t1⟩ K hK
          subst e
          simp only [Act.put, List.setIfInBounds_toArray, List.set_cons_zero, List.set_cons_succ]
          go_simp
          exact hK.out _ _ ⟨u5, u6, u7, u8, u9, u10, u11, .pointer (some ⟨w.heap.size, 2, none⟩), u13, u14, u15, u16, u17, u18, u19, u20, u21, u22, u3, u4, (by simp only [Act.put, List.setIfInBounds_toArray, List.set_cons_zero, List.set_cons_succ]), HB, (fun h => f0 (by simpa using h)), (fun h => f1 (by simpa using h)), (fun h => f2 (by simpa using h)), (fun h => f3 (by simpa using h)), (fun h => f4 (by simpa using h)), (fun h => f5 (by simpa using h)), (fun h => f6 (by simpa using h)), (fun _ => rfl), (fun h => f8 (by simpa using h)), (fun h => (f9 (by simpa using h))), (fun h => f10 (by simpa using h)), (fun h => f11 (by simpa using h)), (fun h => f12 (by simpa using h)), (fun h => f13 (by simpa using h)), (fun h => f14 (by simpa using h)), (fun h => f15 (by simpa using h)), (fun h => f16 (by simpa using h)), (fun h => (f17 (by simpa using h))), (fun h => by simpa using (f18 (by simpa using h))), (fun h => by simpa using (f19 (by simpa using h))), (fun h h' => n01 (by simpa using h) (by simpa using h')), (fun h => by simpa using t0 (by simpa using h)), (fun h => by simpa using t1 (by simpa using h))⟩
        · intro d a2 w2 hd hm ⟨u5, u6, u7, u8, u9, u10, u11, u12, u13, u14, u15, u16, u17, u18, u19, u20, u21, u22, u3, u4, e, HB, f0, f1, f2, f3, f4, f5, f6, f7, f8, f9, f10, f11, f12, f13, f14, f15, f16, f17, f18, f19, n01, t0, t1⟩ K hK
          subst e
          simp only [Act.put, List.setIfInBounds_toArray, List.set_cons_zero, List.set_cons_succ]
          obtain rfl := f7 (hm ⟨7, .data⟩ (by simp) rfl)
          clear f7
          obtain ⟨q0, q1, q2⟩ := HX.out w2 HB
          go_simp
          exact hK.out _ _ ⟨u5, u6, u7, u8, u9, u10, u11, .pointer (some ⟨w.heap.size, 2, none⟩), .bool s, u14, u15, u16, u17, u18, u19, u20, u21, u22, u3, u4, (by simp only [Act.put, List.setIfInBounds_toArray, List.set_cons_zero, List.set_cons_succ]), HB, (fun h => f0 (by simpa using h)), (fun h => f1 (by simpa using h)), (fun h => f2 (by simpa using h)), (fun h => f3 (by simpa using h)), (fun h => f4 (by simpa using h)), (fun h => f5 (by simpa using h)), (fun h => f6 (by simpa using h)), (fun _ => rfl), (fun _ => rfl), (fun h => (f9 (by simpa using h))), (fun h => f10 (by simpa using h)), (fun h => f11 (by simpa using h)), (fun h => f12 (by simpa using h)), (fun h => f13 (by simpa using h)), (fun h => f14 (by simpa using h)), (fun h => f15 (by simpa using h)), (fun h => f16 (by simpa using h)), (fun h => (f17 (by simpa using h))), (fun h => by simpa using (f18 (by simpa using h))), (fun h => by simpa using (f19 (by simpa using h))), (fun h h' => n01 (by simpa using h) (by simpa using h')), (fun h => by simpa using t0 (by simpa using h)), (fun h => by simpa using t1 (by simpa using h))⟩
        · intro d a2 w2 hd hm ⟨u5, u6, u7, u8, u9, u10, u11, u12, u13, u14, u15, u16, u17, u18, u19, u20, u21, u22, u3, u4, e, HB, f0, f1, f2, f3, f4, f5, f6, f7, f8, f9, f10, f11, f12, f13, f14, f15, f16, f17, f18, f19, n01, t0, t1⟩ K hK
          subst e
          simp only [Act.put, List.setIfInBounds_toArray, List.set_cons_zero, List.set_cons_succ]
          obtain rfl := f6 (hm ⟨6, .data⟩ (by simp) rfl)
          clear f6
          obtain rfl := f8 (hm ⟨8, .data⟩ (by simp) rfl)
          clear f8
          go_simp
          (with_reducible refine (M1.out _ (B0.trans (Below.mono HB B0.size))).mono ?_)
          rintro e w3 ⟨gg, AA, nn, cc, rfl, hi, hb⟩
          have HB3 := HB.trans (hb.mono HB.size)
          go_wp2_with fail
          exact hK.out _ _ ⟨u5, u6, u7, u8, u9, u10, .slice A1 k1 c1, u12, .bool s, .agg #[.bool gg, .slice AA nn cc], u15, u16, u17, u18, u19, u20, u21, u22, u3, u4, (by simp only [Act.put, List.setIfInBounds_toArray, List.set_cons_zero, List.set_cons_succ]), HB3, (fun h => f0 (by simpa using h)), (fun h => f1 (by simpa using h)), (fun h => f2 (by simpa using h)), (fun h => f3 (by simpa using h)), (fun h => f4 (by simpa using h)), (fun h => f5 (by simpa using h)), (fun _ => rfl), (fun h => f7 (by simpa using h)), (fun _ => rfl), (fun _ => ⟨_, _, _, _, rfl, hi⟩), (fun h => f10 (by simpa using h)), (fun h => f11 (by simpa using h)), (fun h => f12 (by simpa using h)), (fun h => f13 (by simpa using h)), (fun h => f14 (by simpa using h)), (fun h => f15 (by simpa using h)), (fun h => f16 (by simpa using h)), (fun h => (f17 (by simpa using h)).below hb), (fun h => by simpa using (f18 (by simpa using h)).below hb), (fun h => by simpa using (f19 (by simpa using h)).below hb), (fun h h' => n01 (by simpa using h) (by simpa using h')), (fun h => by simpa using t0 (by simpa using h)), (fun h => by simpa using t1 (by simpa using h))⟩
        · intro d a2 w2 hd hm ⟨u5, u6, u7, u8, u9, u10, u11, u12, u13, u14, u15, u16, u17, u18, u19, u20, u21, u22, u3, u4, e, HB, f0, f1, f2, f3, f4, f5, f6, f7, f8, f9, f10, f11, f12, f13, f14, f15, f16, f17, f18, f19, n01, t0, t1⟩ K hK
          subst e
          simp only [Act.put, List.setIfInBounds_toArray, List.set_cons_zero, List.set_cons_succ]
          go_simp
          exact hK.out _ _ ⟨u5, u6, u7, u8, u9, u10, u11, u12, u13, u14, .pointer (some ⟨w.heap.size, 1, none⟩), u16, u17, u18, u19, u20, u21, u22, u3, u4, (by simp only [Act.put, List.setIfInBounds_toArray, List.set_cons_zero, List.set_cons_succ]), HB, (fun h => f0 (by simpa using h)), (fun h => f1 (by simpa using h)), (fun h => f2 (by simpa using h)), (fun h => f3 (by simpa using h)), (fun h => f4 (by simpa using h)), (fun h => f5 (by simpa using h)), (fun h => f6 (by simpa using h)), (fun h => f7 (by simpa using h)), (fun h => f8 (by simpa using h)), (fun h => (f9 (by simpa using h))), (fun _ => rfl), (fun h => f11 (by simpa using h)), (fun h => f12 (by simpa using h)), (fun h => f13 (by simpa using h)), (fun h => f14 (by simpa using h)), (fun h => f15 (by simpa using h)), (fun h => f16 (by simpa using h)), (fun h => (f17 (by simpa using h))), (fun h => by simpa using (f18 (by simpa using h))), (fun h => by simpa using (f19 (by simpa using h))), (fun h h' => n01 (by simpa using h) (by simpa using h')), (fun h => by simpa using t0 (by simpa using h)), (fun h => by simpa using t1 (by simpa using h))⟩
        · intro d a2 w2 hd hm ⟨u5, u6, u7, u8, u9, u10, u11, u12, u13, u14, u15, u16, u17, u18, u19, u20, u21, u22, u3, u4, e, HB, f0, f1, f2, f3, f4, f5, f6, f7, f8, f9, f10, f11, f12, f13, f14, f15, f16, f17, f18, f19, n01, t0, t1⟩ K hK
          subst e
          simp only [Act.put, List.setIfInBounds_toArray, List.set_cons_zero, List.set_cons_succ]
          obtain rfl := f10 (hm ⟨10, .data⟩ (by simp) rfl)
          clear f10
          obtain ⟨q0, q1, q2⟩ := HX.out w2 HB
          go_simp
          exact hK.out _ _ ⟨u5, u6, u7, u8, u9, u10, u11, u12, u13, u14, .pointer (some ⟨w.heap.size, 1, none⟩), .slice A2 n2 c2, u17, u18, u19, u20, u21, u22, u3, u4, (by simp only [Act.put, List.setIfInBounds_toArray, List.set_cons_zero, List.set_cons_succ]), HB, (fun h => f0 (by simpa using h)), (fun h => f1 (by simpa using h)), (fun h => f2 (by simpa using h)), (fun h => f3 (by simpa using h)), (fun h => f4 (by simpa using h)), (fun h => f5 (by simpa using h)), (fun h => f6 (by simpa using h)), (fun h => f7 (by simpa using h)), (fun h => f8 (by simpa using h)), (fun h => (f9 (by simpa using h))), (fun _ => rfl), (fun _ => rfl), (fun h => f12 (by simpa using h)), (fun h => f13 (by simpa using h)), (fun h => f14 (by simpa using h)), (fun h => f15 (by simpa using h)), (fun h => f16 (by simpa using h)), (fun h => (f17 (by simpa using h))), (fun h => by simpa using (f18 (by simpa using h))), (fun h => by simpa using (f19 (by simpa using h))), (fun h h' => n01 (by simpa using h) (by simpa using h')), (fun h => by simpa using t0 (by simpa using h)), (fun h => by simpa using t1 (by simpa using h))⟩
        · intro d a2 w2 hd hm ⟨u5, u6, u7, u8, u9, u10, u11, u12, u13, u14, u15, u16, u17, u18, u19, u20, u21, u22, u3, u4, e, HB, f0, f1, f2, f3, f4, f5, f6, f7, f8, f9, f10, f11, f12, f13, f14, f15, f16, f17, f18, f19, n01, t0, t1⟩ K hK
          subst e
          simp only [Act.put, List.setIfInBounds_toArray, List.set_cons_zero, List.set_cons_succ]
          go_simp
          exact hK.out _ _ ⟨u5, u6, u7, u8, u9, u10, u11, u12, u13, u14, u15, u16, .pointer (some ⟨w.heap.size, 1, none⟩), u18, u19, u20, u21, u22, u3, u4, (by simp only [Act.put, List.setIfInBounds_toArray, List.set_cons_zero, List.set_cons_succ]), HB, (fun h => f0 (by simpa using h)), (fun h => f1 (by simpa using h)), (fun h => f2 (by simpa using h)), (fun h => f3 (by simpa using h)), (fun h => f4 (by simpa using h)), (fun h => f5 (by simpa using h)), (fun h => f6 (by simpa using h)), (fun h => f7 (by simpa using h)), (fun h => f8 (by simpa using h)), (fun h => (f9 (by simpa using h))), (fun h => f10 (by simpa using h)), (fun h => f11 (by simpa using h)), (fun _ => rfl), (fun h => f13 (by simpa using h)), (fun h => f14 (by simpa using h)), (fun h => f15 (by simpa using h)), (fun h => f16 (by simpa using h)), (fun h => (f17 (by simpa using h))), (fun h => by simpa using (f18 (by simpa using h))), (fun h => by simpa using (f19 (by simpa using h))), (fun h h' => n01 (by simpa using h) (by simpa using h')), (fun h => by simpa using t0 (by simpa using h)), (fun h => by simpa using t1 (by simpa using h))⟩
        · intro d a2 w2 hd hm ⟨u5, u6, u7, u8, u9, u10, u11, u12, u13, u14, u15, u16, u17, u18, u19, u20, u21, u22, u3, u4, e, HB, f0, f1, f2, f3, f4, f5, f6, f7, f8, f9, f10, f11, f12, f13, f14, f15, f16, f17, f18, f19, n01, t0, t1⟩ K hK
          subst e
          simp only [Act.put, List.setIfInBounds_toArray, List.set_cons_zero, List.set_cons_succ]
          obtain rfl := f12 (hm ⟨12, .data⟩ (by simp) rfl)
          clear f12
          obtain ⟨q0, q1, q2⟩ := HX.out w2 HB
          go_simp
          exact hK.out _ _ ⟨u5, u6, u7, u8, u9, u10, u11, u12, u13, u14, u15, u16, .pointer (some ⟨w.heap.size, 1, none⟩), .slice A2 n2 c2, u19, u20, u21, u22, u3, u4, (by simp only [Act.put, List.setIfInBounds_toArray, List.set_cons_zero, List.set_cons_succ]), HB, (fun h => f0 (by simpa using h)), (fun h => f1 (by simpa using h)), (fun h => f2 (by simpa using h)), (fun h => f3 (by simpa using h)), (fun h => f4 (by simpa using h)), (fun h => f5 (by simpa using h)), (fun h => f6 (by simpa using h)), (fun h => f7 (by simpa using h)), (fun h => f8 (by simpa using h)), (fun h => (f9 (by simpa using h))), (fun h => f10 (by simpa using h)), (fun h => f11 (by simpa using h)), (fun _ => rfl), (fun _ => rfl), (fun h => f14 (by simpa using h)), (fun h => f15 (by simpa using h)), (fun h => f16 (by simpa using h)), (fun h => (f17 (by simpa using h))), (fun h => by simpa using (f18 (by simpa using h))), (fun h => by simpa using (f19 (by simpa using h))), (fun h h' => n01 (by simpa using h) (by simpa using h')), (fun h => by simpa using t0 (by simpa using h)), (fun h => by simpa using t1 (by simpa using h))⟩
        · intro d a2 w2 hd hm ⟨u5, u6, u7, u8, u9, u10, u11, u12, u13, u14, u15, u16, u17, u18, u19, u20, u21, u22, u3, u4, e, HB, f0, f1, f2, f3, f4, f5, f6, f7, f8, f9, f10, f11, f12, f13, f14, f15, f16, f17, f18, f19, n01, t0, t1⟩ K hK
          subst e
          simp only [Act.put, List.setIfInBounds_toArray, List.set_cons_zero, List.set_cons_succ]
          obtain rfl := f13 (hm ⟨13, .data⟩ (by simp) rfl)
          clear f13
          go_simp
          exact hK.out _ _ ⟨u5, u6, u7, u8, u9, u10, u11, u12, u13, u14, u15, u16, u17, .slice A2 n2 c2, .int .i64 (n2 : Int), u20, u21, u22, u3, u4, (by simp only [Act.put, List.setIfInBounds_toArray, List.set_cons_zero, List.set_cons_succ]), HB, (fun h => f0 (by simpa using h)), (fun h => f1 (by simpa using h)), (fun h => f2 (by simpa using h)), (fun h => f3 (by simpa using h)), (fun h => f4 (by simpa using h)), (fun h => f5 (by simpa using h)), (fun h => f6 (by simpa using h)), (fun h => f7 (by simpa using h)), (fun h => f8 (by simpa using h)), (fun h => (f9 (by simpa using h))), (fun h => f10 (by simpa using h)), (fun h => f11 (by simpa using h)), (fun h => f12 (by simpa using h)), (fun _ => rfl), (fun _ => rfl), (fun h => f15 (by simpa using h)), (fun h => f16 (by simpa using h)), (fun h => (f17 (by simpa using h))), (fun h => by simpa using (f18 (by simpa using h))), (fun h => by simpa using (f19 (by simpa using h))), (fun h h' => n01 (by simpa using h) (by simpa using h')), (fun h => by simpa using t0 (by simpa using h)), (fun h => by simpa using t1 (by simpa using h))⟩
        · intro d a2 w2 hd hm ⟨u5, u6, u7, u8, u9, u10, u11, u12, u13, u14, u15, u16, u17, u18, u19, u20, u21, u22, u3, u4, e, HB, f0, f1, f2, f3, f4, f5, f6, f7, f8, f9, f10, f11, f12, f13, f14, f15, f16, f17, f18, f19, n01, t0, t1⟩ K hK
          subst e
          simp only [Act.put, List.setIfInBounds_toArray, List.set_cons_zero, List.set_cons_succ]
          obtain rfl := f14 (hm ⟨14, .data⟩ (by simp) rfl)
          clear f14
          go_simp
          exact hK.out _ _ ⟨u5, u6, u7, u8, u9, u10, u11, u12, u13, u14, u15, u16, u17, u18, .int .i64 (n2 : Int), .int .i64 (k2 : Int), u21, u22, u3, u4, (by simp only [Act.put, List.setIfInBounds_toArray, List.set_cons_zero, List.set_cons_succ]), HB, (fun h => f0 (by simpa using h)), (fun h => f1 (by simpa using h)), (fun h => f2 (by simpa using h)), (fun h => f3 (by simpa using h)), (fun h => f4 (by simpa using h)), (fun h => f5 (by simpa using h)), (fun h => f6 (by simpa using h)), (fun h => f7 (by simpa using h)), (fun h => f8 (by simpa using h)), (fun h => (f9 (by simpa using h))), (fun h => f10 (by simpa using h)), (fun h => f11 (by simpa using h)), (fun h => f12 (by simpa using h)), (fun h => f13 (by simpa using h)), (fun _ => rfl), (fun _ => rfl), (fun h => f16 (by simpa using h)), (fun h => (f17 (by simpa using h))), (fun h => by simpa using (f18 (by simpa using h))), (fun h => by simpa using (f19 (by simpa using h))), (fun h h' => n01 (by simpa using h) (by simpa using h')), (fun h => by simpa using t0 (by simpa using h)), (fun h => by simpa using t1 (by simpa using h))⟩
        · intro d a2 w2 hd hm ⟨u5, u6, u7, u8, u9, u10, u11, u12, u13, u14, u15, u16, u17, u18, u19, u20, u21, u22, u3, u4, e, HB, f0, f1, f2, f3, f4, f5, f6, f7, f8, f9, f10, f11, f12, f13, f14, f15, f16, f17, f18, f19, n01, t0, t1⟩ K hK
          subst e
          simp only [Act.put, List.setIfInBounds_toArray, List.set_cons_zero, List.set_cons_succ]
          obtain rfl := f11 (hm ⟨11, .data⟩ (by simp) rfl)
          clear f11
          obtain rfl := f15 (hm ⟨15, .data⟩ (by simp) rfl)
          clear f15
          go_simp
          exact hK.out _ _ ⟨u5, u6, u7, u8, u9, u10, u11, u12, u13, u14, u15, .slice A2 n2 c2, u17, u18, u19, .int .i64 (k2 : Int), .slice A2 k2 c2, u22, u3, u4, (by simp only [Act.put, List.setIfInBounds_toArray, List.set_cons_zero, List.set_cons_succ]), HB, (fun h => f0 (by simpa using h)), (fun h => f1 (by simpa using h)), (fun h => f2 (by simpa using h)), (fun h => f3 (by simpa using h)), (fun h => f4 (by simpa using h)), (fun h => f5 (by simpa using h)), (fun h => f6 (by simpa using h)), (fun h => f7 (by simpa using h)), (fun h => f8 (by simpa using h)), (fun h => (f9 (by simpa using h))), (fun h => f10 (by simpa using h)), (fun _ => rfl), (fun h => f12 (by simpa using h)), (fun h => f13 (by simpa using h)), (fun h => f14 (by simpa using h)), (fun _ => rfl), (fun _ => rfl), (fun h => (f17 (by simpa using h))), (fun h => by simpa using (f18 (by simpa using h))), (fun h => by simpa using (f19 (by simpa using h))), (fun h h' => n01 (by simpa using h) (by simpa using h')), (fun h => by simpa using t0 (by simpa using h)), (fun h => by simpa using t1 (by simpa using h))⟩
        · intro d a2 w2 hd hm ⟨u5, u6, u7, u8, u9, u10, u11, u12, u13, u14, u15, u16, u17, u18, u19, u20, u21, u22, u3, u4, e, HB, f0, f1, f2, f3, f4, f5, f6, f7, f8, f9, f10, f11, f12, f13, f14, f15, f16, f17, f18, f19, n01, t0, t1⟩ K hK
          subst e
          simp only [Act.put, List.setIfInBounds_toArray, List.set_cons_zero, List.set_cons_succ]
          obtain rfl := f16 (hm ⟨16, .data⟩ (by simp) rfl)
          clear f16
          go_simp
          (with_reducible refine (M2.out _ (B0.trans (Below.mono HB B0.size))).mono ?_)
          rintro e w3 ⟨gg, AA, nn, cc, rfl, hi, hb⟩
          have HB3 := HB.trans (hb.mono HB.size)
          go_wp2_with fail
          exact hK.out _ _ ⟨u5, u6, u7, u8, u9, u10, u11, u12, u13, u14, u15, u16, u17, u18, u19, u20, .slice A2 k2 c2, .agg #[.bool gg, .slice AA nn cc], u3, u4, (by simp only [Act.put, List.setIfInBounds_toArray, List.set_cons_zero, List.set_cons_succ]), HB3, (fun h => f0 (by simpa using h)), (fun h => f1 (by simpa using h)), (fun h => f2 (by simpa using h)), (fun h => f3 (by simpa using h)), (fun h => f4 (by simpa using h)), (fun h => f5 (by simpa using h)), (fun h => f6 (by simpa using h)), (fun h => f7 (by simpa using h)), (fun h => f8 (by simpa using h)), (fun h => (f9 (by simpa using h)).below hb), (fun h => f10 (by simpa using h)), (fun h => f11 (by simpa using h)), (fun h => f12 (by simpa using h)), (fun h => f13 (by simpa using h)), (fun h => f14 (by simpa using h)), (fun h => f15 (by simpa using h)), (fun _ => rfl), (fun _ => ⟨_, _, _, _, rfl, hi⟩), (fun h => by simpa using (f18 (by simpa using h)).below hb), (fun h => by simpa using (f19 (by simpa using h)).below hb), (fun h h' => n01 (by simpa using h) (by simpa using h')), (fun h => by simpa using t0 (by simpa using h)), (fun h => by simpa using t1 (by simpa using h))⟩
        · intro d a2 w2 hd hm ⟨u5, u6, u7, u8, u9, u10, u11, u12, u13, u14, u15, u16, u17, u18, u19, u20, u21, u22, u3, u4, e, HB, f0, f1, f2, f3, f4, f5, f6, f7, f8, f9, f10, f11, f12, f13, f14, f15, f16, f17, f18, f19, n01, t0, t1⟩ K hK
          subst e
          simp only [Act.put, List.setIfInBounds_toArray, List.set_cons_zero, List.set_cons_succ]
          have hb : Below w2.heap.size w2 (w2.alloc (.cells #[.bool false, .slice none 0 0] 26)) := (Below.refl _ _).alloc (Nat.le_refl _) _
          have HB3 := HB.trans (hb.mono HB.size)
          go_simp
          exact hK.out _ _ ⟨u5, u6, u7, u8, u9, u10, u11, u12, u13, u14, u15, u16, u17, u18, u19, u20, u21, u22, .pointer (some ⟨w2.heap.size, 0, none⟩), u4, (by simp only [Act.put, List.setIfInBounds_toArray, List.set_cons_zero, List.set_cons_succ]), HB3, (fun h => f0 (by simpa using h)), (fun h => f1 (by simpa using h)), (fun h => f2 (by simpa using h)), (fun h => f3 (by simpa using h)), (fun h => f4 (by simpa using h)), (fun h => f5 (by simpa using h)), (fun h => f6 (by simpa using h)), (fun h => f7 (by simpa using h)), (fun h => f8 (by simpa using h)), (fun h => (f9 (by simpa using h)).below hb), (fun h => f10 (by simpa using h)), (fun h => f11 (by simpa using h)), (fun h => f12 (by simpa using h)), (fun h => f13 (by simpa using h)), (fun h => f14 (by simpa using h)), (fun h => f15 (by simpa using h)), (fun h => f16 (by simpa using h)), (fun h => (f17 (by simpa using h)).below hb), (fun _ => by have hs : d 20 = false := (by cases hq : d 20 with | false => rfl | true => (have hz := t0 hq; rw [hd] at hz; cases hz)); simpa [hs] using OwnP.new HB.size (N)), (fun h => by simpa using (f19 (by simpa using h)).below hb), (fun _ h' => ((f19 (by simpa using h')).lt).symm), (fun _ => by simp), (fun h => by simpa using t1 (by simpa using h))⟩
        · intro d a2 w2 hd hm ⟨u5, u6, u7, u8, u9, u10, u11, u12, u13, u14, u15, u16, u17, u18, u19, u20, u21, u22, u3, u4, e, HB, f0, f1, f2, f3, f4, f5, f6, f7, f8, f9, f10, f11, f12, f13, f14, f15, f16, f17, f18, f19, n01, t0, t1⟩ K hK
          subst e
          simp only [Act.put, List.setIfInBounds_toArray, List.set_cons_zero, List.set_cons_succ]
          have hb : Below w2.heap.size w2 (w2.alloc (.cells #[.bool false, .slice none 0 0] 26)) := (Below.refl _ _).alloc (Nat.le_refl _) _
          have HB3 := HB.trans (hb.mono HB.size)
          go_simp
          exact hK.out _ _ ⟨u5, u6, u7, u8, u9, u10, u11, u12, u13, u14, u15, u16, u17, u18, u19, u20, u21, u22, u3, .pointer (some ⟨w2.heap.size, 0, none⟩), (by simp only [Act.put, List.setIfInBounds_toArray, List.set_cons_zero, List.set_cons_succ]), HB3, (fun h => f0 (by simpa using h)), (fun h => f1 (by simpa using h)), (fun h => f2 (by simpa using h)), (fun h => f3 (by simpa using h)), (fun h => f4 (by simpa using h)), (fun h => f5 (by simpa using h)), (fun h => f6 (by simpa using h)), (fun h => f7 (by simpa using h)), (fun h => f8 (by simpa using h)), (fun h => (f9 (by simpa using h)).below hb), (fun h => f10 (by simpa using h)), (fun h => f11 (by simpa using h)), (fun h => f12 (by simpa using h)), (fun h => f13 (by simpa using h)), (fun h => f14 (by simpa using h)), (fun h => f15 (by simpa using h)), (fun h => f16 (by simpa using h)), (fun h => (f17 (by simpa using h)).below hb), (fun h => by simpa using (f18 (by simpa using h)).below hb), (fun _ => by have hs : d 21 = false := (by cases hq : d 21 with | false => rfl | true => (have hz := t1 hq; rw [hd] at hz; cases hz)); simpa [hs] using OwnP.new HB.size (D)), (fun h _ => (f18 (by simpa using h)).lt), (fun h => by simpa using t0 (by simpa using h)), (fun _ => by simp)⟩
        · intro d a2 w2 hd hm ⟨u5, u6, u7, u8, u9, u10, u11, u12, u13, u14, u15, u16, u17, u18, u19, u20, u21, u22, u3, u4, e, HB, f0, f1, f2, f3, f4, f5, f6, f7, f8, f9, f10, f11, f12, f13, f14, f15, f16, f17, f18, f19, n01, t0, t1⟩ K hK
          subst e
          simp only [Act.put, List.setIfInBounds_toArray, List.set_cons_zero, List.set_cons_succ]
          obtain ⟨gg, AA, nn, cc, rfl, hi⟩ := f9 (hm ⟨9, .data⟩ (by simp) rfl)
          obtain ⟨g, rfl, hg, b0, b1, hs, n0, n1, _⟩ := f18 (hm ⟨18, .data⟩ (by simp) rfl)
          obtain ⟨k0, k1, k2, k3, k4⟩ := id hs
          go_simp
          exact hK.out _ _ ⟨u5, u6, u7, u8, u9, u10, u11, u12, u13, .agg #[.bool gg, .slice AA nn cc], u15, u16, u17, u18, u19, u20, u21, u22, .pointer (some ⟨g, 0, none⟩), u4, (by simp only [Act.put, List.setIfInBounds_toArray, List.set_cons_zero, List.set_cons_succ]), Below.set2 HB hg _ _, (fun h => f0 (by simpa using h)), (fun h => f1 (by simpa using h)), (fun h => f2 (by simpa using h)), (fun h => f3 (by simpa using h)), (fun h => f4 (by simpa using h)), (fun h => f5 (by simpa using h)), (fun h => f6 (by simpa using h)), (fun h => f7 (by simpa using h)), (fun h => f8 (by simpa using h)), (fun h => (f9 (by simpa using h)).set2 hs n0 n1 _ _), (fun h => f10 (by simpa using h)), (fun h => f11 (by simpa using h)), (fun h => f12 (by simpa using h)), (fun h => f13 (by simpa using h)), (fun h => f14 (by simpa using h)), (fun h => f15 (by simpa using h)), (fun h => f16 (by simpa using h)), (fun h => (f17 (by simpa using h)).set2 hs n0 n1 _ _), (fun _ => by simpa using OwnP.near hi hg hs n0 n1), (fun h => by simpa using (f19 (by simpa using h)).far ((n01 (hm ⟨18, .data⟩ (by simp) rfl) (by simpa using h)).symm) hs n0 n1 _ _), (fun h h' => n01 (by simpa using h) (by simpa using h')), (fun _ => by simpa using hm ⟨18, .data⟩ (by simp) rfl), (fun h => by simpa using t1 (by simpa using h))⟩
        · intro d a2 w2 hd hm ⟨u5, u6, u7, u8, u9, u10, u11, u12, u13, u14, u15, u16, u17, u18, u19, u20, u21, u22, u3, u4, e, HB, f0, f1, f2, f3, f4, f5, f6, f7, f8, f9, f10, f11, f12, f13, f14, f15, f16, f17, f18, f19, n01, t0, t1⟩ K hK
          subst e
          simp only [Act.put, List.setIfInBounds_toArray, List.set_cons_zero, List.set_cons_succ]
          obtain ⟨gg, AA, nn, cc, rfl, hi⟩ := f17 (hm ⟨17, .data⟩ (by simp) rfl)
          obtain ⟨g, rfl, hg, b0, b1, hs, n0, n1, _⟩ := f19 (hm ⟨19, .data⟩ (by simp) rfl)
          obtain ⟨k0, k1, k2, k3, k4⟩ := id hs
          go_simp
          exact hK.out _ _ ⟨u5, u6, u7, u8, u9, u10, u11, u12, u13, u14, u15, u16, u17, u18, u19, u20, u21, .agg #[.bool gg, .slice AA nn cc], u3, .pointer (some ⟨g, 0, none⟩), (by simp only [Act.put, List.setIfInBounds_toArray, List.set_cons_zero, List.set_cons_succ]), Below.set2 HB hg _ _, (fun h => f0 (by simpa using h)), (fun h => f1 (by simpa using h)), (fun h => f2 (by simpa using h)), (fun h => f3 (by simpa using h)), (fun h => f4 (by simpa using h)), (fun h => f5 (by simpa using h)), (fun h => f6 (by simpa using h)), (fun h => f7 (by simpa using h)), (fun h => f8 (by simpa using h)), (fun h => (f9 (by simpa using h)).set2 hs n0 n1 _ _), (fun h => f10 (by simpa using h)), (fun h => f11 (by simpa using h)), (fun h => f12 (by simpa using h)), (fun h => f13 (by simpa using h)), (fun h => f14 (by simpa using h)), (fun h => f15 (by simpa using h)), (fun h => f16 (by simpa using h)), (fun h => (f17 (by simpa using h)).set2 hs n0 n1 _ _), (fun h => by simpa using (f18 (by simpa using h)).far (n01 (by simpa using h) (hm ⟨19, .data⟩ (by simp) rfl)) hs n0 n1 _ _), (fun _ => by simpa using OwnP.near hi hg hs n0 n1), (fun h h' => n01 (by simpa using h) (by simpa using h')), (fun h => by simpa using t0 (by simpa using h)), (fun _ => by simpa using hm ⟨19, .data⟩ (by simp) rfl)⟩
      · intro d a2 w2 hall ⟨u5, u6, u7, u8, u9, u10, u11, u12, u13, u14, u15, u16, u17, u18, u19, u20, u21, u22, u3, u4, e, HB, f0, f1, f2, f3, f4, f5, f6, f7, f8, f9, f10, f11, f12, f13, f14, f15, f16, f17, f18, f19, n01, t0, t1⟩
        subst e
        simp only [Act.put, List.setIfInBounds_toArray, List.set_cons_zero, List.set_cons_succ]
        obtain rfl := f0 (hall _ (by decide))
        obtain rfl := f1 (hall _ (by decide))
        obtain rfl := f2 (hall _ (by decide))
        obtain rfl := f3 (hall _ (by decide))
        obtain rfl := f4 (hall _ (by decide))
        obtain rfl := f5 (hall _ (by decide))
        obtain rfl := f6 (hall _ (by decide))
        obtain rfl := f7 (hall _ (by decide))
        obtain rfl := f8 (hall _ (by decide))
        obtain rfl := f10 (hall _ (by decide))
        obtain rfl := f11 (hall _ (by decide))
        obtain rfl := f12 (hall _ (by decide))
        obtain rfl := f13 (hall _ (by decide))
        obtain rfl := f14 (hall _ (by decide))
        obtain rfl := f15 (hall _ (by decide))
        obtain rfl := f16 (hall _ (by decide))
        have x01 := n01 (hall _ (by decide)) (hall _ (by decide))
        obtain ⟨g0, rfl, h0, b0⟩ := OwnP.intAtB (by have := f18 (hall _ (by decide)); rwa [hall 20 (by decide)] at this)
        obtain ⟨g1, rfl, h1, b1⟩ := OwnP.intAtB (by have := f19 (hall _ (by decide)); rwa [hall 21 (by decide)] at this)
        have e01 : g0 ≠ g1 := fun h => x01 (by rw [h])
        go_wp2_with fail
        go_meet
        exact ⟨g0, g1, rfl, rfl, h0, h1, e01, b0, b1, HB⟩
  case rest =>
  obtain ⟨ga, gb, rfl, rfl, ⟨gN, AN, nN, cN, Sa, Ia⟩, ⟨gD, AD, nD, cD, Sb, Ib⟩, hne, hga, hgb, HB⟩ := hcut
  obtain ⟨W2, rfl⟩ : ∃ x : World, x = wc := ⟨_, rfl⟩
  have R2 := R0.after HB
  have B2 := B0.trans (HB.mono B0.size)
  have hgr : w.heap.size + 1 < W0.heap.size := R0.2.2.2.2.2.2.2.2
  have hbs : gb < W2.heap.size := Sb.2.2.2.2
  clear s0 s1 s2 sl R0 B0 HB HX M1 M2 i10 i11 i12 i20 i21 i22
  have ⟨y0, y1, _, _, _⟩ := Sb
  by_cases hD : D = 0
  · have HS : Hid (sgn D = 0) := by rw [hD]; rfl
    have HDD : Hid (DD = 1) := by show DD = 1; rw [hDv.out, if_pos hD]
    clear hD
    go_wp2_with fail
    (with_reducible refine (rsign_z gD AD nD cD _ 0 Ib HS.out).mono ?_)
    rintro e w3 ⟨rfl, b3⟩
    have Sa3 := Sa.after b3
    have Sb3 := Sb.after b3
    have Ia3 := Ia.below b3
    have R3 := R2.after b3
    have B3 := B2.trans (b3.mono B2.size)
    clear Sa Sb Ia Ib R2 B2 y0 y1 b3
    go_wp2_with fail
    (with_reducible refine (rof_any 1 _ (by decide) (by decide)).mono ?_)
    rintro e w4 ⟨gp4, Ap4, np4, cp4, rfl, ip4, bp4⟩
    have Sa4 := Sa3.after bp4
    have Sb4 := Sb3.after bp4
    have Ia4 := Ia3.below bp4
    have R4 := R3.after bp4
    have B4 := B3.trans (bp4.mono B3.size)
    clear Sa3 Sb3 Ia3 R3 B3 bp4
    have ⟨y0, y1, y2, y3, _⟩ := Sb4
    have Sa5 := Sa4.far2 (g' := gb) hne (.bool gp4) (.slice Ap4 np4 cp4)
    have R5 := R4.far2 (g' := gb) (by omega) (.bool gp4) (.slice Ap4 np4 cp4)
    have Ia5 := Ia4.set2 Sb4 rfl rfl (.bool gp4) (.slice Ap4 np4 cp4)
    have Ib5 := ip4.set2 Sb4 rfl rfl (.bool gp4) (.slice Ap4 np4 cp4)
    have Sb5 := Sb4.set2 (.bool gp4) (.slice Ap4 np4 cp4)
    have B5 := Below.set2 B4 (show w.heap.size ≤ gb by omega) (.bool gp4) (.slice Ap4 np4 cp4)
    rw [← HDD.out] at Ib5
    clear Sa4 Ia4 R4 B4 ip4
    have ⟨x0, x1, _, _, _⟩ := Sa5
    have ⟨z0, z1, _, _, _⟩ := Sb5
    clear Sb4
    go_wp2_with fail
    (with_reducible refine (rqofd_z gN AN nN cN gp4 Ap4 np4 cp4 _ Ia5 Ib5 Z1 Z2 (by decide) HD0.out).mono ?_)
    rintro e w6 ⟨gnp6, Anp6, nnp6, cnp6, gdp6, Adp6, ndp6, cdp6, rfl, ip6, bp6⟩
    rw [← HQ.out] at ip6
    have R6 := R5.after bp6
    have B6 := B5.trans (bp6.mono B5.size)
    clear x0 x1 y0 y1 y2 y3 z0 z1 Sa5 Sb5 Ia5 Ib5 R5 B5 bp6
    have ⟨r0, r1, r2, r3, k0, k1', k2', k3, _⟩ := R6
    go_wp2
    refine bodyPost_ret (v := .agg #[.bool gnp6, .slice Anp6 nnp6 cnp6, .bool gdp6, .slice Adp6 ndp6 cdp6]) (by obtain ⟨v0, v1, v2, v3⟩ := R6.set4e (.bool gnp6) (.slice Anp6 nnp6 cnp6) (.bool gdp6) (.slice Adp6 ndp6 cdp6); simp [results, Tryz.results11, go_sem, v0, v1, v2, v3]) rfl ⟨_, _, _, _, _, _, _, _, rfl, ip6.stored4 R6 rfl rfl rfl rfl _ _ _ _, ?_⟩
    exact Below.set4 B6 (by omega) _ _ _ _
  · obtain ⟨sg, hsg⟩ : ∃ sg, sgn D = sg := ⟨_, rfl⟩
    have hs0 : (sg == 0) = false := by rw [← hsg]; exact sgn_ne' hD
    have HS := Lib.hid hsg
    have HDD : Hid (DD = D) := by show DD = D; rw [hDv.out, if_neg hD]
    clear hD hsg
    go_wp2_with fail
    (with_reducible refine (rsign_z gD AD nD cD _ sg Ib HS.out).mono ?_)
    rintro e w3 ⟨rfl, b3⟩
    have Sa3 := Sa.after b3
    have Sb3 := Sb.after b3
    have Ia3 := Ia.below b3
    have Ib3 := Ib.below b3
    rw [← HDD.out] at Ib3
    have R3 := R2.after b3
    have B3 := B2.trans (b3.mono B2.size)
    clear Sa Sb Ia Ib R2 B2 y0 y1 b3
    have ⟨x0, x1, _, _, _⟩ := Sa3
    have ⟨z0, z1, _, _, _⟩ := Sb3
    go_wp2_with fail
    (with_reducible refine (rqofd_z gN AN nN cN gD AD nD cD _ Ia3 Ib3 Z1 Z2 (by decide) HD0.out).mono ?_)
    rintro e w6 ⟨gnp6, Anp6, nnp6, cnp6, gdp6, Adp6, ndp6, cdp6, rfl, ip6, bp6⟩
    rw [← HQ.out] at ip6
    have R6 := R3.after bp6
    have B6 := B3.trans (bp6.mono B3.size)
    clear x0 x1 z0 z1 Sa3 Sb3 Ia3 Ib3 R3 B3 bp6
    have ⟨r0, r1, r2, r3, k0, k1', k2', k3, _⟩ := R6
    go_wp2
    refine bodyPost_ret (v := .agg #[.bool gnp6, .slice Anp6 nnp6 cnp6, .bool gdp6, .slice Adp6 ndp6 cdp6]) (by obtain ⟨v0, v1, v2, v3⟩ := R6.set4e (.bool gnp6) (.slice Anp6 nnp6 cnp6) (.bool gdp6) (.slice Adp6 ndp6 cdp6); simp [results, Tryz.results11, go_sem, v0, v1, v2, v3]) rfl ⟨_, _, _, _, _, _, _, _, rfl, ip6.stored4 R6 rfl rfl rfl rfl _ _ _ _, ?_⟩
    exact Below.set4 B6 (by omega) _ _ _ _
end Go.Proofs.YtlpoboikompjfaaGreatDoor
