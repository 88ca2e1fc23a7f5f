/- Contracts of torsionlaw04.number and torsionref04.Limit. -/
import Derived.Test.YtclmenpclkmfeaaDoorVRRoot
import Derived.Test.YtclmenpclkmfeaaDoorVG29CrtL
namespace Go.Proofs.YtclmenpclkmfeaaDoor
open Go.RowKit
set_option maxRecDepth 1000000 in
set_option maxHeartbeats 4000000 in
theorem num_z (A : Option Addr) (n c : Nat) (s : Bool) (xs : List Nat) (k : Nat) (w : World) (ha : Lim w w.heap.size A n c xs) (hk : k ≤ 1000) :
    Calls Tryd.prog 21 #[.agg #[.slice A n c, .bool s], .int .i64 (k : Int)] w (RetInt w (zOf s (val (xs.take k)))) := by
  have a1 := (Below.refl w.heap.size w).alloc (Nat.le_refl _) (.cells #[.slice A n c, .bool s] 45)
  have B0 := a1.alloc a1.size (.cells #[.bool false, .slice none 0 0] 28)
  have P0 := (Slot2.new w (.slice A n c) (.bool s) 45).alloc (.cells #[.bool false, .slice none 0 0] 28)
  have R0 := Slot2.new (w.alloc (.cells #[.slice A n c, .bool s] 45)) (.bool false) (.slice none 0 0) 28
  simp only [World.size_alloc] at R0
  have hcap := ha.cap
  obtain ⟨j, hj, hjk, hjn⟩ : ∃ j : Nat, (min (n : Int) k = j ∧ (if (k : Int) < n then (k : Int) else n) = j) ∧ xs.take j = xs.take k ∧ j ≤ n ∧ j ≤ k := by
    have hl := ha.len
    rcases Nat.lt_or_ge k n with h | h
    · exact ⟨k, ⟨by omega, by rw [if_pos (by omega)]⟩, rfl, by omega, by omega⟩
    · exact ⟨n, ⟨by omega, by rw [if_neg (by omega)]⟩, by rw [List.take_of_length_le (by omega), List.take_of_length_le (by omega)], by omega, h⟩
  obtain ⟨hj1, hj2⟩ := hj
  have HM : Hid (∀ V, Below w.heap.size w V → Calls Tryd.prog 48 #[.slice A j c, .bool s] V (RetInt V (zOf s (val (xs.take k))))) := fun V hV => by
    have := Made_any s A j c w.heap.size (xs.take j) V (((ha.take j hjn.1).more (Nat.le_refl _)).below hV) hV.size (by omega)
    rwa [hjk] at this
  clear ha a1
  go_enter Tryd.func21, Tryd.ntmps21
  go_upto_region 1 with (fail)
  generalize (w.alloc (.cells #[.slice A n c, .bool s] 45)).alloc (.cells #[.bool false, .slice none 0 0] 28) = W0 at *
  have HS : Hid (∀ V, Below W0.heap.size W0 V → V.cell? ⟨w.heap.size, 0, none⟩ = some (.slice A n c) ∧ V.cell? ⟨w.heap.size, 1, none⟩ = some (.bool s)) := fun V hV => ⟨(P0.after hV).1, (P0.after hV).2.1⟩
  have hjn0 := hjn.1
  have hcn : n ≤ c := by omega
  have hcm : c ≤ 9223372036854775807 := by omega
  have hjc : j ≤ c := by omega
  clear hcap hjk
  have Dr0 : Below W0.heap.size W0 W0.drew := (Below.refl _ _).drew
  refine wp_region_seq (.pre [(0, true), (1, true), (2, true), (3, true), (4, true), (5, true), (6, true), (7, true), (8, true), (9, true), (10, false), (11, false)] .done) (fun W => W.cell? ⟨w.heap.size, 0, none⟩ = some (.slice A n c) ∧ W.cell? ⟨w.heap.size, 1, none⟩ = some (.bool s)) (by kernel_rfl) (by kernel_rfl) ?_ (by kernel_rfl) (HS.out _ Dr0) ?_
  · refine chk_pre _ _ _ (by as_aux_lemma => kernel_rfl) ?_
    exact (by as_aux_lemma => kernel_rfl)
  refine seq_take _ ?_ rfl (Or.inl ⟨by rfl, ?_⟩) ?_
  rotate_left
  · (intro w hSw; (try dsimp only at hSw); go_simp; (try with_reducible rfl))
  try simp only [Act.put, List.setIfInBounds_toArray, List.set_cons_zero, List.set_cons_succ]
  refine seq_take _ ?_ rfl (Or.inl ⟨by rfl, ?_⟩) ?_
  rotate_left
  · (intro w hSw; (try dsimp only at hSw); go_simp; (try with_reducible rfl))
  try simp only [Act.put, List.setIfInBounds_toArray, List.set_cons_zero, List.set_cons_succ]
  refine seq_take _ ?_ rfl (Or.inl ⟨by rfl, ?_⟩) ?_
  rotate_left
  · (intro w hSw; (try dsimp only at hSw); go_simp; (try with_reducible rfl))
  try simp only [Act.put, List.setIfInBounds_toArray, List.set_cons_zero, List.set_cons_succ]
  refine seq_take _ ?_ rfl (Or.inl ⟨by rfl, ?_⟩) ?_
  rotate_left
  · (intro w hSw; (try dsimp only at hSw); go_simp; (try with_reducible rfl))
  try simp only [Act.put, List.setIfInBounds_toArray, List.set_cons_zero, List.set_cons_succ]
  refine seq_take _ ?_ rfl (Or.inl ⟨by rfl, ?_⟩) ?_
  rotate_left
  · (intro w hSw; (try dsimp only at hSw); go_simp; (try with_reducible rfl))
  try simp only [Act.put, List.setIfInBounds_toArray, List.set_cons_zero, List.set_cons_succ]
  refine seq_take _ ?_ rfl (Or.inl ⟨by rfl, ?_⟩) ?_
  rotate_left
  · (intro w hSw; (try dsimp only at hSw); go_simp; (try with_reducible rfl))
  try simp only [Act.put, List.setIfInBounds_toArray, List.set_cons_zero, List.set_cons_succ]
  refine seq_take _ ?_ rfl (Or.inl ⟨by rfl, ?_⟩) ?_
  rotate_left
  · (intro w hSw; (try dsimp only at hSw); go_simp; (try with_reducible rfl))
  try simp only [Act.put, List.setIfInBounds_toArray, List.set_cons_zero, List.set_cons_succ]
  refine seq_take _ ?_ rfl (Or.inl ⟨by rfl, ?_⟩) ?_
  rotate_left
  · (intro w hSw; (try dsimp only at hSw); go_simp; (try with_reducible rfl))
  try simp only [Act.put, List.setIfInBounds_toArray, List.set_cons_zero, List.set_cons_succ]
  refine seq_take _ ?_ rfl (Or.inl ⟨by rfl, ?_⟩) ?_
  rotate_left
  · (intro w hSw; (try dsimp only at hSw); go_simp; (try with_reducible rfl))
  try simp only [Act.put, List.setIfInBounds_toArray, List.set_cons_zero, List.set_cons_succ]
  refine seq_take _ ?_ rfl (Or.inl ⟨by rfl, ?_⟩) ?_
  rotate_left
  · (intro w hSw; (try dsimp only at hSw); go_simp; (try with_reducible rfl))
  try simp only [Act.put, List.setIfInBounds_toArray, List.set_cons_zero, List.set_cons_succ]
  refine seq_one _ rfl fun K hK => ?_
  go_simp
  (with_reducible refine (HM.out _ (B0.trans (Dr0.mono B0.size))).mono ?_)
  rintro e vr1 ⟨gr1, Ar1, nr1, cr1, rfl, ir1, br1⟩
  have Dr1 : Below W0.heap.size W0 vr1 := Below.trans Dr0 (br1.mono (Below.size Dr0))
  go_wp2_with fail
  refine hK.out _ _ (HS.out _ Dr1) (fun hHeld => ?_)
  clear hK K hHeld
  try simp only [Act.put, List.setIfInBounds_toArray, List.set_cons_zero, List.set_cons_succ]
  refine seq_one _ rfl fun K hK => ?_
  have R1 := R0.after Dr1
  have P1 := (P0.after Dr1).far2 (g' := w.heap.size + 1) (by omega) (.bool gr1) (.slice Ar1 nr1 cr1)
  have ⟨q0, q1, q2, q3, _⟩ := R1
  go_simp
  refine hK.out _ _ (⟨P1.1, P1.2.1⟩) (fun hHeld => ?_)
  clear hK K hHeld
  try simp only [Act.put, List.setIfInBounds_toArray, List.set_cons_zero, List.set_cons_succ]
  refine NoPanic.normal ?_
  go_wp2
  have R1 := R0.after Dr1
  have ⟨q0, q1, _, _, _⟩ := R1
  exact bodyPost_ret (v := .agg #[.bool gr1, .slice Ar1 nr1 cr1]) (by simp [results, Tryd.results21, go_sem, q0, q1]) rfl ⟨_, _, _, _, rfl, ir1.set2 R1 rfl rfl _ _, Below.set2 (B0.trans (Dr1.mono B0.size)) (by omega) _ _⟩
/-- The bound is what Limit returns. -/
theorem bnd_root {m : Int} {r : Nat} (hm : 1 ≤ m) (h : r * r ≤ ((m - 1) / 2).natAbs ∧ ((m - 1) / 2).natAbs < (r + 1) * (r + 1)) : Bnd m (r : Int) := by
  have h0 : 0 ≤ (m - 1) / 2 := by omega
  refine ⟨by omega, ?_, ?_⟩
  · have := Int.ofNat_le.2 h.1
    rw [Int.natCast_mul] at this
    omega
  · have := Int.ofNat_lt.2 h.2
    rw [Int.natCast_mul, Int.natCast_add] at this
    have e : ((1 : Nat) : Int) = 1 := rfl
    rw [e] at this
    omega
set_option maxRecDepth 1000000 in
set_option maxHeartbeats 4000000 in
theorem limit_z (ga : Bool) (Aa : Option Addr) (na ca : Nat) {k : Nat} {m : Int} (w : World) (ha : IsInt w ga Aa na ca m) (sa : Sz k m) (hk0 : 1 ≤ k) (hk : k ≤ 100) (hm : 1 ≤ m) :
    Calls Tryd.prog 31 #[.agg #[.bool ga, .slice Aa na ca]] w (fun e w' => ∃ r : Nat, RetInt w (r : Int) e w' ∧ Hid (Bnd m (r : Int))) := by
  have a1 := (Below.refl w.heap.size w).alloc (Nat.le_refl _) (.cells #[.bool ga, .slice Aa na ca] 28)
  have B0 := a1.alloc a1.size (.cells #[.bool false, .slice none 0 0] 28)
  have P0 := (Slot2.new w (.bool ga) (.slice Aa na ca) 28).alloc (.cells #[.bool false, .slice none 0 0] 28)
  have R0 := Slot2.new (w.alloc (.cells #[.bool ga, .slice Aa na ca] 28)) (.bool false) (.slice none 0 0) 28
  simp only [World.size_alloc] at R0
  have I0 := ha.below B0
  have S1 : Sz 1 (1 : Int) := Sz.of (by decide) (by decide)
  have S2 : Sz 1 (2 : Int) := Sz.of (by decide) (by decide)
  have Sm := sa.sub (S1.mono (l := k) (by omega) (by omega)) (by omega)
  have hh : 0 ≤ (m - 1) / 2 := by omega
  have Sh : Sz (k + 1) ((m - 1) / 2) := Sm.abs_le' (by omega)
  clear ha a1
  go_enter Tryd.func31, Tryd.ntmps31
  go_upto_region 1 with (fail)
  generalize (w.alloc (.cells #[.bool ga, .slice Aa na ca] 28)).alloc (.cells #[.bool false, .slice none 0 0] 28) = W0 at *
  have HX : Hid (∀ V, Below W0.heap.size W0 V → (V.cell? ⟨w.heap.size, 0, none⟩ = some (.bool ga) ∧ V.cell? ⟨w.heap.size, 1, none⟩ = some (.slice Aa na ca))) := fun V hV => ⟨(P0.after hV).1, (P0.after hV).2.1⟩
  have HI : Hid (∀ V, Below W0.heap.size W0 V → IsInt V ga Aa na ca m) := fun V hV => I0.below hV
  go_cut [3, 4] (fun p3 p4 wx => ∃ g3 g4, p3 = .pointer (some ⟨g3, 0, none⟩) ∧ p4 = .pointer (some ⟨g4, 0, none⟩) ∧ IntAt wx g3 ((m - 1) / 2) ∧ Below W0.heap.size W0 wx)
  case first =>
    as_aux_lemma =>
      refine wp_region_ev (fun d a0 a' w' => ∃ u9 u10 u11 u12 u13 u8 u14 u15 u16 u3 u4 u5 : Value, a' = ((((((((((((a0.put (some 9) u9).put (some 10) u10).put (some 11) u11).put (some 12) u12).put (some 13) u13).put (some 8) u8).put (some 14) u14).put (some 15) u15).put (some 16) u16).put (some 3) u3).put (some 4) u4).put (some 5) u5) ∧ Below W0.heap.size W0 w' ∧ (d 0 = true → u9 = .agg #[.bool ga, .slice Aa na ca]) ∧ (d 1 = true → IntV w' u10 (1)) ∧ (d 2 = true → IntV w' u11 (m - 1)) ∧ (d 3 = true → IntV w' u12 (2)) ∧ (d 4 = true → TupV w' u13 ((m - 1) / 2) ((m - 1) % 2) (0)) ∧ (d 5 = true → TupV w' u8 ((m - 1) / 2) ((m - 1) % 2) (0)) ∧ (d 6 = true → IntV w' u14 ((m - 1) / 2)) ∧ (d 7 = true → IntV w' u15 ((m - 1) % 2)) ∧ (d 8 = true → u16 = .int .i64 0) ∧ (d 13 = true → u5 = .int .i64 (0)) ∧ (d 9 = true → OwnP W0.heap.size w' u3 (d 11) ((m - 1) / 2)) ∧ (d 10 = true → OwnP W0.heap.size w' u4 (d 12) ((m - 1) % 2)) ∧ (d 9 = true → d 10 = true → u3 ≠ u4) ∧ (d 11 = true → d 9 = true) ∧ (d 12 = true → d 10 = true)) (by kernel_rfl) (by kernel_rfl) ?_ ?_ ?_ ?_
      · intro d d' h a' w' hh
        obtain rfl : d = d' := funext h
        exact hh
      · exact ⟨_, _, _, _, _, _, _, _, _, _, _, _, (by simp only [Act.put, List.setIfInBounds_toArray, List.set_cons_zero, List.set_cons_succ]; rfl), (Below.refl _ _).drew, (fun h => by cases h), (fun h => by cases h), (fun h => by cases h), (fun h => by cases h), (fun h => by cases h), (fun h => by cases h), (fun h => by cases h), (fun h => by cases h), (fun h => by cases h), (fun h => by cases h), (fun h => by cases h), (fun h => by cases h), (fun h => by cases h), (fun h => by cases h), (fun h => by cases h)⟩
      · refine ⟨?_, ?_, ?_, ?_, ?_, ?_, ?_, ?_, ?_, ?_, ?_, ?_, ?_, ?_, trivial⟩
        · intro d a2 w2 hd hm ⟨u9, u10, u11, u12, u13, u8, u14, u15, u16, u3, u4, u5, e, HB, f0, f1, f2, f3, f4, f5, f6, f7, f8, f13, f9, f10, n01, t0, t1⟩ K hK
          subst e
          simp only [Act.put, List.setIfInBounds_toArray, List.set_cons_zero, List.set_cons_succ]
          obtain ⟨q0, q1⟩ := HX.out w2 HB
          go_simp
          exact hK.out _ _ ⟨.agg #[.bool ga, .slice Aa na ca], u10, u11, u12, u13, u8, u14, u15, u16, u3, u4, u5, (by simp only [Act.put, List.setIfInBounds_toArray, List.set_cons_zero, List.set_cons_succ]), HB, (fun _ => rfl), (fun h => (f1 (by simpa using h))), (fun h => (f2 (by simpa using h))), (fun h => (f3 (by simpa using h))), (fun h => (f4 (by simpa using h))), (fun h => (f5 (by simpa using h))), (fun h => (f6 (by simpa using h))), (fun h => (f7 (by simpa using h))), (fun h => f8 (by simpa using h)), (fun h => f13 (by simpa using h)), (fun h => by simpa using (f9 (by simpa using h))), (fun h => by simpa using (f10 (by simpa using h))), (fun h h' => n01 (by simpa using h) (by simpa using h')), (fun h => by simpa using t0 (by simpa using h)), (fun h => by simpa using t1 (by simpa using h))⟩
        · intro d a2 w2 hd hm ⟨u9, u10, u11, u12, u13, u8, u14, u15, u16, u3, u4, u5, e, HB, f0, f1, f2, f3, f4, f5, f6, f7, f8, f13, f9, f10, n01, t0, t1⟩ K hK
          subst e
          simp only [Act.put, List.setIfInBounds_toArray, List.set_cons_zero, List.set_cons_succ]
          go_simp
          (with_reducible refine (rof_any 1 _ (by decide) (by decide)).mono ?_)
          rintro e w3 ⟨gg, AA, nn, cc, rfl, hi, hb⟩
          have HB3 := HB.trans (hb.mono HB.size)
          go_wp2_with fail
          exact hK.out _ _ ⟨u9, .agg #[.bool gg, .slice AA nn cc], u11, u12, u13, u8, u14, u15, u16, u3, u4, u5, (by simp only [Act.put, List.setIfInBounds_toArray, List.set_cons_zero, List.set_cons_succ]), HB3, (fun h => f0 (by simpa using h)), (fun _ => ⟨_, _, _, _, rfl, hi⟩), (fun h => (f2 (by simpa using h)).below hb), (fun h => (f3 (by simpa using h)).below hb), (fun h => (f4 (by simpa using h)).below hb), (fun h => (f5 (by simpa using h)).below hb), (fun h => (f6 (by simpa using h)).below hb), (fun h => (f7 (by simpa using h)).below hb), (fun h => f8 (by simpa using h)), (fun h => f13 (by simpa using h)), (fun h => by simpa using (f9 (by simpa using h)).below hb), (fun h => by simpa using (f10 (by simpa using h)).below hb), (fun h h' => n01 (by simpa using h) (by simpa using h')), (fun h => by simpa using t0 (by simpa using h)), (fun h => by simpa using t1 (by simpa using h))⟩
        · intro d a2 w2 hd hm ⟨u9, u10, u11, u12, u13, u8, u14, u15, u16, u3, u4, u5, e, HB, f0, f1, f2, f3, f4, f5, f6, f7, f8, f13, f9, f10, n01, t0, t1⟩ K hK
          subst e
          simp only [Act.put, List.setIfInBounds_toArray, List.set_cons_zero, List.set_cons_succ]
          obtain rfl := f0 (hm ⟨0, .data⟩ (by simp) rfl)
          clear f0
          obtain ⟨G1, A1, N1, C1, rfl, I1⟩ := f1 (hm ⟨1, .data⟩ (by simp) rfl)
          go_simp
          (with_reducible refine (rsub_z ga G1 Aa A1 na ca N1 C1 _ (HI.out _ HB) I1 sa S1).mono ?_)
          rintro e w3 ⟨gg, AA, nn, cc, rfl, hi, hb⟩
          have HB3 := HB.trans (hb.mono HB.size)
          go_wp2_with fail
          exact hK.out _ _ ⟨.agg #[.bool ga, .slice Aa na ca], .agg #[.bool G1, .slice A1 N1 C1], .agg #[.bool gg, .slice AA nn cc], u12, u13, u8, u14, u15, u16, u3, u4, u5, (by simp only [Act.put, List.setIfInBounds_toArray, List.set_cons_zero, List.set_cons_succ]), HB3, (fun _ => rfl), (fun h => (f1 (by simpa using h)).below hb), (fun _ => ⟨_, _, _, _, rfl, hi⟩), (fun h => (f3 (by simpa using h)).below hb), (fun h => (f4 (by simpa using h)).below hb), (fun h => (f5 (by simpa using h)).below hb), (fun h => (f6 (by simpa using h)).below hb), (fun h => (f7 (by simpa using h)).below hb), (fun h => f8 (by simpa using h)), (fun h => f13 (by simpa using h)), (fun h => by simpa using (f9 (by simpa using h)).below hb), (fun h => by simpa using (f10 (by simpa using h)).below hb), (fun h h' => n01 (by simpa using h) (by simpa using h')), (fun h => by simpa using t0 (by simpa using h)), (fun h => by simpa using t1 (by simpa using h))⟩
        · intro d a2 w2 hd hm ⟨u9, u10, u11, u12, u13, u8, u14, u15, u16, u3, u4, u5, e, HB, f0, f1, f2, f3, f4, f5, f6, f7, f8, f13, f9, f10, n01, t0, t1⟩ K hK
          subst e
          simp only [Act.put, List.setIfInBounds_toArray, List.set_cons_zero, List.set_cons_succ]
          go_simp
          (with_reducible refine (rof_any 2 _ (by decide) (by decide)).mono ?_)
          rintro e w3 ⟨gg, AA, nn, cc, rfl, hi, hb⟩
          have HB3 := HB.trans (hb.mono HB.size)
          go_wp2_with fail
          exact hK.out _ _ ⟨u9, u10, u11, .agg #[.bool gg, .slice AA nn cc], u13, u8, u14, u15, u16, u3, u4, u5, (by simp only [Act.put, List.setIfInBounds_toArray, List.set_cons_zero, List.set_cons_succ]), HB3, (fun h => f0 (by simpa using h)), (fun h => (f1 (by simpa using h)).below hb), (fun h => (f2 (by simpa using h)).below hb), (fun _ => ⟨_, _, _, _, rfl, hi⟩), (fun h => (f4 (by simpa using h)).below hb), (fun h => (f5 (by simpa using h)).below hb), (fun h => (f6 (by simpa using h)).below hb), (fun h => (f7 (by simpa using h)).below hb), (fun h => f8 (by simpa using h)), (fun h => f13 (by simpa using h)), (fun h => by simpa using (f9 (by simpa using h)).below hb), (fun h => by simpa using (f10 (by simpa using h)).below hb), (fun h h' => n01 (by simpa using h) (by simpa using h')), (fun h => by simpa using t0 (by simpa using h)), (fun h => by simpa using t1 (by simpa using h))⟩
        · intro d a2 w2 hd hm ⟨u9, u10, u11, u12, u13, u8, u14, u15, u16, u3, u4, u5, e, HB, f0, f1, f2, f3, f4, f5, f6, f7, f8, f13, f9, f10, n01, t0, t1⟩ K hK
          subst e
          simp only [Act.put, List.setIfInBounds_toArray, List.set_cons_zero, List.set_cons_succ]
          obtain ⟨G2, A2, N2, C2, rfl, I2⟩ := f2 (hm ⟨2, .data⟩ (by simp) rfl)
          obtain ⟨G3, A3, N3, C3, rfl, I3⟩ := f3 (hm ⟨3, .data⟩ (by simp) rfl)
          go_simp
          (with_reducible refine (rdm_z G2 G3 A2 A3 N2 C2 N3 C3 _ I2 I3 Sm S2 (by decide) (by omega)).mono ?_)
          rintro e w3 ⟨g1, A1', n1', c1', g2, A2', n2', c2', rfl, hi1, hi2, hb⟩
          have HB3 := HB.trans (hb.mono HB.size)
          go_wp2_with fail
          exact hK.out _ _ ⟨u9, u10, .agg #[.bool G2, .slice A2 N2 C2], .agg #[.bool G3, .slice A3 N3 C3], .tuple #[.agg #[.bool g1, .slice A1' n1' c1'], .agg #[.bool g2, .slice A2' n2' c2'], .int .i64 (0)], u8, u14, u15, u16, u3, u4, u5, (by simp only [Act.put, List.setIfInBounds_toArray, List.set_cons_zero, List.set_cons_succ]), HB3, (fun h => f0 (by simpa using h)), (fun h => (f1 (by simpa using h)).below hb), (fun h => (f2 (by simpa using h)).below hb), (fun h => (f3 (by simpa using h)).below hb), (fun _ => ⟨_, _, rfl, ⟨_, _, _, _, rfl, hi1⟩, ⟨_, _, _, _, rfl, hi2⟩⟩), (fun h => (f5 (by simpa using h)).below hb), (fun h => (f6 (by simpa using h)).below hb), (fun h => (f7 (by simpa using h)).below hb), (fun h => f8 (by simpa using h)), (fun h => f13 (by simpa using h)), (fun h => by simpa using (f9 (by simpa using h)).below hb), (fun h => by simpa using (f10 (by simpa using h)).below hb), (fun h h' => n01 (by simpa using h) (by simpa using h')), (fun h => by simpa using t0 (by simpa using h)), (fun h => by simpa using t1 (by simpa using h))⟩
        · intro d a2 w2 hd hm ⟨u9, u10, u11, u12, u13, u8, u14, u15, u16, u3, u4, u5, e, HB, f0, f1, f2, f3, f4, f5, f6, f7, f8, f13, f9, f10, n01, t0, t1⟩ K hK
          subst e
          simp only [Act.put, List.setIfInBounds_toArray, List.set_cons_zero, List.set_cons_succ]
          obtain ⟨V4, U4, rfl, I4, J4⟩ := f4 (hm ⟨4, .data⟩ (by simp) rfl)
          go_simp
          exact hK.out _ _ ⟨u9, u10, u11, u12, .tuple #[V4, U4, .int .i64 (0)], .tuple #[V4, U4, .int .i64 (0)], u14, u15, u16, u3, u4, u5, (by simp only [Act.put, List.setIfInBounds_toArray, List.set_cons_zero, List.set_cons_succ]), HB, (fun h => f0 (by simpa using h)), (fun h => (f1 (by simpa using h))), (fun h => (f2 (by simpa using h))), (fun h => (f3 (by simpa using h))), (fun h => (f4 (by simpa using h))), (fun _ => ⟨V4, U4, rfl, I4, J4⟩), (fun h => (f6 (by simpa using h))), (fun h => (f7 (by simpa using h))), (fun h => f8 (by simpa using h)), (fun h => f13 (by simpa using h)), (fun h => by simpa using (f9 (by simpa using h))), (fun h => by simpa using (f10 (by simpa using h))), (fun h h' => n01 (by simpa using h) (by simpa using h')), (fun h => by simpa using t0 (by simpa using h)), (fun h => by simpa using t1 (by simpa using h))⟩
        · intro d a2 w2 hd hm ⟨u9, u10, u11, u12, u13, u8, u14, u15, u16, u3, u4, u5, e, HB, f0, f1, f2, f3, f4, f5, f6, f7, f8, f13, f9, f10, n01, t0, t1⟩ K hK
          subst e
          simp only [Act.put, List.setIfInBounds_toArray, List.set_cons_zero, List.set_cons_succ]
          obtain ⟨V5, U5, rfl, I5, J5⟩ := f5 (hm ⟨5, .data⟩ (by simp) rfl)
          go_simp
          exact hK.out _ _ ⟨u9, u10, u11, u12, u13, .tuple #[V5, U5, .int .i64 (0)], V5, u15, u16, u3, u4, u5, (by simp only [Act.put, List.setIfInBounds_toArray, List.set_cons_zero, List.set_cons_succ]), HB, (fun h => f0 (by simpa using h)), (fun h => (f1 (by simpa using h))), (fun h => (f2 (by simpa using h))), (fun h => (f3 (by simpa using h))), (fun h => (f4 (by simpa using h))), (fun h => (f5 (by simpa using h))), (fun _ => I5), (fun h => (f7 (by simpa using h))), (fun h => f8 (by simpa using h)), (fun h => f13 (by simpa using h)), (fun h => by simpa using (f9 (by simpa using h))), (fun h => by simpa using (f10 (by simpa using h))), (fun h h' => n01 (by simpa using h) (by simpa using h')), (fun h => by simpa using t0 (by simpa using h)), (fun h => by simpa using t1 (by simpa using h))⟩
        · intro d a2 w2 hd hm ⟨u9, u10, u11, u12, u13, u8, u14, u15, u16, u3, u4, u5, e, HB, f0, f1, f2, f3, f4, f5, f6, f7, f8, f13, f9, f10, n01, t0, t1⟩ K hK
          subst e
          simp only [Act.put, List.setIfInBounds_toArray, List.set_cons_zero, List.set_cons_succ]
          obtain ⟨V5, U5, rfl, I5, J5⟩ := f5 (hm ⟨5, .data⟩ (by simp) rfl)
          go_simp
          exact hK.out _ _ ⟨u9, u10, u11, u12, u13, .tuple #[V5, U5, .int .i64 (0)], u14, U5, u16, u3, u4, u5, (by simp only [Act.put, List.setIfInBounds_toArray, List.set_cons_zero, List.set_cons_succ]), HB, (fun h => f0 (by simpa using h)), (fun h => (f1 (by simpa using h))), (fun h => (f2 (by simpa using h))), (fun h => (f3 (by simpa using h))), (fun h => (f4 (by simpa using h))), (fun h => (f5 (by simpa using h))), (fun h => (f6 (by simpa using h))), (fun _ => J5), (fun h => f8 (by simpa using h)), (fun h => f13 (by simpa using h)), (fun h => by simpa using (f9 (by simpa using h))), (fun h => by simpa using (f10 (by simpa using h))), (fun h h' => n01 (by simpa using h) (by simpa using h')), (fun h => by simpa using t0 (by simpa using h)), (fun h => by simpa using t1 (by simpa using h))⟩
        · intro d a2 w2 hd hm ⟨u9, u10, u11, u12, u13, u8, u14, u15, u16, u3, u4, u5, e, HB, f0, f1, f2, f3, f4, f5, f6, f7, f8, f13, f9, f10, n01, t0, t1⟩ K hK
          subst e
          simp only [Act.put, List.setIfInBounds_toArray, List.set_cons_zero, List.set_cons_succ]
          obtain ⟨V5, U5, rfl, I5, J5⟩ := f5 (hm ⟨5, .data⟩ (by simp) rfl)
          go_simp
          exact hK.out _ _ ⟨u9, u10, u11, u12, u13, .tuple #[V5, U5, .int .i64 (0)], u14, u15, .int .i64 0, u3, u4, u5, (by simp only [Act.put, List.setIfInBounds_toArray, List.set_cons_zero, List.set_cons_succ]), HB, (fun h => f0 (by simpa using h)), (fun h => (f1 (by simpa using h))), (fun h => (f2 (by simpa using h))), (fun h => (f3 (by simpa using h))), (fun h => (f4 (by simpa using h))), (fun h => (f5 (by simpa using h))), (fun h => (f6 (by simpa using h))), (fun h => (f7 (by simpa using h))), (fun _ => rfl), (fun h => f13 (by simpa using h)), (fun h => by simpa using (f9 (by simpa using h))), (fun h => by simpa using (f10 (by simpa using h))), (fun h h' => n01 (by simpa using h) (by simpa using h')), (fun h => by simpa using t0 (by simpa using h)), (fun h => by simpa using t1 (by simpa using h))⟩
        · intro d a2 w2 hd hm ⟨u9, u10, u11, u12, u13, u8, u14, u15, u16, u3, u4, u5, e, HB, f0, f1, f2, f3, f4, f5, f6, f7, f8, f13, f9, f10, n01, t0, t1⟩ K hK
          subst e
          simp only [Act.put, List.setIfInBounds_toArray, List.set_cons_zero, List.set_cons_succ]
          have hb : Below w2.heap.size w2 (w2.alloc (.cells #[.bool false, .slice none 0 0] 28)) := (Below.refl _ _).alloc (Nat.le_refl _) _
          have HB3 := HB.trans (hb.mono HB.size)
          go_simp
          exact hK.out _ _ ⟨u9, u10, u11, u12, u13, u8, u14, u15, u16, .pointer (some ⟨w2.heap.size, 0, none⟩), u4, u5, (by simp only [Act.put, List.setIfInBounds_toArray, List.set_cons_zero, List.set_cons_succ]), HB3, (fun h => f0 (by simpa using h)), (fun h => (f1 (by simpa using h)).below hb), (fun h => (f2 (by simpa using h)).below hb), (fun h => (f3 (by simpa using h)).below hb), (fun h => (f4 (by simpa using h)).below hb), (fun h => (f5 (by simpa using h)).below hb), (fun h => (f6 (by simpa using h)).below hb), (fun h => (f7 (by simpa using h)).below hb), (fun h => f8 (by simpa using h)), (fun h => f13 (by simpa using h)), (fun _ => by have hs : d 11 = false := (by cases hq : d 11 with | false => rfl | true => (have hz := t0 hq; rw [hd] at hz; cases hz)); simpa [hs] using OwnP.new HB.size ((m - 1) / 2)), (fun h => by simpa using (f10 (by simpa using h)).below hb), (fun _ h' => ((f10 (by simpa using h')).lt).symm), (fun _ => by simp), (fun h => by simpa using t1 (by simpa using h))⟩
        · intro d a2 w2 hd hm ⟨u9, u10, u11, u12, u13, u8, u14, u15, u16, u3, u4, u5, e, HB, f0, f1, f2, f3, f4, f5, f6, f7, f8, f13, f9, f10, n01, t0, t1⟩ K hK
          subst e
          simp only [Act.put, List.setIfInBounds_toArray, List.set_cons_zero, List.set_cons_succ]
          have hb : Below w2.heap.size w2 (w2.alloc (.cells #[.bool false, .slice none 0 0] 28)) := (Below.refl _ _).alloc (Nat.le_refl _) _
          have HB3 := HB.trans (hb.mono HB.size)
          go_simp
          exact hK.out _ _ ⟨u9, u10, u11, u12, u13, u8, u14, u15, u16, u3, .pointer (some ⟨w2.heap.size, 0, none⟩), u5, (by simp only [Act.put, List.setIfInBounds_toArray, List.set_cons_zero, List.set_cons_succ]), HB3, (fun h => f0 (by simpa using h)), (fun h => (f1 (by simpa using h)).below hb), (fun h => (f2 (by simpa using h)).below hb), (fun h => (f3 (by simpa using h)).below hb), (fun h => (f4 (by simpa using h)).below hb), (fun h => (f5 (by simpa using h)).below hb), (fun h => (f6 (by simpa using h)).below hb), (fun h => (f7 (by simpa using h)).below hb), (fun h => f8 (by simpa using h)), (fun h => f13 (by simpa using h)), (fun h => by simpa using (f9 (by simpa using h)).below hb), (fun _ => by have hs : d 12 = false := (by cases hq : d 12 with | false => rfl | true => (have hz := t1 hq; rw [hd] at hz; cases hz)); simpa [hs] using OwnP.new HB.size ((m - 1) % 2)), (fun h _ => (f9 (by simpa using h)).lt), (fun h => by simpa using t0 (by simpa using h)), (fun _ => by simp)⟩
        · intro d a2 w2 hd hm ⟨u9, u10, u11, u12, u13, u8, u14, u15, u16, u3, u4, u5, e, HB, f0, f1, f2, f3, f4, f5, f6, f7, f8, f13, f9, f10, n01, t0, t1⟩ K hK
          subst e
          simp only [Act.put, List.setIfInBounds_toArray, List.set_cons_zero, List.set_cons_succ]
          obtain ⟨gg, AA, nn, cc, rfl, hi⟩ := f6 (hm ⟨6, .data⟩ (by simp) rfl)
          obtain ⟨g, rfl, hg, b0, b1, hs, n0, n1, _⟩ := f9 (hm ⟨9, .data⟩ (by simp) rfl)
          obtain ⟨k0, k1, k2, k3, k4⟩ := id hs
          go_simp
          exact hK.out _ _ ⟨u9, u10, u11, u12, u13, u8, .agg #[.bool gg, .slice AA nn cc], u15, u16, .pointer (some ⟨g, 0, none⟩), u4, u5, (by simp only [Act.put, List.setIfInBounds_toArray, List.set_cons_zero, List.set_cons_succ]), Below.set2 HB hg _ _, (fun h => f0 (by simpa using h)), (fun h => (f1 (by simpa using h)).set2 hs n0 n1 _ _), (fun h => (f2 (by simpa using h)).set2 hs n0 n1 _ _), (fun h => (f3 (by simpa using h)).set2 hs n0 n1 _ _), (fun h => (f4 (by simpa using h)).set2 hs n0 n1 _ _), (fun h => (f5 (by simpa using h)).set2 hs n0 n1 _ _), (fun h => (f6 (by simpa using h)).set2 hs n0 n1 _ _), (fun h => (f7 (by simpa using h)).set2 hs n0 n1 _ _), (fun h => f8 (by simpa using h)), (fun h => f13 (by simpa using h)), (fun _ => by simpa using OwnP.near hi hg hs n0 n1), (fun h => by simpa using (f10 (by simpa using h)).far ((n01 (hm ⟨9, .data⟩ (by simp) rfl) (by simpa using h)).symm) hs n0 n1 _ _), (fun h h' => n01 (by simpa using h) (by simpa using h')), (fun _ => by simpa using hm ⟨9, .data⟩ (by simp) rfl), (fun h => by simpa using t1 (by simpa using h))⟩
        · intro d a2 w2 hd hm ⟨u9, u10, u11, u12, u13, u8, u14, u15, u16, u3, u4, u5, e, HB, f0, f1, f2, f3, f4, f5, f6, f7, f8, f13, f9, f10, n01, t0, t1⟩ K hK
          subst e
          simp only [Act.put, List.setIfInBounds_toArray, List.set_cons_zero, List.set_cons_succ]
          obtain ⟨gg, AA, nn, cc, rfl, hi⟩ := f7 (hm ⟨7, .data⟩ (by simp) rfl)
          obtain ⟨g, rfl, hg, b0, b1, hs, n0, n1, _⟩ := f10 (hm ⟨10, .data⟩ (by simp) rfl)
          obtain ⟨k0, k1, k2, k3, k4⟩ := id hs
          go_simp
          exact hK.out _ _ ⟨u9, u10, u11, u12, u13, u8, u14, .agg #[.bool gg, .slice AA nn cc], u16, u3, .pointer (some ⟨g, 0, none⟩), u5, (by simp only [Act.put, List.setIfInBounds_toArray, List.set_cons_zero, List.set_cons_succ]), Below.set2 HB hg _ _, (fun h => f0 (by simpa using h)), (fun h => (f1 (by simpa using h)).set2 hs n0 n1 _ _), (fun h => (f2 (by simpa using h)).set2 hs n0 n1 _ _), (fun h => (f3 (by simpa using h)).set2 hs n0 n1 _ _), (fun h => (f4 (by simpa using h)).set2 hs n0 n1 _ _), (fun h => (f5 (by simpa using h)).set2 hs n0 n1 _ _), (fun h => (f6 (by simpa using h)).set2 hs n0 n1 _ _), (fun h => (f7 (by simpa using h)).set2 hs n0 n1 _ _), (fun h => f8 (by simpa using h)), (fun h => f13 (by simpa using h)), (fun h => by simpa using (f9 (by simpa using h)).far (n01 (by simpa using h) (hm ⟨10, .data⟩ (by simp) rfl)) hs n0 n1 _ _), (fun _ => by simpa using OwnP.near hi hg hs n0 n1), (fun h h' => n01 (by simpa using h) (by simpa using h')), (fun h => by simpa using t0 (by simpa using h)), (fun _ => by simpa using hm ⟨10, .data⟩ (by simp) rfl)⟩
        · intro d a2 w2 hd hm ⟨u9, u10, u11, u12, u13, u8, u14, u15, u16, u3, u4, u5, e, HB, f0, f1, f2, f3, f4, f5, f6, f7, f8, f13, f9, f10, n01, t0, t1⟩ K hK
          subst e
          simp only [Act.put, List.setIfInBounds_toArray, List.set_cons_zero, List.set_cons_succ]
          obtain rfl := f8 (hm ⟨8, .data⟩ (by simp) rfl)
          clear f8
          go_simp
          exact hK.out _ _ ⟨u9, u10, u11, u12, u13, u8, u14, u15, .int .i64 0, u3, u4, .int .i64 (0), (by simp only [Act.put, List.setIfInBounds_toArray, List.set_cons_zero, List.set_cons_succ]), HB, (fun h => f0 (by simpa using h)), (fun h => (f1 (by simpa using h))), (fun h => (f2 (by simpa using h))), (fun h => (f3 (by simpa using h))), (fun h => (f4 (by simpa using h))), (fun h => (f5 (by simpa using h))), (fun h => (f6 (by simpa using h))), (fun h => (f7 (by simpa using h))), (fun _ => rfl), (fun _ => rfl), (fun h => by simpa using (f9 (by simpa using h))), (fun h => by simpa using (f10 (by simpa using h))), (fun h h' => n01 (by simpa using h) (by simpa using h')), (fun h => by simpa using t0 (by simpa using h)), (fun h => by simpa using t1 (by simpa using h))⟩
      · intro d a2 w2 hall ⟨u9, u10, u11, u12, u13, u8, u14, u15, u16, u3, u4, u5, e, HB, f0, f1, f2, f3, f4, f5, f6, f7, f8, f13, f9, f10, n01, t0, t1⟩
        subst e
        simp only [Act.put, List.setIfInBounds_toArray, List.set_cons_zero, List.set_cons_succ]
        obtain rfl := f0 (hall _ (by decide))
        obtain rfl := f8 (hall _ (by decide))
        obtain rfl := f13 (hall _ (by decide))
        obtain ⟨g0, rfl, h0, b0⟩ := OwnP.intAtB (by have := f9 (hall _ (by decide)); rwa [hall 11 (by decide)] at this)
        obtain ⟨g1, rfl, h1, b1⟩ := OwnP.intAtB (by have := f10 (hall _ (by decide)); rwa [hall 12 (by decide)] at this)
        go_wp2_with fail
        go_meet
        exact ⟨g0, g1, rfl, rfl, h0, HB⟩
  case rest =>
  obtain ⟨g3, g4, rfl, rfl, X, D⟩ := hcut
  obtain ⟨W1, rfl⟩ : ∃ x : World, x = wc := ⟨_, rfl⟩
  obtain ⟨gx, Ax, nx, cx, X, J⟩ := X
  replace R0 := R0.after D
  replace B0 := B0.trans (D.mono B0.size)
  clear HX HI P0 I0 D
  have ⟨x0, x1, _, _, _⟩ := X
  go_wp2_with fail
  (with_reducible refine (rroot_z gx Ax nx cx _ J Sh (by omega) hh).mono ?_)
  rintro e w2 ⟨r, ⟨g5, A5, n5, c5, rfl, i5, b5⟩, hr⟩
  have a5 := (Below.refl w2.heap.size w2).alloc (Nat.le_refl _) (.cells #[.bool g5, .slice A5 n5 c5] 28)
  have T := Slot2.new w2 (.bool g5) (.slice A5 n5 c5) 28
  replace i5 := i5.below a5
  replace b5 := b5.trans (a5.mono b5.size)
  replace R0 := R0.after b5
  replace B0 := B0.trans (b5.mono B0.size)
  clear x0 x1 X J b5 a5
  have ⟨t0, t1, _, _, _⟩ := T
  have ⟨q0, q1, q2, q3, _⟩ := R0
  generalize hW : w2.alloc (.cells #[.bool g5, .slice A5 n5 c5] 28) = W5 at *
  go_wp2
  try rw [hW]
  clear hW
  exact bodyPost_ret (v := .agg #[.bool g5, .slice A5 n5 c5]) (by simp [results, Tryd.results31, go_sem, q0, q1]) rfl ⟨r, ⟨_, _, _, _, rfl, i5.set2 R0 rfl rfl _ _, Below.set2 B0 (by omega) _ _⟩, bnd_root hm hr.out⟩
end Go.Proofs.YtclmenpclkmfeaaDoor
