/- Contract of torsionref01.Root. -/
import Derived.Test.YtclmenpclkmfeaaDoorVRBits
import Derived.Test.YtclmenpclkmfeaaDoorVG26RDM
import Derived.Test.YtclmenpclkmfeaaDoorVG2Prod
import Derived.Test.YtclmenpclkmfeaaDoorVG3Num2
import Derived.Test.YtclmenpclkmfeaaDoorVG1CrtMap
import Derived.Deep.DeepCutAuto
namespace Go.Proofs.YtclmenpclkmfeaaDoor
open Go.RowKit
theorem val_pow (n : Nat) : val ((List.replicate (n / 32 + 1) 0).set (n / 32) (2 ^ (n % 32))) = 2 ^ n := by
  have h := val_set (List.replicate (n / 32 + 1) 0) (n / 32) (2 ^ (n % 32)) (by simp)
  rw [val_zeros] at h
  have e : (List.replicate (n / 32 + 1) 0).getD (n / 32) 0 = 0 := by simp
  rw [e, Nat.mul_zero, Nat.add_zero, Nat.zero_add] at h
  rw [h, show (4294967296 : Nat) = 2 ^ 32 by decide, ← Nat.pow_mul, ← Nat.pow_add]
  congr 1; omega
theorem make_pow (n : Nat) (h : n ≤ 1000000) (W : World) : (Instr.makeSlice 26 (.int .i64 ((n : Int) / 32 + 1)) (.int .i64 ((n : Int) / 32 + 1))).run Tryd.prog W = .ok (.slice (some ⟨W.heap.size, 0, none⟩) (n / 32 + 1) (n / 32 + 1)) (W.alloc (.cells (madeCells #[.int .u32 0] (n / 32 + 1)) 69)) := by
  have := make_u32 (n / 32 + 1) (by omega) W
  rw [show ((n / 32 + 1 : Nat) : Int) = (n : Int) / 32 + 1 by omega] at this
  exact this
theorem row_pow (n : Nat) (w : World) : Row (w.alloc (.cells ((madeCells #[.int .u32 0] (n / 32 + 1)).setIfInBounds (n / 32) (.int .u32 (2 ^ (n % 32) % 4294967296))) 69)) w.heap.size ((List.replicate (n / 32 + 1) 0).set (n / 32) (2 ^ (n % 32))) := by
  refine row_new w _ _ ?_
  have h1 : (2 : Int) ^ (n % 32) % 4294967296 = ((2 ^ (n % 32) : Nat) : Int) := by
    have h2 : 2 ^ (n % 32) < 2 ^ 32 := Nat.pow_lt_pow_right (by decide) (Nat.mod_lt _ (by decide))
    rw [Int.natCast_pow]
    have h3 : ((2 ^ (n % 32) : Nat) : Int) < ((2 ^ 32 : Nat) : Int) := Int.ofNat_lt.2 h2
    rw [Int.natCast_pow] at h3
    refine Int.emod_eq_of_lt (Int.pow_nonneg (by decide)) ?_
    exact h3
  rw [h1, ← Array.toList_inj, Array.toList_setIfInBounds, toList_madeCells_one]
  simp [ints, List.map_set]
theorem limbs_pow (n : Nat) : Limbs ((List.replicate (n / 32 + 1) 0).set (n / 32) (2 ^ (n % 32))) := by
  intro x hx
  rcases List.mem_or_eq_of_mem_set hx with h | h
  · rw [List.mem_replicate] at h; omega
  · rw [h]
    exact Nat.lt_of_lt_of_le (Nat.pow_lt_pow_right (by decide) (Nat.mod_lt _ (by decide))) (by decide : 2 ^ 32 ≤ 4294967296)
theorem made_pow (n g : Nat) (W : World) (hn : n ≤ 1000000) (h : Row W g ((List.replicate (n / 32 + 1) 0).set (n / 32) (2 ^ (n % 32)))) : Calls Tryd.prog 48 #[.slice (some ⟨g, 0, none⟩) (n / 32 + 1) (n / 32 + 1), .bool false] W (RetInt W ((2 ^ n : Nat) : Int)) := by
  have hl := h.len_lim (limbs_pow n) (n / 32 + 1) (by simp) (by omega)
  have := Made_any false (some ⟨g, 0, none⟩) (n / 32 + 1) (n / 32 + 1) W.heap.size _ W hl (Nat.le_refl _) (by omega)
  rw [val_pow] at this
  exact this
theorem Sz.abs_le' {k : Nat} {z m : Int} (h : Sz k m) (hz : z.natAbs ≤ m.natAbs) : Sz k z := ⟨h.le, Nat.le_trans (digs_len_mono hz) h.len⟩
theorem sz_pow {n k : Nat} (h : n ≤ 32 * k) (hk : k + 1 ≤ 10000) : Sz (k + 1) ((2 ^ n : Nat) : Int) := by
  refine Sz.of ?_ hk
  rw [Int.natAbs_natCast, show (4294967296 : Nat) = 2 ^ 32 by decide, ← Nat.pow_mul]
  exact Nat.pow_lt_pow_right (by decide) (by omega)
theorem sz_root {r k : Nat} {z : Int} (h : r * r ≤ z.natAbs) (s : Sz k z) : Sz k (r : Int) := by
  refine s.abs_le' ?_
  rw [Int.natAbs_natCast]
  rcases Nat.eq_zero_or_pos r with h0 | h0
  · omega
  · exact Nat.le_trans (Nat.le_mul_of_pos_left r h0) h
theorem root_step {r n v : Nat} (h : v < (r + 2 ^ (n + 1)) * (r + 2 ^ (n + 1))) : v < ((r + 2 ^ n) + 2 ^ n) * ((r + 2 ^ n) + 2 ^ n) := by
  rw [show r + 2 ^ n + 2 ^ n = r + 2 ^ (n + 1) by rw [Nat.pow_succ]; omega]; exact h
set_option maxRecDepth 1000000 in
set_option maxHeartbeats 8000000 in
theorem rroot_z (ga : Bool) (Aa : Option Addr) (na ca : Nat) {k : Nat} {z : Int} (w : World) (ha : IsInt w ga Aa na ca z) (sa : Sz k z) (hk : k ≤ 1000) (h0 : 0 ≤ z) :
    Calls Tryd.prog 62 #[.agg #[.bool ga, .slice Aa na ca]] w (fun e w' => ∃ r : Nat, RetIE w (r : Int) 0 e w' ∧ Hid (r * r ≤ z.natAbs ∧ z.natAbs < (r + 1) * (r + 1))) := by
  have a1 := (Below.refl w.heap.size w).alloc (Nat.le_refl _) (.cells #[.bool ga, .slice Aa na ca] 28)
  have B0 := a1.alloc a1.size (.cells #[.bool false, .slice none 0 0] 28)
  have P0 := (Slot2.new w (.bool ga) (.slice Aa na ca) 28).alloc (.cells #[.bool false, .slice none 0 0] 28)
  have R0 := Slot2.new (w.alloc (.cells #[.bool ga, .slice Aa na ca] 28)) (.bool false) (.slice none 0 0) 28
  simp only [World.size_alloc] at R0
  have hna : na ≤ 1000 := by rw [← ha.lim.len]; exact Nat.le_trans sa.len hk
  have I0 := ha.below B0
  clear ha a1
  have ⟨p0, p1, _, _, _⟩ := P0
  have hs : sgn z < 0 → False := by
    intro h
    unfold sgn at h
    split at h <;> omega
  obtain ⟨s, hs1⟩ : ∃ s, sgn z = s := ⟨_, rfl⟩
  have hs2 : decide (s < 0) = false := decide_eq_false (by rw [← hs1]; exact hs)
  clear hs
  go_enter Tryd.func62, Tryd.ntmps62
  generalize hW : ((w.alloc (.cells #[.bool ga, .slice Aa na ca] 28)).alloc (.cells #[.bool false, .slice none 0 0] 28)) = W0 at *
  go_wp2_with fail
  try rw [hW]
  clear hW
  (with_reducible refine (rsign_z ga Aa na ca _ s I0 hs1).mono ?_)
  rintro e w1 ⟨rfl, b1⟩
  have a2 := (Below.refl w1.heap.size w1).alloc (Nat.le_refl _) (.cells #[.bool false, .slice none 0 0] 28)
  have X := IntAt.new (isInt_zero' w1)
  have hgx0 : w.heap.size + 1 < w1.heap.size := (R0.after b1).2.2.2.2
  replace b1 := b1.trans (a2.mono b1.size)
  replace P0 := P0.after b1
  replace R0 := R0.after b1
  replace I0 := I0.below b1
  replace B0 := B0.trans (b1.mono B0.size)
  clear p0 p1 b1 a2
  have ⟨p0, p1, _, _, _⟩ := P0
  obtain ⟨gx, hgx⟩ : ∃ gx, gx = w1.heap.size := ⟨_, rfl⟩
  rw [← hgx] at hgx0
  go_upto_region 4 with (fail)
  generalize hW : w1.alloc (.cells #[.bool false, .slice none 0 0] 28) = W1 at *
  rw [← hgx] at X ⊢
  clear hW hgx
  go_wp2_with fail
  (with_reducible refine (rbits_z ga Aa na ca _ I0 (by omega)).mono ?_)
  rintro e w2 ⟨b, rfl, b2, hb32, hbz⟩
  replace X := X.after b2
  replace P0 := P0.after b2
  replace R0 := R0.after b2
  replace I0 := I0.below b2
  replace B0 := B0.trans (b2.mono B0.size)
  clear p0 p1 b2
  have HST : Hid (z.natAbs < (0 + 2 ^ ((b + 1) / 2 + 1)) * (0 + 2 ^ ((b + 1) / 2 + 1))) := by
    rw [Nat.zero_add, ← Nat.pow_add]
    exact Nat.lt_of_lt_of_le hbz.out (Nat.pow_le_pow_right (by decide) (by omega))
  go_wp2_with fail
  go_loopw [5] (fun s5 wr => ∃ m r : Nat, s5 = .int .i64 ((m : Int) - 1) ∧ m ≤ 16 * na + 2 ∧ IntAt wr gx (r : Int) ∧ Slot2 wr w.heap.size (.bool ga) (.slice Aa na ca) ∧ Slot2 wr (w.heap.size + 1) (.bool false) (.slice none 0 0) ∧ IsInt wr ga Aa na ca z ∧ Below w.heap.size w wr ∧ Hid (r * r ≤ z.natAbs ∧ z.natAbs < (r + 2 ^ m) * (r + 2 ^ m))) (fun s5 _ => (intOf s5 + 1).toNat)
  case atStart => exact ⟨(b + 1) / 2 + 1, 0, valI (by omega), by omega, X, P0, R0, I0, B0, by simp, HST.out⟩
  case round =>
    clear X P0 R0 I0 B0 HST
    obtain ⟨m, r, rfl, hm, X, P0, R0, I0, B0, hI⟩ := hrel
    rcases Nat.eq_zero_or_pos m with hm0 | hm0
    · subst hm0
      obtain ⟨gq, Aq, nq, cq, X, J⟩ := X
      have ⟨x0, x1, _, _, _⟩ := X
      have ⟨r0, r1, r2, r3, _⟩ := R0
      go_wp2_with fail
      exact bodyPost_ret (v := .tuple #[.agg #[.bool gq, .slice Aq nq cq], .int .i64 0]) (by simp [results, Tryd.results62, go_sem, r0, r1]) rfl ⟨r, ⟨_, _, _, _, rfl, J.set2 R0 rfl rfl _ _, Below.set2 B0 (by omega) _ _⟩, (by have := hI.out; simpa using this : r * r ≤ z.natAbs ∧ z.natAbs < (r + 1) * (r + 1))⟩
    · obtain ⟨n, rfl⟩ : ∃ n, m = n + 1 := ⟨m - 1, by omega⟩
      have e1 : ((n + 1 : Nat) : Int) - 1 = (n : Int) := by omega
      rw [e1]
      have hmk := make_pow n (by omega)
      have RM := Row.made wr (n / 32 + 1)
      have c0 := RM.cell (k := n / 32) (by simp)
      have c1 := RM.frozen (n / 32)
      rw [show (List.replicate (n / 32 + 1) 0).getD (n / 32) 0 = 0 by simp] at c0
      obtain ⟨ga', Aa', na', ca', X, J⟩ := X
      have rp := row_pow n wr
      have aw := (Below.refl wr.heap.size wr).alloc (Nat.le_refl _) (.cells ((madeCells #[.int .u32 0] (n / 32 + 1)).setIfInBounds (n / 32) (.int .u32 (2 ^ (n % 32) % 4294967296))) 69)
      replace X := X.after aw
      replace P0 := P0.after aw
      replace R0 := R0.after aw
      replace I0 := I0.below aw
      replace J := J.below aw
      replace B0 := B0.trans (aw.mono B0.size)
      obtain ⟨gm, hgm⟩ : ∃ gm, gm = wr.heap.size := ⟨_, rfl⟩
      clear aw RM
      go_upto_region 9 with (fail)
      generalize wr.alloc (.cells ((madeCells #[.int .u32 0] (n / 32 + 1)).setIfInBounds (n / 32) (.int .u32 (2 ^ (n % 32) % 4294967296))) 69) = W9 at *
      rw [← hgm] at rp ⊢
      clear hgm c0 c1 hmk
      have Sr := sz_root hI.out.1 sa
      have Sp := sz_pow (n := n) (k := na + 1) (by omega) (by omega)
      have HM : Hid (∀ V, Below W9.heap.size W9 V → Calls Tryd.prog 48 #[.slice (some ⟨gm, 0, none⟩) (n / 32 + 1) (n / 32 + 1), .bool false] V (RetInt V ((2 ^ n : Nat) : Int))) := fun V hV => made_pow n gm V (by omega) (rp.below hV rp.lt)
      have HX : Hid (∀ V, Below W9.heap.size W9 V → (V.cell? ⟨gx, 0, none⟩ = some (.bool ga') ∧ V.cell? ⟨gx, 1, none⟩ = some (.slice Aa' na' ca'))) := fun V hV => ⟨(X.after hV).1, (X.after hV).2.1⟩
      have HJ : Hid (∀ V, Below W9.heap.size W9 V → IsInt V ga' Aa' na' ca' (r : Int)) := fun V hV => J.below hV
      have hgx9 : gx < W9.heap.size := X.2.2.2.2
      go_cut [7] (fun p7 wx => ∃ g7, p7 = .pointer (some ⟨g7, 0, none⟩) ∧ IntAt wx g7 ((r : Int) + (2 ^ n : Nat)) ∧ W9.heap.size ≤ g7 ∧ Below W9.heap.size W9 wx)
      case first =>
        as_aux_lemma =>
          refine wp_region_ev (fun d a0 a' w' => ∃ u32 u33 u34 u35 u7 : Value, a' = (((((a0.put (some 32) u32).put (some 33) u33).put (some 34) u34).put (some 35) u35).put (some 7) u7) ∧ Below W9.heap.size W9 w' ∧ (d 0 = true → u32 = .agg #[.bool ga', .slice Aa' na' ca']) ∧ (d 1 = true → u33 = .slice (some ⟨gm, 0, none⟩) (n / 32 + 1) (n / 32 + 1)) ∧ (d 2 = true → IntV w' u34 (((2 ^ n : Nat) : Int))) ∧ (d 3 = true → IntV w' u35 ((r : Int) + (2 ^ n : Nat))) ∧ (d 4 = true → OwnP W9.heap.size w' u7 (d 5) ((r : Int) + (2 ^ n : Nat))) ∧ (d 5 = true → d 4 = true)) (by kernel_rfl) (by kernel_rfl) ?_ ?_ ?_ ?_
          · intro d d' h a' w' hh
            obtain rfl : d = d' := funext h
            exact hh
          · exact ⟨_, _, _, _, _, (by simp only [Act.put, List.setIfInBounds_toArray, List.set_cons_zero, List.set_cons_succ]; rfl), (Below.refl _ _).drew, (fun h => by cases h), (fun h => by cases h), (fun h => by cases h), (fun h => by cases h), (fun h => by cases h), (fun h => by cases h)⟩
          · refine ⟨?_, ?_, ?_, ?_, ?_, ?_, trivial⟩
            · intro d a2 w2 hd hm ⟨u32, u33, u34, u35, u7, e, HB, f0, f1, f2, f3, f4, t0⟩ K hK
              subst e
              simp only [Act.put, List.setIfInBounds_toArray, List.set_cons_zero, List.set_cons_succ]
              obtain ⟨q0, q1⟩ := HX.out w2 HB
              go_simp
              exact hK.out _ _ ⟨.agg #[.bool ga', .slice Aa' na' ca'], u33, u34, u35, u7, (by simp only [Act.put, List.setIfInBounds_toArray, List.set_cons_zero, List.set_cons_succ]), HB, (fun _ => rfl), (fun h => f1 (by simpa using h)), (fun h => (f2 (by simpa using h))), (fun h => (f3 (by simpa using h))), (fun h => by simpa using (f4 (by simpa using h))), (fun h => by simpa using t0 (by simpa using h))⟩
            · intro d a2 w2 hd hm ⟨u32, u33, u34, u35, u7, e, HB, f0, f1, f2, f3, f4, t0⟩ K hK
              subst e
              simp only [Act.put, List.setIfInBounds_toArray, List.set_cons_zero, List.set_cons_succ]
              go_simp
              exact hK.out _ _ ⟨u32, .slice (some ⟨gm, 0, none⟩) (n / 32 + 1) (n / 32 + 1), u34, u35, u7, (by simp only [Act.put, List.setIfInBounds_toArray, List.set_cons_zero, List.set_cons_succ]), HB, (fun h => f0 (by simpa using h)), (fun _ => rfl), (fun h => (f2 (by simpa using h))), (fun h => (f3 (by simpa using h))), (fun h => by simpa using (f4 (by simpa using h))), (fun h => by simpa using t0 (by simpa using h))⟩
            · intro d a2 w2 hd hm ⟨u32, u33, u34, u35, u7, e, HB, f0, f1, f2, f3, f4, t0⟩ K hK
              subst e
              simp only [Act.put, List.setIfInBounds_toArray, List.set_cons_zero, List.set_cons_succ]
              obtain rfl := f1 (hm ⟨1, .data⟩ (by simp) rfl)
              clear f1
              go_simp
              (with_reducible refine (HM.out _ HB).mono ?_)
              rintro e w3 ⟨gg, AA, nn, cc, rfl, hi, hb⟩
              have HB3 := HB.trans (hb.mono HB.size)
              go_wp2_with fail
              exact hK.out _ _ ⟨u32, .slice (some ⟨gm, 0, none⟩) (n / 32 + 1) (n / 32 + 1), .agg #[.bool gg, .slice AA nn cc], u35, u7, (by simp only [Act.put, List.setIfInBounds_toArray, List.set_cons_zero, List.set_cons_succ]), HB3, (fun h => f0 (by simpa using h)), (fun _ => rfl), (fun _ => ⟨_, _, _, _, rfl, hi⟩), (fun h => (f3 (by simpa using h)).below hb), (fun h => by simpa using (f4 (by simpa using h)).below hb), (fun h => by simpa using t0 (by simpa using h))⟩
            · intro d a2 w2 hd hm ⟨u32, u33, u34, u35, u7, e, HB, f0, f1, f2, f3, f4, t0⟩ K hK
              subst e
              simp only [Act.put, List.setIfInBounds_toArray, List.set_cons_zero, List.set_cons_succ]
              obtain rfl := f0 (hm ⟨0, .data⟩ (by simp) rfl)
              clear f0
              obtain ⟨G2, A2, N2, C2, rfl, I2⟩ := f2 (hm ⟨2, .data⟩ (by simp) rfl)
              go_simp
              (with_reducible refine (radd_z ga' G2 Aa' A2 na' ca' N2 C2 _ (HJ.out _ HB) I2 Sr Sp).mono ?_)
              rintro e w3 ⟨gg, AA, nn, cc, rfl, hi, hb⟩
              have HB3 := HB.trans (hb.mono HB.size)
              go_wp2_with fail
              exact hK.out _ _ ⟨.agg #[.bool ga', .slice Aa' na' ca'], u33, .agg #[.bool G2, .slice A2 N2 C2], .agg #[.bool gg, .slice AA nn cc], u7, (by simp only [Act.put, List.setIfInBounds_toArray, List.set_cons_zero, List.set_cons_succ]), HB3, (fun _ => rfl), (fun h => f1 (by simpa using h)), (fun h => (f2 (by simpa using h)).below hb), (fun _ => ⟨_, _, _, _, rfl, hi⟩), (fun h => by simpa using (f4 (by simpa using h)).below hb), (fun h => by simpa using t0 (by simpa using h))⟩
            · intro d a2 w2 hd hm ⟨u32, u33, u34, u35, u7, e, HB, f0, f1, f2, f3, f4, t0⟩ K hK
              subst e
              simp only [Act.put, List.setIfInBounds_toArray, List.set_cons_zero, List.set_cons_succ]
              have hb : Below w2.heap.size w2 (w2.alloc (.cells #[.bool false, .slice none 0 0] 28)) := (Below.refl _ _).alloc (Nat.le_refl _) _
              have HB3 := HB.trans (hb.mono HB.size)
              go_simp
              exact hK.out _ _ ⟨u32, u33, u34, u35, .pointer (some ⟨w2.heap.size, 0, none⟩), (by simp only [Act.put, List.setIfInBounds_toArray, List.set_cons_zero, List.set_cons_succ]), HB3, (fun h => f0 (by simpa using h)), (fun h => f1 (by simpa using h)), (fun h => (f2 (by simpa using h)).below hb), (fun h => (f3 (by simpa using h)).below hb), (fun _ => by have hs : d 5 = false := (by cases hq : d 5 with | false => rfl | true => (have hz := t0 hq; rw [hd] at hz; cases hz)); simpa [hs] using OwnP.new HB.size ((r : Int) + (2 ^ n : Nat))), (fun _ => by simp)⟩
            · intro d a2 w2 hd hm ⟨u32, u33, u34, u35, u7, e, HB, f0, f1, f2, f3, f4, t0⟩ K hK
              subst e
              simp only [Act.put, List.setIfInBounds_toArray, List.set_cons_zero, List.set_cons_succ]
              obtain ⟨gg, AA, nn, cc, rfl, hi⟩ := f3 (hm ⟨3, .data⟩ (by simp) rfl)
              obtain ⟨g, rfl, hg, b0, b1, hs, n0, n1, _⟩ := f4 (hm ⟨4, .data⟩ (by simp) rfl)
              obtain ⟨k0, k1, k2, k3, k4⟩ := id hs
              go_simp
              exact hK.out _ _ ⟨u32, u33, u34, .agg #[.bool gg, .slice AA nn cc], .pointer (some ⟨g, 0, none⟩), (by simp only [Act.put, List.setIfInBounds_toArray, List.set_cons_zero, List.set_cons_succ]), Below.set2 HB hg _ _, (fun h => f0 (by simpa using h)), (fun h => f1 (by simpa using h)), (fun h => (f2 (by simpa using h)).set2 hs n0 n1 _ _), (fun h => (f3 (by simpa using h)).set2 hs n0 n1 _ _), (fun _ => by simpa using OwnP.near hi hg hs n0 n1), (fun _ => by simpa using hm ⟨4, .data⟩ (by simp) rfl)⟩
          · intro d a2 w2 hall ⟨u32, u33, u34, u35, u7, e, HB, f0, f1, f2, f3, f4, t0⟩
            subst e
            simp only [Act.put, List.setIfInBounds_toArray, List.set_cons_zero, List.set_cons_succ]
            obtain rfl := f0 (hall _ (by decide))
            obtain rfl := f1 (hall _ (by decide))
            obtain ⟨g0, rfl, h0, b0⟩ := OwnP.intAtB (by have := f4 (hall _ (by decide)); rwa [hall 5 (by decide)] at this)
            go_wp2_with fail
            go_meet
            exact ⟨g0, rfl, h0, b0, HB⟩
      case rest =>
      obtain ⟨g7, rfl, Y, hg7, D⟩ := hcut
      obtain ⟨W10, rfl⟩ : ∃ x : World, x = wc := ⟨_, rfl⟩
      replace X := X.after D
      replace P0 := P0.after D
      replace R0 := R0.after D
      replace I0 := I0.below D
      replace J := J.below D
      replace B0 := B0.trans (D.mono B0.size)
      clear HM HX HJ rp D
      have hg70 : gx ≠ g7 := by omega
      obtain ⟨gn, An, nn, cn, Y, Kn⟩ := Y
      have Sn := Sz.add (Sr.mono (l := na + 2 + k) (by omega) (by omega)) (Sp.mono (l := na + 2 + k) (by omega) (by omega)) (by omega)
      have Snn := Sn.mul Sn (by omega)
      obtain ⟨t, ht⟩ : ∃ t, cmpN (((r : Int) + (2 ^ n : Nat)) * ((r : Int) + (2 ^ n : Nat))) z = t := ⟨_, rfl⟩
      have HT := Lib.hid ht
      have HS : Hid (∀ V, Below W10.heap.size W10 V → (V.cell? ⟨g7, 0, none⟩ = some (.bool gn) ∧ V.cell? ⟨g7, 1, none⟩ = some (.slice An nn cn)) ∧ (V.cell? ⟨w.heap.size, 0, none⟩ = some (.bool ga) ∧ V.cell? ⟨w.heap.size, 1, none⟩ = some (.slice Aa na ca))) := fun V hV => ⟨⟨(Y.after hV).1, (Y.after hV).2.1⟩, (P0.after hV).1, (P0.after hV).2.1⟩
      have hza : ((z.natAbs : Nat) : Int) = z := by omega
      have hsq : (((r + 2 ^ n) * (r + 2 ^ n) : Nat) : Int) = ((r : Int) + (2 ^ n : Nat)) * ((r : Int) + (2 ^ n : Nat)) := by rw [Int.natCast_mul, Int.natCast_add]
      rcases Nat.lt_or_ge z.natAbs ((r + 2 ^ n) * (r + 2 ^ n)) with hlt | hle
      · have ht2 : decide (t ≤ 0) = false := by
          rw [← ht, cmpN_gt (by omega)]; decide
        have HN := Lib.hid (And.intro hI.out.1 hlt)
        clear ht hlt hI hsq
        go_upto_region 10 with (fail)
        have Dr0 : Below W10.heap.size W10 W10.drew := (Below.refl _ _).drew
        refine wp_region_seq (.pre [(0, true), (1, true), (3, true), (2, false), (4, false), (5, true)] .done) (fun W => (W.cell? ⟨g7, 0, none⟩ = some (.bool gn) ∧ W.cell? ⟨g7, 1, none⟩ = some (.slice An nn cn)) ∧ (W.cell? ⟨w.heap.size, 0, none⟩ = some (.bool ga) ∧ W.cell? ⟨w.heap.size, 1, none⟩ = some (.slice Aa na ca))) (by kernel_rfl) (by kernel_rfl) ?_ (by kernel_rfl) (HS.out _ Dr0) ?_
        · refine chk_pre _ _ _ (by as_aux_lemma => kernel_rfl) ?_
          exact (by as_aux_lemma => kernel_rfl)
        refine seq_take _ ?_ rfl (Or.inl ⟨by rfl, ?_⟩) ?_
        rotate_left
        · (intro w hSw; (try dsimp only at hSw); go_simp; (try with_reducible rfl))
        try simp only [Act.put, List.setIfInBounds_toArray, List.set_cons_zero, List.set_cons_succ]
        refine seq_take _ ?_ rfl (Or.inl ⟨by rfl, ?_⟩) ?_
        rotate_left
        · (intro w hSw; (try dsimp only at hSw); go_simp; (try with_reducible rfl))
        try simp only [Act.put, List.setIfInBounds_toArray, List.set_cons_zero, List.set_cons_succ]
        refine seq_take _ ?_ rfl (Or.inl ⟨by rfl, ?_⟩) ?_
        rotate_left
        · (intro w hSw; (try dsimp only at hSw); go_simp; (try with_reducible rfl))
        try simp only [Act.put, List.setIfInBounds_toArray, List.set_cons_zero, List.set_cons_succ]
        refine seq_one _ rfl fun K hK => ?_
        go_simp
        (with_reducible refine (rmul_z gn gn An An nn cn nn cn _ (Kn.below Dr0) (Kn.below Dr0) Sn Sn).mono ?_)
        rintro e vr1 ⟨gr1, Ar1, nr1, cr1, rfl, ir1, br1⟩
        have Dr1 : Below W10.heap.size W10 vr1 := Below.trans Dr0 (br1.mono (Below.size Dr0))
        go_wp2_with fail
        refine hK.out _ _ (HS.out _ Dr1) (fun hHeld => ?_)
        clear hK K hHeld
        try simp only [Act.put, List.setIfInBounds_toArray, List.set_cons_zero, List.set_cons_succ]
        refine seq_one _ rfl fun K hK => ?_
        go_simp
        (with_reducible refine (rcmp_z gr1 ga Ar1 Aa nr1 cr1 na ca _ t ir1 (I0.below Dr1) Snn sa HT.out).mono ?_)
        rintro e vr2 ⟨rfl, br2⟩
        have Dr2 : Below W10.heap.size W10 vr2 := Below.trans Dr1 (br2.mono (Below.size Dr1))
        go_wp2_with fail
        refine hK.out _ _ (HS.out _ Dr2) (fun hHeld => ?_)
        clear hK K hHeld
        try simp only [Act.put, List.setIfInBounds_toArray, List.set_cons_zero, List.set_cons_succ]
        refine seq_take _ ?_ rfl (Or.inl ⟨by rfl, ?_⟩) ?_
        rotate_left
        · (intro w hSw; (try dsimp only at hSw); go_simp; (try with_reducible rfl))
        try simp only [Act.put, List.setIfInBounds_toArray, List.set_cons_zero, List.set_cons_succ]
        refine NoPanic.normal ?_
        replace X := X.after Dr2
        replace Y := Y.after Dr2
        replace P0 := P0.after Dr2
        replace R0 := R0.after Dr2
        replace I0 := I0.below Dr2
        replace J := J.below Dr2
        replace Kn := Kn.below Dr2
        replace B0 := B0.trans (Dr2.mono B0.size)
        clear Dr0 Dr1 Dr2 br1 br2 ir1 HS
        go_wp2_with fail
        go_roundw
        case rel => exact ⟨n, r, rfl, by omega, ⟨_, _, _, _, X, J⟩, P0, R0, I0, B0, HN.out⟩
        case measure => simp [intOf]
      · have ht2 : decide (t ≤ 0) = true := by
          rw [← ht]
          rcases Nat.lt_or_eq_of_le hle with h | h
          · rw [cmpN_lt (by omega)]; decide
          · rw [show ((r : Int) + (2 ^ n : Nat)) * ((r : Int) + (2 ^ n : Nat)) = z by omega, cmpN_eq]; decide
        have HN := Lib.hid (And.intro hle (root_step hI.out.2))
        clear ht hle hI hsq
        go_upto_region 10 with (fail)
        have Dr0 : Below W10.heap.size W10 W10.drew := (Below.refl _ _).drew
        refine wp_region_seq (.pre [(0, true), (1, true), (3, true), (2, false), (4, false), (5, true)] .done) (fun W => (W.cell? ⟨g7, 0, none⟩ = some (.bool gn) ∧ W.cell? ⟨g7, 1, none⟩ = some (.slice An nn cn)) ∧ (W.cell? ⟨w.heap.size, 0, none⟩ = some (.bool ga) ∧ W.cell? ⟨w.heap.size, 1, none⟩ = some (.slice Aa na ca))) (by kernel_rfl) (by kernel_rfl) ?_ (by kernel_rfl) (HS.out _ Dr0) ?_
        · refine chk_pre _ _ _ (by as_aux_lemma => kernel_rfl) ?_
          exact (by as_aux_lemma => kernel_rfl)
        refine seq_take _ ?_ rfl (Or.inl ⟨by rfl, ?_⟩) ?_
        rotate_left
        · (intro w hSw; (try dsimp only at hSw); go_simp; (try with_reducible rfl))
        try simp only [Act.put, List.setIfInBounds_toArray, List.set_cons_zero, List.set_cons_succ]
        refine seq_take _ ?_ rfl (Or.inl ⟨by rfl, ?_⟩) ?_
        rotate_left
        · (intro w hSw; (try dsimp only at hSw); go_simp; (try with_reducible rfl))
        try simp only [Act.put, List.setIfInBounds_toArray, List.set_cons_zero, List.set_cons_succ]
        refine seq_take _ ?_ rfl (Or.inl ⟨by rfl, ?_⟩) ?_
        rotate_left
        · (intro w hSw; (try dsimp only at hSw); go_simp; (try with_reducible rfl))
        try simp only [Act.put, List.setIfInBounds_toArray, List.set_cons_zero, List.set_cons_succ]
        refine seq_one _ rfl fun K hK => ?_
        go_simp
        (with_reducible refine (rmul_z gn gn An An nn cn nn cn _ (Kn.below Dr0) (Kn.below Dr0) Sn Sn).mono ?_)
        rintro e vr1 ⟨gr1, Ar1, nr1, cr1, rfl, ir1, br1⟩
        have Dr1 : Below W10.heap.size W10 vr1 := Below.trans Dr0 (br1.mono (Below.size Dr0))
        go_wp2_with fail
        refine hK.out _ _ (HS.out _ Dr1) (fun hHeld => ?_)
        clear hK K hHeld
        try simp only [Act.put, List.setIfInBounds_toArray, List.set_cons_zero, List.set_cons_succ]
        refine seq_one _ rfl fun K hK => ?_
        go_simp
        (with_reducible refine (rcmp_z gr1 ga Ar1 Aa nr1 cr1 na ca _ t ir1 (I0.below Dr1) Snn sa HT.out).mono ?_)
        rintro e vr2 ⟨rfl, br2⟩
        have Dr2 : Below W10.heap.size W10 vr2 := Below.trans Dr1 (br2.mono (Below.size Dr1))
        go_wp2_with fail
        refine hK.out _ _ (HS.out _ Dr2) (fun hHeld => ?_)
        clear hK K hHeld
        try simp only [Act.put, List.setIfInBounds_toArray, List.set_cons_zero, List.set_cons_succ]
        refine seq_take _ ?_ rfl (Or.inl ⟨by rfl, ?_⟩) ?_
        rotate_left
        · (intro w hSw; (try dsimp only at hSw); go_simp; (try with_reducible rfl))
        try simp only [Act.put, List.setIfInBounds_toArray, List.set_cons_zero, List.set_cons_succ]
        refine NoPanic.normal ?_
        replace X := X.after Dr2
        replace Y := Y.after Dr2
        replace P0 := P0.after Dr2
        replace R0 := R0.after Dr2
        replace I0 := I0.below Dr2
        replace J := J.below Dr2
        replace Kn := Kn.below Dr2
        replace B0 := B0.trans (Dr2.mono B0.size)
        clear Dr0 Dr1 Dr2 br1 br2 ir1 HS
        have ⟨y0, y1, _, _, _⟩ := Y
        have ⟨x0, x1, x2, x3, _⟩ := X
        have X5 := IntAt.near2 Kn X rfl rfl
        have P5 := P0.far2 (g' := gx) (by omega) (.bool gn) (.slice An nn cn)
        have R5 := R0.far2 (g' := gx) (by omega) (.bool gn) (.slice An nn cn)
        have I5 := I0.set2 X rfl rfl (.bool gn) (.slice An nn cn)
        have B5 := Below.set2 B0 (show w.heap.size ≤ gx by omega) (.bool gn) (.slice An nn cn)
        go_wp2_with fail
        go_roundw
        case rel => exact ⟨n, r + 2 ^ n, rfl, by omega, by rw [Int.natCast_add]; exact X5, P5, R5, I5, B5, HN.out⟩
        case measure => simp [intOf]
end Go.Proofs.YtclmenpclkmfeaaDoor
