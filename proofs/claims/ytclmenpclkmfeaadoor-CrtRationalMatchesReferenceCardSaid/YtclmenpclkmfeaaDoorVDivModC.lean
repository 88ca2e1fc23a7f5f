/- Contract of integer.DivMod, one sign and one kind of remainder each. -/
import Derived.Test.YtclmenpclkmfeaaDoorVG10DivMod
namespace Go.Proofs.YtclmenpclkmfeaaDoor
open Go.RowKit
set_option maxHeartbeats 2000000 in
theorem dm_true_false_p (A A' : Option Addr) (n c m d : Nat) (a b q r : Int) (w : World) (ha : IsInt w true A n c a) (hb : IsInt w false A' m d b) (hb0 : b ≠ 0) (hq : q = a / b) (hr : r = a % b) (hm : m ≤ 1000000) (hR : 0 < a.natAbs % b.natAbs)
    (HD : ∀ W, Below w.heap.size w W → Calls Tryd.prog 79 #[.slice A n n, .slice A' m m] W (DivRes W (a.natAbs / b.natAbs) (a.natAbs % b.natAbs))) :
    Calls Tryd.prog 57 #[.agg #[.bool true, .slice A n c], .agg #[.bool false, .slice A' m d]] w (RetDM w q r) := by
  have T1 := fun W hW => tidy_z true A n c a w W ha hW
  have T2 := fun W hW => tidy_z false A' m d b w W hb hW
  have hm0 : ¬ m = 0 := by rw [len_of hb]; exact hb0
  have b1 : ((m : Int) == 0) = false := by simp; omega
  have hB0 : 0 < b.natAbs := by omega
  have hRB := Nat.mod_lt a.natAbs hB0
  have hM := dm_c a b hb0 (of_decide_eq_true ha.sign.symm) hR
  have hsb : decide (b < 0) = false := hb.sign.symm
  have HMQ : Hid (zOf true (a.natAbs / b.natAbs + 1) = q) := by rw [hq, hM.1, hsb]; rfl
  have HMR : Hid (((b.natAbs - a.natAbs % b.natAbs : Nat) : Int) = r) := by rw [hr, hM.2]; exact rfl
  clear hM hsb hq hr
  have hbl := hb.lim.tight
  have T1' := Lib.hid T1
  have T2' := Lib.hid T2
  have HD' := Lib.hid HD
  clear T1 T2 HD
  generalize a.natAbs / b.natAbs = Q at *
  generalize a.natAbs % b.natAbs = R at *
  obtain ⟨HB, P0, Q0, R0, S0⟩ := frame22 w (.bool true) (.slice A n c) (.bool false) (.slice A' m d)
  go_enter Tryd.func57, Tryd.ntmps57
  go_upto_region 1 with (fail)
  go_cut [] (fun wx => Tid w wx (.bool true) (.slice A n n) (.bool false) (.slice A' m m))
  case first =>
    go_region_with (first | (go_at_call 70; (with_reducible refine (T1'.out _ ?_).mono ?_); (first | exact HB | exact HB.drew | exact Below.drewN' HB _); rintro e w1 ⟨rfl, hb1⟩; have B1 := Below.trans (by first | exact HB | exact HB.drew | exact Below.drewN' HB _) (hb1.mono HB.size); have P1 := Slot2.after (by first | exact P0 | exact P0.drew | exact P0.drewN _) hb1; have Q1 := Slot2.after (by first | exact Q0 | exact Q0.drew | exact Q0.drewN _) hb1; have R1 := Slot2.after (by first | exact R0 | exact R0.drew | exact R0.drewN _) hb1; have S1 := Slot2.after (by first | exact S0 | exact S0.drew | exact S0.drewN _) hb1; obtain ⟨q0, q1, _, _, _⟩ := Slot2.after (by first | exact Q0 | exact Q0.drew | exact Q0.drewN _) hb1) | (go_at_call 70; (with_reducible refine (T2'.out _ ?_).mono ?_); exact B1; rintro e w2 ⟨rfl, hb2⟩; have B2 := B1.trans (hb2.mono B1.size); obtain ⟨p0, p1, p2, p3, p4⟩ := P1.after hb2; obtain ⟨r0, r1, r2, r3, r4⟩ := Q1.after hb2; have R2 := R1.after hb2; have S2 := S1.after hb2))
    all_goals (
      go_wp2_with fail
      go_meet
      have P3 := (Slot2.set2 ⟨p0, p1, p2, p3, p4⟩ (.bool true) (.slice A n n)).far2 (g' := w.heap.size + 1) (by omega) (.bool false) (.slice A' m m)
      have Q3 := (Slot2.far2 ⟨r0, r1, r2, r3, r4⟩ (g' := w.heap.size) (by omega) (.bool true) (.slice A n n)).set2 (.bool false) (.slice A' m m)
      have R3 := (R2.far2 (g' := w.heap.size) (by omega) (.bool true) (.slice A n n)).far2 (g' := w.heap.size + 1) (by omega) (.bool false) (.slice A' m m)
      have S3 := (S2.far2 (g' := w.heap.size) (by omega) (.bool true) (.slice A n n)).far2 (g' := w.heap.size + 1) (by omega) (.bool false) (.slice A' m m)
      have B3 := (((B2.setCell (p := ⟨w.heap.size, 0, none⟩) (by simp) (.bool true)).setCell (p := ⟨w.heap.size, 1, none⟩) (by simp) (.slice A n n)).setCell (p := ⟨w.heap.size + 1, 0, none⟩) (by simp) (.bool false)).setCell (p := ⟨w.heap.size + 1, 1, none⟩) (by simp) (.slice A' m m)
      exact ⟨B3, P3, Q3, R3, S3⟩)
  case rest =>
    obtain ⟨B3, P3, Q3, R3, S3⟩ := hcut
    have ⟨p0, p1, p2, p3, p4⟩ := P3
    have ⟨q0, q1, q2, q3, q4⟩ := Q3
    go_wp2_with fail
    refine (HD'.out _ B3).mono ?_
    rintro e w4 ⟨A1, n1, c1, xs, A2, n2, c2, ys, rfl, hl1, hl2, hv1, hv2, hn1, hb4⟩
    have B4 := B3.trans (hb4.mono B3.size)
    have P4 := P3.after hb4
    have Q4 := Q3.after hb4
    have R4 := R3.after hb4
    have S4 := S3.after hb4
    have V1 := Lib.hid hv1
    have V2 := Lib.hid hv2
    clear hv1 hv2 p0 p1 p2 p3 p4 q0 q1 q2 q3 q4
    have ⟨p0, p1, p2, p3, p4⟩ := P4
    have ⟨q0, q1, q2, q3, q4⟩ := Q4
    obtain ⟨k, hk⟩ : ∃ k, k = (digs R).length := ⟨_, rfl⟩
    have HT := Lib.hid (trim_val A2 n2 c2 _ R k ys w4 hl2 V2.out hk)
    have hl2' := hl2.trimv V2.out hk
    have hk0 : 0 < k := by rw [hk]; exact digs_len_pos hR
    have hkm : k ≤ m := by rw [hk, ← hb.lim.len]; exact digs_len_mono (Nat.le_of_lt hRB)
    clear hk
    go_wp2_with fail
    refine HT.out.mono ?_
    rintro e w5 ⟨rfl, rfl⟩
    have hl1t := hl1.trimv V1.out rfl
    obtain ⟨k1, hk1⟩ : ∃ k1, k1 = (digs Q).length := ⟨_, rfl⟩
    have HT1 := Lib.hid (trim_val A1 n1 c1 _ Q k1 xs w4 hl1 V1.out hk1)
    rw [← hk1] at hl1t
    have hk1n : k1 ≤ n1 := by have h := digs_len_val hl1.lt; rw [V1.out, ← hk1, hl1.len] at h; exact h
    clear hk1
    go_wp2_with fail
    refine HT1.out.mono ?_
    rintro e w5 ⟨rfl, rfl⟩
    go_wp2_with fail
    have hone := (row_new w4 [1] #[.int .u32 1] rfl).len_lim (fun z hz => by simp at hz; omega) 1 rfl (by omega)
    refine (sum_any A1 (some ⟨w4.heap.size, 0, none⟩) k1 k1 1 1 _ _ (digs Q) [1] _ (hl1t.alloc (Nat.le_refl _) _) hone (by simp) (Nat.le_refl _) (by omega) (by omega)).mono ?_
    rintro e w5 ⟨zs, ⟨A5, n5, c5, rfl, hl5, hb5⟩, hv5, hn5⟩
    have V5 := Lib.hid hv5
    have B4' := B4.alloc B4.size (.cells #[.int .u32 1] 69)
    have B5 := B4'.trans (hb5.mono B4'.size)
    have P5 := (P4.alloc (.cells #[.int .u32 1] 69)).after hb5
    have Q5 := (Q4.alloc (.cells #[.int .u32 1] 69)).after hb5
    have R5 := (R4.alloc (.cells #[.int .u32 1] 69)).after hb5
    have S5 := (S4.alloc (.cells #[.int .u32 1] 69)).after hb5
    have hl2'' := ((hl2'.alloc (Nat.le_refl _) (.cells #[.int .u32 1] 69)).more (B' := (w4.alloc (.cells #[.int .u32 1] 69)).heap.size) (by simp)).below hb5
    clear hv5 hn5 p0 p1 p2 p3 p4 q0 q1 q2 q3 q4
    have ⟨p0, p1, p2, p3, p4⟩ := P5
    have ⟨q0, q1, q2, q3, q4⟩ := Q5
    go_wp2_with fail
    refine (diff_any A' A2 m m k k _ _ (digs b.natAbs) (digs R) _ (hbl.below B5) hl2'' B5.size hb5.size hm hkm (by rw [val_digs, val_digs]; omega)).mono ?_
    rintro e w6 ⟨us, ⟨A6, n6, c6, rfl, hl6, hb6⟩, hv6, hn6⟩
    have V6 := Lib.hid hv6
    have B6 := B5.trans (hb6.mono B5.size)
    have P6 := P5.after hb6
    have Q6 := Q5.after hb6
    have R6 := R5.after hb6
    have S6 := S5.after hb6
    clear hv6 hn6 p0 p1 p2 p3 p4 q0 q1 q2 q3 q4
    have ⟨p0, p1, p2, p3, p4⟩ := P6
    have ⟨q0, q1, q2, q3, q4⟩ := Q6
    have hl5' := (hl5.below hb6).more hb6.size
    have HU := fun W (h : Lim W W.heap.size A5 n5 c5 zs) => build_val true A5 n5 c5 (Q + 1) q zs W h (by rw [V5.out, val_digs]; simp [val]) HMQ.out
    have HV := fun W (h : Lim W W.heap.size A6 n6 c6 us) => build_val false A6 n6 c6 (b.natAbs - R) r us W h (by rw [V6.out, val_digs, val_digs]) HMR.out
    have HU' := Lib.hid HU
    have HV' := Lib.hid HV
    clear HU HV
    go_wp2_with fail
    refine (HU'.out _ hl5').mono ?_
    rintro e w7 ⟨g7, A7, n7, c7, rfl, hi7, hb7⟩
    have hl8 := (hl6.below hb7).more hb7.size
    have R7 := R6.after hb7
    have S7 := S6.after hb7
    clear p0 p1 p2 p3 p4 q0 q1 q2 q3 q4
    go_wp2_with fail
    refine (HV'.out _ hl8).mono ?_
    rintro e w8 ⟨g8, A8, n8, c8, rfl, hi8, hb8⟩
    have R8 := R7.after hb8
    have S8 := S7.after hb8
    have hfin := RetDM.stored hi7 hi8 hb8 B6 hb7 (by omega) R8 S8
    have ⟨k0, k1, k2, k3, k4⟩ := R8
    have ⟨l0, l1, l2, l3, l4⟩ := S8
    go_wp2
    exact bodyPost_ret (v := .tuple #[.agg #[.bool g7, .slice A7 n7 c7], .agg #[.bool g8, .slice A8 n8 c8], .int .i64 0]) (by simp [results, Tryd.results57, go_sem, k0, k1, l0, l1]) rfl hfin
end Go.Proofs.YtclmenpclkmfeaaDoor
