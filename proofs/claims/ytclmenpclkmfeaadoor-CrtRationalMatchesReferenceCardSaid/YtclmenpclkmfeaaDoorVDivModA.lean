/- Contract of integer.DivMod, one sign and one kind of remainder each. -/
import Derived.Test.YtclmenpclkmfeaaDoorVG10DivMod
namespace Go.Proofs.YtclmenpclkmfeaaDoor
open Go.RowKit
set_option maxHeartbeats 2000000 in
theorem dm_false_false_0 (A A' : Option Addr) (n c m d : Nat) (a b q r : Int) (w : World) (ha : IsInt w false A n c a) (hb : IsInt w false A' m d b) (hb0 : b ≠ 0) (hq : q = a / b) (hr : r = a % b) (hm : m ≤ 1000000)
    (HD : ∀ W, Below w.heap.size w W → Calls Tryd.prog 79 #[.slice A n n, .slice A' m m] W (DivRes W (a.natAbs / b.natAbs) (a.natAbs % b.natAbs))) :
    Calls Tryd.prog 57 #[.agg #[.bool false, .slice A n c], .agg #[.bool false, .slice A' m d]] w (RetDM w q r) := by
  have T1 := fun W hW => tidy_z false A n c a w W ha hW
  have T2 := fun W hW => tidy_z false A' m d b w W hb hW
  have hm0 : ¬ m = 0 := by rw [len_of hb]; exact hb0
  have b1 : ((m : Int) == 0) = false := by simp; omega
  have hB0 : 0 < b.natAbs := by omega
  have hRB := Nat.mod_lt a.natAbs hB0
  have hM := dm_a a b hb0 (by have := of_decide_eq_false ha.sign.symm; omega)
  have hsb : decide (b < 0) = false := hb.sign.symm
  have HMQ : Hid (zOf false (a.natAbs / b.natAbs) = q) := by rw [hq, hM.1, hsb]; rfl
  have HMR : Hid (((a.natAbs % b.natAbs : Nat) : Int) = r) := by rw [hr, hM.2]; exact rfl
  clear hM hsb hq hr
  have hbl := hb.lim.tight
  have T1' := Lib.hid T1
  have T2' := Lib.hid T2
  have HD' := Lib.hid HD
  clear T1 T2 HD
  generalize a.natAbs / b.natAbs = Q at *
  generalize a.natAbs % b.natAbs = R at *
  obtain ⟨HB, P0, Q0, R0, S0⟩ := frame22 w (.bool false) (.slice A n c) (.bool false) (.slice A' m d)
  go_enter Tryd.func57, Tryd.ntmps57
  go_upto_region 1 with (fail)
  go_cut [] (fun wx => Tid w wx (.bool false) (.slice A n n) (.bool false) (.slice A' m m))
  case first =>
    go_region_with (first | (go_at_call 70; (with_reducible refine (T1'.out _ ?_).mono ?_); (first | exact HB | exact HB.drew | exact Below.drewN' HB _); rintro e w1 ⟨rfl, hb1⟩; have B1 := Below.trans (by first | exact HB | exact HB.drew | exact Below.drewN' HB _) (hb1.mono HB.size); have P1 := Slot2.after (by first | exact P0 | exact P0.drew | exact P0.drewN _) hb1; have Q1 := Slot2.after (by first | exact Q0 | exact Q0.drew | exact Q0.drewN _) hb1; have R1 := Slot2.after (by first | exact R0 | exact R0.drew | exact R0.drewN _) hb1; have S1 := Slot2.after (by first | exact S0 | exact S0.drew | exact S0.drewN _) hb1; obtain ⟨q0, q1, _, _, _⟩ := Slot2.after (by first | exact Q0 | exact Q0.drew | exact Q0.drewN _) hb1) | (go_at_call 70; (with_reducible refine (T2'.out _ ?_).mono ?_); exact B1; rintro e w2 ⟨rfl, hb2⟩; have B2 := B1.trans (hb2.mono B1.size); obtain ⟨p0, p1, p2, p3, p4⟩ := P1.after hb2; obtain ⟨r0, r1, r2, r3, r4⟩ := Q1.after hb2; have R2 := R1.after hb2; have S2 := S1.after hb2))
    all_goals (
      go_wp2_with fail
      go_meet
      have P3 := (Slot2.set2 ⟨p0, p1, p2, p3, p4⟩ (.bool false) (.slice A n n)).far2 (g' := w.heap.size + 1) (by omega) (.bool false) (.slice A' m m)
      have Q3 := (Slot2.far2 ⟨r0, r1, r2, r3, r4⟩ (g' := w.heap.size) (by omega) (.bool false) (.slice A n n)).set2 (.bool false) (.slice A' m m)
      have R3 := (R2.far2 (g' := w.heap.size) (by omega) (.bool false) (.slice A n n)).far2 (g' := w.heap.size + 1) (by omega) (.bool false) (.slice A' m m)
      have S3 := (S2.far2 (g' := w.heap.size) (by omega) (.bool false) (.slice A n n)).far2 (g' := w.heap.size + 1) (by omega) (.bool false) (.slice A' m m)
      have B3 := (((B2.setCell (p := ⟨w.heap.size, 0, none⟩) (by simp) (.bool false)).setCell (p := ⟨w.heap.size, 1, none⟩) (by simp) (.slice A n n)).setCell (p := ⟨w.heap.size + 1, 0, none⟩) (by simp) (.bool false)).setCell (p := ⟨w.heap.size + 1, 1, none⟩) (by simp) (.slice A' m m)
      exact ⟨B3, P3, Q3, R3, S3⟩)
  case rest =>
    obtain ⟨B3, P3, Q3, R3, S3⟩ := hcut
    have ⟨p0, p1, p2, p3, p4⟩ := P3
    have ⟨q0, q1, q2, q3, q4⟩ := Q3
    go_wp2_with fail
    refine (HD'.out _ B3).mono ?_
    rintro e w4 ⟨A1, n1, c1, xs, A2, n2, c2, ys, rfl, hl1, hl2, hv1, hv2, hn1, hb4⟩
    have B4 := B3.trans (hb4.mono B3.size)
    have P4 := P3.after hb4
    have Q4 := Q3.after hb4
    have R4 := R3.after hb4
    have S4 := S3.after hb4
    have V1 := Lib.hid hv1
    have V2 := Lib.hid hv2
    clear hv1 hv2 p0 p1 p2 p3 p4 q0 q1 q2 q3 q4
    have ⟨p0, p1, p2, p3, p4⟩ := P4
    have ⟨q0, q1, q2, q3, q4⟩ := Q4
    obtain ⟨k, hk⟩ : ∃ k, k = (digs R).length := ⟨_, rfl⟩
    have HT := Lib.hid (trim_val A2 n2 c2 _ R k ys w4 hl2 V2.out hk)
    have hl2' := hl2.trimv V2.out hk
    clear hk
    go_wp2_with fail
    refine HT.out.mono ?_
    rintro e w5 ⟨rfl, rfl⟩
    have HU := fun W (h : Lim W W.heap.size A1 n1 c1 xs) => build_val false A1 n1 c1 Q q xs W h V1.out HMQ.out
    have HV := fun W (h : Lim W W.heap.size A2 k k (digs R)) => build_val false A2 k k R r (digs R) W h (val_digs _) HMR.out
    have HU' := Lib.hid HU
    have HV' := Lib.hid HV
    clear HU HV
    go_wp2_with fail
    refine (HU'.out _ hl1).mono ?_
    rintro e w7 ⟨g7, A7, n7, c7, rfl, hi7, hb7⟩
    have hl8 := (hl2'.below hb7).more hb7.size
    have R7 := R4.after hb7
    have S7 := S4.after hb7
    clear p0 p1 p2 p3 p4 q0 q1 q2 q3 q4
    go_wp2_with fail
    refine (HV'.out _ hl8).mono ?_
    rintro e w8 ⟨g8, A8, n8, c8, rfl, hi8, hb8⟩
    have R8 := R7.after hb8
    have S8 := S7.after hb8
    have hfin := RetDM.stored hi7 hi8 hb8 B4 hb7 (by omega) R8 S8
    have ⟨k0, k1, k2, k3, k4⟩ := R8
    have ⟨l0, l1, l2, l3, l4⟩ := S8
    go_wp2
    exact bodyPost_ret (v := .tuple #[.agg #[.bool g7, .slice A7 n7 c7], .agg #[.bool g8, .slice A8 n8 c8], .int .i64 0]) (by simp [results, Tryd.results57, go_sem, k0, k1, l0, l1]) rfl hfin
set_option maxHeartbeats 2000000 in
theorem dm_false_true_0 (A A' : Option Addr) (n c m d : Nat) (a b q r : Int) (w : World) (ha : IsInt w false A n c a) (hb : IsInt w true A' m d b) (hb0 : b ≠ 0) (hq : q = a / b) (hr : r = a % b) (hm : m ≤ 1000000)
    (HD : ∀ W, Below w.heap.size w W → Calls Tryd.prog 79 #[.slice A n n, .slice A' m m] W (DivRes W (a.natAbs / b.natAbs) (a.natAbs % b.natAbs))) :
    Calls Tryd.prog 57 #[.agg #[.bool false, .slice A n c], .agg #[.bool true, .slice A' m d]] w (RetDM w q r) := by
  have T1 := fun W hW => tidy_z false A n c a w W ha hW
  have T2 := fun W hW => tidy_z true A' m d b w W hb hW
  have hm0 : ¬ m = 0 := by rw [len_of hb]; exact hb0
  have b1 : ((m : Int) == 0) = false := by simp; omega
  have hB0 : 0 < b.natAbs := by omega
  have hRB := Nat.mod_lt a.natAbs hB0
  have hM := dm_a a b hb0 (by have := of_decide_eq_false ha.sign.symm; omega)
  have hsb : decide (b < 0) = true := hb.sign.symm
  have HMQ : Hid (zOf true (a.natAbs / b.natAbs) = q) := by rw [hq, hM.1, hsb]; rfl
  have HMR : Hid (((a.natAbs % b.natAbs : Nat) : Int) = r) := by rw [hr, hM.2]; exact rfl
  clear hM hsb hq hr
  have hbl := hb.lim.tight
  have T1' := Lib.hid T1
  have T2' := Lib.hid T2
  have HD' := Lib.hid HD
  clear T1 T2 HD
  generalize a.natAbs / b.natAbs = Q at *
  generalize a.natAbs % b.natAbs = R at *
  obtain ⟨HB, P0, Q0, R0, S0⟩ := frame22 w (.bool false) (.slice A n c) (.bool true) (.slice A' m d)
  go_enter Tryd.func57, Tryd.ntmps57
  go_upto_region 1 with (fail)
  go_cut [] (fun wx => Tid w wx (.bool false) (.slice A n n) (.bool true) (.slice A' m m))
  case first =>
    go_region_with (first | (go_at_call 70; (with_reducible refine (T1'.out _ ?_).mono ?_); (first | exact HB | exact HB.drew | exact Below.drewN' HB _); rintro e w1 ⟨rfl, hb1⟩; have B1 := Below.trans (by first | exact HB | exact HB.drew | exact Below.drewN' HB _) (hb1.mono HB.size); have P1 := Slot2.after (by first | exact P0 | exact P0.drew | exact P0.drewN _) hb1; have Q1 := Slot2.after (by first | exact Q0 | exact Q0.drew | exact Q0.drewN _) hb1; have R1 := Slot2.after (by first | exact R0 | exact R0.drew | exact R0.drewN _) hb1; have S1 := Slot2.after (by first | exact S0 | exact S0.drew | exact S0.drewN _) hb1; obtain ⟨q0, q1, _, _, _⟩ := Slot2.after (by first | exact Q0 | exact Q0.drew | exact Q0.drewN _) hb1) | (go_at_call 70; (with_reducible refine (T2'.out _ ?_).mono ?_); exact B1; rintro e w2 ⟨rfl, hb2⟩; have B2 := B1.trans (hb2.mono B1.size); obtain ⟨p0, p1, p2, p3, p4⟩ := P1.after hb2; obtain ⟨r0, r1, r2, r3, r4⟩ := Q1.after hb2; have R2 := R1.after hb2; have S2 := S1.after hb2))
    all_goals (
      go_wp2_with fail
      go_meet
      have P3 := (Slot2.set2 ⟨p0, p1, p2, p3, p4⟩ (.bool false) (.slice A n n)).far2 (g' := w.heap.size + 1) (by omega) (.bool true) (.slice A' m m)
      have Q3 := (Slot2.far2 ⟨r0, r1, r2, r3, r4⟩ (g' := w.heap.size) (by omega) (.bool false) (.slice A n n)).set2 (.bool true) (.slice A' m m)
      have R3 := (R2.far2 (g' := w.heap.size) (by omega) (.bool false) (.slice A n n)).far2 (g' := w.heap.size + 1) (by omega) (.bool true) (.slice A' m m)
      have S3 := (S2.far2 (g' := w.heap.size) (by omega) (.bool false) (.slice A n n)).far2 (g' := w.heap.size + 1) (by omega) (.bool true) (.slice A' m m)
      have B3 := (((B2.setCell (p := ⟨w.heap.size, 0, none⟩) (by simp) (.bool false)).setCell (p := ⟨w.heap.size, 1, none⟩) (by simp) (.slice A n n)).setCell (p := ⟨w.heap.size + 1, 0, none⟩) (by simp) (.bool true)).setCell (p := ⟨w.heap.size + 1, 1, none⟩) (by simp) (.slice A' m m)
      exact ⟨B3, P3, Q3, R3, S3⟩)
  case rest =>
    obtain ⟨B3, P3, Q3, R3, S3⟩ := hcut
    have ⟨p0, p1, p2, p3, p4⟩ := P3
    have ⟨q0, q1, q2, q3, q4⟩ := Q3
    go_wp2_with fail
    refine (HD'.out _ B3).mono ?_
    rintro e w4 ⟨A1, n1, c1, xs, A2, n2, c2, ys, rfl, hl1, hl2, hv1, hv2, hn1, hb4⟩
    have B4 := B3.trans (hb4.mono B3.size)
    have P4 := P3.after hb4
    have Q4 := Q3.after hb4
    have R4 := R3.after hb4
    have S4 := S3.after hb4
    have V1 := Lib.hid hv1
    have V2 := Lib.hid hv2
    clear hv1 hv2 p0 p1 p2 p3 p4 q0 q1 q2 q3 q4
    have ⟨p0, p1, p2, p3, p4⟩ := P4
    have ⟨q0, q1, q2, q3, q4⟩ := Q4
    obtain ⟨k, hk⟩ : ∃ k, k = (digs R).length := ⟨_, rfl⟩
    have HT := Lib.hid (trim_val A2 n2 c2 _ R k ys w4 hl2 V2.out hk)
    have hl2' := hl2.trimv V2.out hk
    clear hk
    go_wp2_with fail
    refine HT.out.mono ?_
    rintro e w5 ⟨rfl, rfl⟩
    have HU := fun W (h : Lim W W.heap.size A1 n1 c1 xs) => build_val true A1 n1 c1 Q q xs W h V1.out HMQ.out
    have HV := fun W (h : Lim W W.heap.size A2 k k (digs R)) => build_val false A2 k k R r (digs R) W h (val_digs _) HMR.out
    have HU' := Lib.hid HU
    have HV' := Lib.hid HV
    clear HU HV
    go_wp2_with fail
    refine (HU'.out _ hl1).mono ?_
    rintro e w7 ⟨g7, A7, n7, c7, rfl, hi7, hb7⟩
    have hl8 := (hl2'.below hb7).more hb7.size
    have R7 := R4.after hb7
    have S7 := S4.after hb7
    clear p0 p1 p2 p3 p4 q0 q1 q2 q3 q4
    go_wp2_with fail
    refine (HV'.out _ hl8).mono ?_
    rintro e w8 ⟨g8, A8, n8, c8, rfl, hi8, hb8⟩
    have R8 := R7.after hb8
    have S8 := S7.after hb8
    have hfin := RetDM.stored hi7 hi8 hb8 B4 hb7 (by omega) R8 S8
    have ⟨k0, k1, k2, k3, k4⟩ := R8
    have ⟨l0, l1, l2, l3, l4⟩ := S8
    go_wp2
    exact bodyPost_ret (v := .tuple #[.agg #[.bool g7, .slice A7 n7 c7], .agg #[.bool g8, .slice A8 n8 c8], .int .i64 0]) (by simp [results, Tryd.results57, go_sem, k0, k1, l0, l1]) rfl hfin
end Go.Proofs.YtclmenpclkmfeaaDoor
