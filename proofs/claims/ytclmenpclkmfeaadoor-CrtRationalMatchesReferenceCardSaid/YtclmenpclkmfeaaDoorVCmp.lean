/- Contract of integer.Cmp. -/
import Derived.Test.YtclmenpclkmfeaaDoorVAddA
import Derived.Test.YtclmenpclkmfeaaDoorVAdd
namespace Go.Proofs.YtclmenpclkmfeaaDoor
open Go.RowKit
theorem frame20 (w : World) (a0 a1 b0 b1 : Value) : Below w.heap.size w ((w.alloc (.cells #[a0, a1] 28)).alloc (.cells #[b0, b1] 28)) ∧
    Slot2 ((w.alloc (.cells #[a0, a1] 28)).alloc (.cells #[b0, b1] 28)) w.heap.size a0 a1 ∧
    Slot2 ((w.alloc (.cells #[a0, a1] 28)).alloc (.cells #[b0, b1] 28)) (w.heap.size + 1) b0 b1 := by
  refine ⟨((Below.refl _ _).alloc (Nat.le_refl _) _).alloc (by simp) _, (Slot2.new w a0 a1 _).alloc _, ?_⟩
  have := Slot2.new (w.alloc (.cells #[a0, a1] 28)) b0 b1 28
  rwa [World.size_alloc] at this
set_option maxHeartbeats 1000000 in
theorem cmp_false_false (A A' : Option Addr) (n c m d : Nat) (a b : Int) (w : World) (ha : IsInt w false A n c a) (hb : IsInt w false A' m d b) :
    Calls Tryd.prog 44 #[.agg #[.bool false, .slice A n c], .agg #[.bool false, .slice A' m d]] w fun e w' => e = .returned (.int .i64 (cmpN a b)) ∧ Below w.heap.size w w' := by
  have T1 := fun W hW => tidy_z false A n c a w W ha hW
  have T2 := fun W hW => tidy_z false A' m d b w W hb hW
  have T1' := Lib.hid T1
  have T2' := Lib.hid T2
  have HO : ∀ W, Below w.heap.size w W → Calls Tryd.prog 71 #[.slice A n n, .slice A' m m] W fun e w' => e = .returned (.int .i64 (cmpN a b)) ∧ Drawn W w' := fun W hW => by
    have := order_any A A' n n m m w.heap.size w.heap.size _ _ W (ha.lim.tight.below hW) (hb.lim.tight.below hW)
    have h1 : false = decide (a < 0) := ha.sign
    have h2 : false = decide (b < 0) := hb.sign
    rw [ordV_digs, show cmpN (a.natAbs : Int) (b.natAbs : Int) = cmpN a b by
      have h1' := of_decide_eq_false h1.symm
      have h2' := of_decide_eq_false h2.symm
      unfold cmpN; split <;> split <;> (try split) <;> (try split) <;> omega] at this
    exact this
  have HO' := Lib.hid HO
  clear HO
  clear T1 T2 ha hb
  obtain ⟨HB, P0, Q0⟩ := frame20 w (.bool false) (.slice A n c) (.bool false) (.slice A' m d)
  go_enter Tryd.func44, Tryd.ntmps44
  go_wp2_with fail
  go_region_with (first | (go_at_call 70; (with_reducible refine (T1'.out _ ?_).mono ?_); (first | exact HB | exact HB.drew | exact Below.drewN' HB _); rintro e w1 ⟨rfl, hb1⟩; have B1 := Below.trans (by first | exact HB | exact HB.drew | exact Below.drewN' HB _) (hb1.mono HB.size); have P1 := Slot2.after (by first | exact P0 | exact P0.drew | exact P0.drewN _) hb1; have Q1 := Slot2.after (by first | exact Q0 | exact Q0.drew | exact Q0.drewN _) hb1; obtain ⟨q0, q1, _, _, _⟩ := Slot2.after (by first | exact Q0 | exact Q0.drew | exact Q0.drewN _) hb1) | (go_at_call 70; (with_reducible refine (T2'.out _ ?_).mono ?_); exact B1; rintro e w2 ⟨rfl, hb2⟩; have B2 := B1.trans (hb2.mono B1.size); obtain ⟨p0, p1, p2, p3, p4⟩ := P1.after hb2; obtain ⟨r0, r1, r2, r3, r4⟩ := Q1.after hb2))
  all_goals (
    have P3 := (Slot2.set2 ⟨p0, p1, p2, p3, p4⟩ (.bool false) (.slice A n n)).far2 (g' := w.heap.size + 1) (by omega) (.bool false) (.slice A' m m)
    have Q3 := (Slot2.far2 ⟨r0, r1, r2, r3, r4⟩ (g' := w.heap.size) (by omega) (.bool false) (.slice A n n)).set2 (.bool false) (.slice A' m m)
    have B3 := (((B2.setCell (p := ⟨w.heap.size, 0, none⟩) (by simp) (.bool false)).setCell (p := ⟨w.heap.size, 1, none⟩) (by simp) (.slice A n n)).setCell (p := ⟨w.heap.size + 1, 0, none⟩) (by simp) (.bool false)).setCell (p := ⟨w.heap.size + 1, 1, none⟩) (by simp) (.slice A' m m)
    clear p0 p1 p2 p3 p4 r0 r1 r2 r3 r4
    generalize (((w2.setCell ⟨w.heap.size, 0, none⟩ (.bool false)).setCell ⟨w.heap.size, 1, none⟩ (.slice A n n)).setCell ⟨w.heap.size + 1, 0, none⟩ (.bool false)).setCell ⟨w.heap.size + 1, 1, none⟩ (.slice A' m m) = w3 at *
    obtain ⟨p0, p1, p2, p3, p4⟩ := P3
    obtain ⟨r0, r1, r2, r3, r4⟩ := Q3
    go_wp2_with fail
    refine (HO'.out _ B3).mono ?_
    rintro e w5 ⟨rfl, hd5⟩
    go_wp2
    go_ret
    exact ⟨rfl, B3.trans (hd5.below _)⟩)
set_option maxHeartbeats 1000000 in
theorem cmp_false_true (A A' : Option Addr) (n c m d : Nat) (a b : Int) (w : World) (ha : IsInt w false A n c a) (hb : IsInt w true A' m d b) :
    Calls Tryd.prog 44 #[.agg #[.bool false, .slice A n c], .agg #[.bool true, .slice A' m d]] w fun e w' => e = .returned (.int .i64 (cmpN a b)) ∧ Below w.heap.size w w' := by
  have T1 := fun W hW => tidy_z false A n c a w W ha hW
  have T2 := fun W hW => tidy_z true A' m d b w W hb hW
  have T1' := Lib.hid T1
  have T2' := Lib.hid T2
  have hv : cmpN a b = 1 := by
    have h1 : false = decide (a < 0) := ha.sign
    have h2 : true = decide (b < 0) := hb.sign
    have h1' := of_decide_eq_false h1.symm
    have h2' := of_decide_eq_true h2.symm
    unfold cmpN; split <;> (try split) <;> omega
  rw [hv]
  clear hv
  clear T1 T2 ha hb
  obtain ⟨HB, P0, Q0⟩ := frame20 w (.bool false) (.slice A n c) (.bool true) (.slice A' m d)
  go_enter Tryd.func44, Tryd.ntmps44
  go_wp2_with fail
  go_region_with (first | (go_at_call 70; (with_reducible refine (T1'.out _ ?_).mono ?_); (first | exact HB | exact HB.drew | exact Below.drewN' HB _); rintro e w1 ⟨rfl, hb1⟩; have B1 := Below.trans (by first | exact HB | exact HB.drew | exact Below.drewN' HB _) (hb1.mono HB.size); have P1 := Slot2.after (by first | exact P0 | exact P0.drew | exact P0.drewN _) hb1; have Q1 := Slot2.after (by first | exact Q0 | exact Q0.drew | exact Q0.drewN _) hb1; obtain ⟨q0, q1, _, _, _⟩ := Slot2.after (by first | exact Q0 | exact Q0.drew | exact Q0.drewN _) hb1) | (go_at_call 70; (with_reducible refine (T2'.out _ ?_).mono ?_); exact B1; rintro e w2 ⟨rfl, hb2⟩; have B2 := B1.trans (hb2.mono B1.size); obtain ⟨p0, p1, p2, p3, p4⟩ := P1.after hb2; obtain ⟨r0, r1, r2, r3, r4⟩ := Q1.after hb2))
  all_goals (
    have P3 := (Slot2.set2 ⟨p0, p1, p2, p3, p4⟩ (.bool false) (.slice A n n)).far2 (g' := w.heap.size + 1) (by omega) (.bool true) (.slice A' m m)
    have Q3 := (Slot2.far2 ⟨r0, r1, r2, r3, r4⟩ (g' := w.heap.size) (by omega) (.bool false) (.slice A n n)).set2 (.bool true) (.slice A' m m)
    have B3 := (((B2.setCell (p := ⟨w.heap.size, 0, none⟩) (by simp) (.bool false)).setCell (p := ⟨w.heap.size, 1, none⟩) (by simp) (.slice A n n)).setCell (p := ⟨w.heap.size + 1, 0, none⟩) (by simp) (.bool true)).setCell (p := ⟨w.heap.size + 1, 1, none⟩) (by simp) (.slice A' m m)
    clear p0 p1 p2 p3 p4 r0 r1 r2 r3 r4
    generalize (((w2.setCell ⟨w.heap.size, 0, none⟩ (.bool false)).setCell ⟨w.heap.size, 1, none⟩ (.slice A n n)).setCell ⟨w.heap.size + 1, 0, none⟩ (.bool true)).setCell ⟨w.heap.size + 1, 1, none⟩ (.slice A' m m) = w3 at *
    obtain ⟨p0, p1, p2, p3, p4⟩ := P3
    obtain ⟨r0, r1, r2, r3, r4⟩ := Q3
    go_wp2
    go_ret
    exact ⟨rfl, B3⟩)
set_option maxHeartbeats 1000000 in
theorem cmp_true_false (A A' : Option Addr) (n c m d : Nat) (a b : Int) (w : World) (ha : IsInt w true A n c a) (hb : IsInt w false A' m d b) :
    Calls Tryd.prog 44 #[.agg #[.bool true, .slice A n c], .agg #[.bool false, .slice A' m d]] w fun e w' => e = .returned (.int .i64 (cmpN a b)) ∧ Below w.heap.size w w' := by
  have T1 := fun W hW => tidy_z true A n c a w W ha hW
  have T2 := fun W hW => tidy_z false A' m d b w W hb hW
  have T1' := Lib.hid T1
  have T2' := Lib.hid T2
  have hv : cmpN a b = -1 := by
    have h1 : true = decide (a < 0) := ha.sign
    have h2 : false = decide (b < 0) := hb.sign
    have h1' := of_decide_eq_true h1.symm
    have h2' := of_decide_eq_false h2.symm
    unfold cmpN; split <;> (try split) <;> omega
  rw [hv]
  clear hv
  clear T1 T2 ha hb
  obtain ⟨HB, P0, Q0⟩ := frame20 w (.bool true) (.slice A n c) (.bool false) (.slice A' m d)
  go_enter Tryd.func44, Tryd.ntmps44
  go_wp2_with fail
  go_region_with (first | (go_at_call 70; (with_reducible refine (T1'.out _ ?_).mono ?_); (first | exact HB | exact HB.drew | exact Below.drewN' HB _); rintro e w1 ⟨rfl, hb1⟩; have B1 := Below.trans (by first | exact HB | exact HB.drew | exact Below.drewN' HB _) (hb1.mono HB.size); have P1 := Slot2.after (by first | exact P0 | exact P0.drew | exact P0.drewN _) hb1; have Q1 := Slot2.after (by first | exact Q0 | exact Q0.drew | exact Q0.drewN _) hb1; obtain ⟨q0, q1, _, _, _⟩ := Slot2.after (by first | exact Q0 | exact Q0.drew | exact Q0.drewN _) hb1) | (go_at_call 70; (with_reducible refine (T2'.out _ ?_).mono ?_); exact B1; rintro e w2 ⟨rfl, hb2⟩; have B2 := B1.trans (hb2.mono B1.size); obtain ⟨p0, p1, p2, p3, p4⟩ := P1.after hb2; obtain ⟨r0, r1, r2, r3, r4⟩ := Q1.after hb2))
  all_goals (
    have P3 := (Slot2.set2 ⟨p0, p1, p2, p3, p4⟩ (.bool true) (.slice A n n)).far2 (g' := w.heap.size + 1) (by omega) (.bool false) (.slice A' m m)
    have Q3 := (Slot2.far2 ⟨r0, r1, r2, r3, r4⟩ (g' := w.heap.size) (by omega) (.bool true) (.slice A n n)).set2 (.bool false) (.slice A' m m)
    have B3 := (((B2.setCell (p := ⟨w.heap.size, 0, none⟩) (by simp) (.bool true)).setCell (p := ⟨w.heap.size, 1, none⟩) (by simp) (.slice A n n)).setCell (p := ⟨w.heap.size + 1, 0, none⟩) (by simp) (.bool false)).setCell (p := ⟨w.heap.size + 1, 1, none⟩) (by simp) (.slice A' m m)
    clear p0 p1 p2 p3 p4 r0 r1 r2 r3 r4
    generalize (((w2.setCell ⟨w.heap.size, 0, none⟩ (.bool true)).setCell ⟨w.heap.size, 1, none⟩ (.slice A n n)).setCell ⟨w.heap.size + 1, 0, none⟩ (.bool false)).setCell ⟨w.heap.size + 1, 1, none⟩ (.slice A' m m) = w3 at *
    obtain ⟨p0, p1, p2, p3, p4⟩ := P3
    obtain ⟨r0, r1, r2, r3, r4⟩ := Q3
    go_wp2
    go_ret
    exact ⟨rfl, B3⟩)
set_option maxHeartbeats 1000000 in
theorem cmp_true_true (A A' : Option Addr) (n c m d : Nat) (a b : Int) (w : World) (ha : IsInt w true A n c a) (hb : IsInt w true A' m d b) :
    Calls Tryd.prog 44 #[.agg #[.bool true, .slice A n c], .agg #[.bool true, .slice A' m d]] w fun e w' => e = .returned (.int .i64 (cmpN a b)) ∧ Below w.heap.size w w' := by
  have T1 := fun W hW => tidy_z true A n c a w W ha hW
  have T2 := fun W hW => tidy_z true A' m d b w W hb hW
  have T1' := Lib.hid T1
  have T2' := Lib.hid T2
  have HO : ∀ W, Below w.heap.size w W → Calls Tryd.prog 71 #[.slice A' m m, .slice A n n] W fun e w' => e = .returned (.int .i64 (cmpN a b)) ∧ Drawn W w' := fun W hW => by
    have := order_any A' A m m n n w.heap.size w.heap.size _ _ W (hb.lim.tight.below hW) (ha.lim.tight.below hW)
    have h1 : true = decide (a < 0) := ha.sign
    have h2 : true = decide (b < 0) := hb.sign
    rw [ordV_digs, show cmpN (b.natAbs : Int) (a.natAbs : Int) = cmpN a b by
      have h1' := of_decide_eq_true h1.symm
      have h2' := of_decide_eq_true h2.symm
      unfold cmpN; split <;> split <;> (try split) <;> (try split) <;> omega] at this
    exact this
  have HO' := Lib.hid HO
  clear HO
  clear T1 T2 ha hb
  obtain ⟨HB, P0, Q0⟩ := frame20 w (.bool true) (.slice A n c) (.bool true) (.slice A' m d)
  go_enter Tryd.func44, Tryd.ntmps44
  go_wp2_with fail
  go_region_with (first | (go_at_call 70; (with_reducible refine (T1'.out _ ?_).mono ?_); (first | exact HB | exact HB.drew | exact Below.drewN' HB _); rintro e w1 ⟨rfl, hb1⟩; have B1 := Below.trans (by first | exact HB | exact HB.drew | exact Below.drewN' HB _) (hb1.mono HB.size); have P1 := Slot2.after (by first | exact P0 | exact P0.drew | exact P0.drewN _) hb1; have Q1 := Slot2.after (by first | exact Q0 | exact Q0.drew | exact Q0.drewN _) hb1; obtain ⟨q0, q1, _, _, _⟩ := Slot2.after (by first | exact Q0 | exact Q0.drew | exact Q0.drewN _) hb1) | (go_at_call 70; (with_reducible refine (T2'.out _ ?_).mono ?_); exact B1; rintro e w2 ⟨rfl, hb2⟩; have B2 := B1.trans (hb2.mono B1.size); obtain ⟨p0, p1, p2, p3, p4⟩ := P1.after hb2; obtain ⟨r0, r1, r2, r3, r4⟩ := Q1.after hb2))
  all_goals (
    have P3 := (Slot2.set2 ⟨p0, p1, p2, p3, p4⟩ (.bool true) (.slice A n n)).far2 (g' := w.heap.size + 1) (by omega) (.bool true) (.slice A' m m)
    have Q3 := (Slot2.far2 ⟨r0, r1, r2, r3, r4⟩ (g' := w.heap.size) (by omega) (.bool true) (.slice A n n)).set2 (.bool true) (.slice A' m m)
    have B3 := (((B2.setCell (p := ⟨w.heap.size, 0, none⟩) (by simp) (.bool true)).setCell (p := ⟨w.heap.size, 1, none⟩) (by simp) (.slice A n n)).setCell (p := ⟨w.heap.size + 1, 0, none⟩) (by simp) (.bool true)).setCell (p := ⟨w.heap.size + 1, 1, none⟩) (by simp) (.slice A' m m)
    clear p0 p1 p2 p3 p4 r0 r1 r2 r3 r4
    generalize (((w2.setCell ⟨w.heap.size, 0, none⟩ (.bool true)).setCell ⟨w.heap.size, 1, none⟩ (.slice A n n)).setCell ⟨w.heap.size + 1, 0, none⟩ (.bool true)).setCell ⟨w.heap.size + 1, 1, none⟩ (.slice A' m m) = w3 at *
    obtain ⟨p0, p1, p2, p3, p4⟩ := P3
    obtain ⟨r0, r1, r2, r3, r4⟩ := Q3
    go_wp2_with fail
    refine (HO'.out _ B3).mono ?_
    rintro e w5 ⟨rfl, hd5⟩
    go_wp2
    go_ret
    exact ⟨rfl, B3.trans (hd5.below _)⟩)

theorem cmp_any (neg neg' : Bool) (A A' : Option Addr) (n c m d : Nat) (a b : Int) (w : World) (ha : IsInt w neg A n c a) (hb : IsInt w neg' A' m d b) :
    Calls Tryd.prog 44 #[.agg #[.bool neg, .slice A n c], .agg #[.bool neg', .slice A' m d]] w fun e w' => e = .returned (.int .i64 (cmpN a b)) ∧ Below w.heap.size w w' := by
  cases neg <;> cases neg'
  · exact cmp_false_false A A' n c m d a b w ha hb
  · exact cmp_false_true A A' n c m d a b w ha hb
  · exact cmp_true_false A A' n c m d a b w ha hb
  · exact cmp_true_true A A' n c m d a b w ha hb
end Go.Proofs.YtclmenpclkmfeaaDoor
