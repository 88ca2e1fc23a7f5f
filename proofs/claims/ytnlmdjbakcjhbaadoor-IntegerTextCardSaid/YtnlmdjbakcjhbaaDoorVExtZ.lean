/- Contract of integer.Ext. -/
import Derived.Test.YtnlmdjbakcjhbaaDoorVG14DivModW
import Derived.Test.YtnlmdjbakcjhbaaDoorVG6AddB
namespace Go.Proofs.YtnlmdjbakcjhbaaDoor
open Go.RowKit
/-- The world behind 'a, b = tidy(a), tidy(b)', with three results. -/
def Tid3 (w wx : World) (x0 x1 y0 y1 : Value) : Prop := Below w.heap.size w wx ∧ Slot2 wx w.heap.size x0 x1 ∧ Slot2 wx (w.heap.size + 1) y0 y1 ∧ Slot2 wx (w.heap.size + 1 + 1) (.bool false) (.slice none 0 0) ∧ Slot2 wx (w.heap.size + 1 + 1 + 1) (.bool false) (.slice none 0 0) ∧ Slot2 wx (w.heap.size + 1 + 1 + 1 + 1) (.bool false) (.slice none 0 0)
theorem frame23 (w : World) (a0 a1 b0 b1 : Value) :
    Tid3 w (((((w.alloc (.cells #[a0, a1] 27)).alloc (.cells #[b0, b1] 27)).alloc (.cells #[.bool false, .slice none 0 0] 27)).alloc (.cells #[.bool false, .slice none 0 0] 27)).alloc (.cells #[.bool false, .slice none 0 0] 27)) a0 a1 b0 b1 := by
  obtain ⟨HB, P0, Q0, R0, S0⟩ := frame22 w a0 a1 b0 b1
  have h := Slot2.new ((((w.alloc (.cells #[a0, a1] 27)).alloc (.cells #[b0, b1] 27)).alloc (.cells #[.bool false, .slice none 0 0] 27)).alloc (.cells #[.bool false, .slice none 0 0] 27)) (.bool false) (.slice none 0 0) 27
  rw [World.size_alloc, World.size_alloc, World.size_alloc, World.size_alloc] at h
  exact ⟨HB.alloc HB.size _, P0.alloc _, Q0.alloc _, R0.alloc _, S0.alloc _, h⟩
set_option maxHeartbeats 2000000 in
theorem ext_zero (neg neg' : Bool) (A A' : Option Addr) (c d : Nat) (w : World) (ha : IsInt w neg A 0 c 0) (hb : IsInt w neg' A' 0 d 0) :
    Calls Tryd.prog 23 #[.agg #[.bool neg, .slice A 0 c], .agg #[.bool neg', .slice A' 0 d]] w (Ret3 w 0 0 0) := by
  have T1 := fun W hW => tidy_z neg A 0 c 0 w W ha hW
  have T2 := fun W hW => tidy_z neg' A' 0 d 0 w W hb hW
  have T1' := Lib.hid T1
  have T2' := Lib.hid T2
  clear T1 T2
  obtain ⟨HB, P0, Q0, R0, S0, U0⟩ := frame23 w (.bool neg) (.slice A 0 c) (.bool neg') (.slice A' 0 d)
  go_enter Tryd.func23, Tryd.ntmps23
  go_upto_region 1 with (fail)
  go_cut [] (fun wx => Tid3 w wx (.bool neg) (.slice A 0 0) (.bool neg') (.slice A' 0 0))
  case first =>
    go_region_with (first | (go_at_call 65; (with_reducible refine (T1'.out _ ?_).mono ?_); (first | exact HB | exact HB.drew | exact Below.drewN' HB _); rintro e w1 ⟨rfl, hb1⟩; have B1 := Below.trans (by first | exact HB | exact HB.drew | exact Below.drewN' HB _) (hb1.mono HB.size); have P1 := Slot2.after (by first | exact P0 | exact P0.drew | exact P0.drewN _) hb1; have Q1 := Slot2.after (by first | exact Q0 | exact Q0.drew | exact Q0.drewN _) hb1; have R1 := Slot2.after (by first | exact R0 | exact R0.drew | exact R0.drewN _) hb1; have S1 := Slot2.after (by first | exact S0 | exact S0.drew | exact S0.drewN _) hb1; have U1 := Slot2.after (by first | exact U0 | exact U0.drew | exact U0.drewN _) hb1; obtain ⟨q0, q1, _, _, _⟩ := Slot2.after (by first | exact Q0 | exact Q0.drew | exact Q0.drewN _) hb1) | (go_at_call 65; (with_reducible refine (T2'.out _ ?_).mono ?_); exact B1; rintro e w2 ⟨rfl, hb2⟩; have B2 := B1.trans (hb2.mono B1.size); obtain ⟨p0, p1, p2, p3, p4⟩ := P1.after hb2; obtain ⟨r0, r1, r2, r3, r4⟩ := Q1.after hb2; have R2 := R1.after hb2; have S2 := S1.after hb2; have U2 := U1.after hb2))
    all_goals (
      go_wp2_with fail
      go_meet
      have P3 := (Slot2.set2 ⟨p0, p1, p2, p3, p4⟩ (.bool neg) (.slice A 0 0)).far2 (g' := w.heap.size + 1) (by omega) (.bool neg') (.slice A' 0 0)
      have Q3 := (Slot2.far2 ⟨r0, r1, r2, r3, r4⟩ (g' := w.heap.size) (by omega) (.bool neg) (.slice A 0 0)).set2 (.bool neg') (.slice A' 0 0)
      have R3 := (R2.far2 (g' := w.heap.size) (by omega) (.bool neg) (.slice A 0 0)).far2 (g' := w.heap.size + 1) (by omega) (.bool neg') (.slice A' 0 0)
      have S3 := (S2.far2 (g' := w.heap.size) (by omega) (.bool neg) (.slice A 0 0)).far2 (g' := w.heap.size + 1) (by omega) (.bool neg') (.slice A' 0 0)
      have U3 := (U2.far2 (g' := w.heap.size) (by omega) (.bool neg) (.slice A 0 0)).far2 (g' := w.heap.size + 1) (by omega) (.bool neg') (.slice A' 0 0)
      have B3 := (((B2.setCell (p := ⟨w.heap.size, 0, none⟩) (by simp) (.bool neg)).setCell (p := ⟨w.heap.size, 1, none⟩) (by simp) (.slice A 0 0)).setCell (p := ⟨w.heap.size + 1, 0, none⟩) (by simp) (.bool neg')).setCell (p := ⟨w.heap.size + 1, 1, none⟩) (by simp) (.slice A' 0 0)
      exact ⟨B3, P3, Q3, R3, S3, U3⟩)
  case rest =>
    obtain ⟨B3, P3, Q3, R3, S3, U3⟩ := hcut
    have ⟨p0, p1, p2, p3, p4⟩ := P3
    have ⟨q0, q1, q2, q3, q4⟩ := Q3
    have ⟨r0, r1, r2, r3, r4⟩ := R3
    have ⟨s0, s1, s2, s3, s4⟩ := S3
    have ⟨u0, u1, u2, u3, u4⟩ := U3
    go_wp2
    exact bodyPost_ret (v := .tuple #[.agg #[.bool false, .slice none 0 0], .agg #[.bool false, .slice none 0 0], .agg #[.bool false, .slice none 0 0]]) (by simp [results, Tryd.results23, go_sem, r0, r1, s0, s1, u0, u1]) rfl
      ⟨_, _, _, _, _, _, _, _, _, _, _, _, rfl, isInt_zero _ (by omega), isInt_zero _ (by omega), isInt_zero _ (by omega), (((((B3.setCell (by simp <;> omega) _).setCell (by simp <;> omega) _).setCell (by simp <;> omega) _).setCell (by simp <;> omega) _).setCell (by simp <;> omega) _).setCell (by simp <;> omega) _⟩
end Go.Proofs.YtnlmdjbakcjhbaaDoor
