/- Contract of integer.DivMod at the divisor 0. -/
import Derived.Test.YtclmenpclkmfeaaDoorVG10DivMod
import Derived.Test.YtclmenpclkmfeaaDoorVG7AddB
namespace Go.Proofs.YtclmenpclkmfeaaDoor
open Go.RowKit
/-- Two zeros and the code 3 come back. -/
def RetZ3 (w : World) (e : Ending) (w' : World) : Prop := ∃ g1 A1 n1 c1 g2 A2 n2 c2, e = .returned (.tuple #[.agg #[.bool g1, .slice A1 n1 c1], .agg #[.bool g2, .slice A2 n2 c2], .int .i64 3]) ∧ IsInt w' g1 A1 n1 c1 0 ∧ IsInt w' g2 A2 n2 c2 0 ∧ Below w.heap.size w w'
set_option maxHeartbeats 2000000 in
theorem dm_zero (neg : Bool) (A A' : Option Addr) (n c d : Nat) (a : Int) (w : World) (ha : IsInt w neg A n c a) (hb : IsInt w false A' 0 d 0) :
    Calls Tryd.prog 57 #[.agg #[.bool neg, .slice A n c], .agg #[.bool false, .slice A' 0 d]] w (RetZ3 w) := by
  have T1 := fun W hW => tidy_z neg A n c a w W ha hW
  have T2 := fun W hW => tidy_z false A' 0 d 0 w W hb hW
  have T1' := Lib.hid T1
  have T2' := Lib.hid T2
  clear T1 T2
  obtain ⟨HB, P0, Q0, R0, S0⟩ := frame22 w (.bool neg) (.slice A n c) (.bool false) (.slice A' 0 d)
  go_enter Tryd.func57, Tryd.ntmps57
  go_upto_region 1 with (fail)
  go_cut [] (fun wx => Tid w wx (.bool neg) (.slice A n n) (.bool false) (.slice A' 0 0))
  case first =>
    go_region_with (first | (go_at_call 70; (with_reducible refine (T1'.out _ ?_).mono ?_); (first | exact HB | exact HB.drew | exact Below.drewN' HB _); rintro e w1 ⟨rfl, hb1⟩; have B1 := Below.trans (by first | exact HB | exact HB.drew | exact Below.drewN' HB _) (hb1.mono HB.size); have P1 := Slot2.after (by first | exact P0 | exact P0.drew | exact P0.drewN _) hb1; have Q1 := Slot2.after (by first | exact Q0 | exact Q0.drew | exact Q0.drewN _) hb1; have R1 := Slot2.after (by first | exact R0 | exact R0.drew | exact R0.drewN _) hb1; have S1 := Slot2.after (by first | exact S0 | exact S0.drew | exact S0.drewN _) hb1; obtain ⟨q0, q1, _, _, _⟩ := Slot2.after (by first | exact Q0 | exact Q0.drew | exact Q0.drewN _) hb1) | (go_at_call 70; (with_reducible refine (T2'.out _ ?_).mono ?_); exact B1; rintro e w2 ⟨rfl, hb2⟩; have B2 := B1.trans (hb2.mono B1.size); obtain ⟨p0, p1, p2, p3, p4⟩ := P1.after hb2; obtain ⟨r0, r1, r2, r3, r4⟩ := Q1.after hb2; have R2 := R1.after hb2; have S2 := S1.after hb2))
    all_goals (
      go_wp2_with fail
      go_meet
      have P3 := (Slot2.set2 ⟨p0, p1, p2, p3, p4⟩ (.bool neg) (.slice A n n)).far2 (g' := w.heap.size + 1) (by omega) (.bool false) (.slice A' 0 0)
      have Q3 := (Slot2.far2 ⟨r0, r1, r2, r3, r4⟩ (g' := w.heap.size) (by omega) (.bool neg) (.slice A n n)).set2 (.bool false) (.slice A' 0 0)
      have R3 := (R2.far2 (g' := w.heap.size) (by omega) (.bool neg) (.slice A n n)).far2 (g' := w.heap.size + 1) (by omega) (.bool false) (.slice A' 0 0)
      have S3 := (S2.far2 (g' := w.heap.size) (by omega) (.bool neg) (.slice A n n)).far2 (g' := w.heap.size + 1) (by omega) (.bool false) (.slice A' 0 0)
      have B3 := (((B2.setCell (p := ⟨w.heap.size, 0, none⟩) (by simp) (.bool neg)).setCell (p := ⟨w.heap.size, 1, none⟩) (by simp) (.slice A n n)).setCell (p := ⟨w.heap.size + 1, 0, none⟩) (by simp) (.bool false)).setCell (p := ⟨w.heap.size + 1, 1, none⟩) (by simp) (.slice A' 0 0)
      exact ⟨B3, P3, Q3, R3, S3⟩)
  case rest =>
    obtain ⟨B3, P3, Q3, R3, S3⟩ := hcut
    have ⟨p0, p1, p2, p3, p4⟩ := P3
    have ⟨q0, q1, q2, q3, q4⟩ := Q3
    have ⟨r0, r1, r2, r3, r4⟩ := R3
    have ⟨s0, s1, s2, s3, s4⟩ := S3
    go_wp2
    refine bodyPost_ret (v := .tuple #[.agg #[.bool false, .slice none 0 0], .agg #[.bool false, .slice none 0 0], .int .i64 3]) (by simp [results, Tryd.results57, go_sem, r0, r1, s0, s1]) rfl
      ⟨_, _, _, _, _, _, _, _, rfl, isInt_zero _ (by omega), isInt_zero _ (by omega), (((B3.setCell (by simp <;> omega) _).setCell (by simp <;> omega) _).setCell (by simp <;> omega) _).setCell (by simp <;> omega) _⟩
end Go.Proofs.YtclmenpclkmfeaaDoor
