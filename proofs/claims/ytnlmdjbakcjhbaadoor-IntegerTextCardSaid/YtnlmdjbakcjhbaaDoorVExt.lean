/- Contract of integer.Ext. -/
import Derived.Test.YtnlmdjbakcjhbaaDoorVG14DivModW
import Derived.Test.YtnlmdjbakcjhbaaDoorVExtZ
namespace Go.Proofs.YtnlmdjbakcjhbaaDoor
open Go.RowKit
theorem Slot2.two {w : World} {g : Nat} {a b : Value} (h : Slot2 w g a b) : w.cell? ⟨g, 0, none⟩ = some a ∧ w.cell? ⟨g, 1, none⟩ = some b := ⟨h.1, h.2.1⟩
/-- A common divisor g and its coefficients come back. -/
def RetExt (w : World) (g : Nat) (neg neg' : Bool) (va vb : Nat) (e : Ending) (w' : World) : Prop := ∃ s t s' t' : Int, Ret3 w (g : Int) (if neg then -s else s) (if neg' then -t else t) e w' ∧ ExtInv va vb g 0 s s' t t'
set_option maxHeartbeats 4000000 in
theorem extW_any (neg neg' : Bool) (A A' : Option Addr) (n c m d : Nat) (a b : Int) (w : World) (ha : IsInt w neg A n c a) (hb : IsInt w neg' A' m d b) (hn : n ≤ 2) (hm : m ≤ 2) (hab : a ≠ 0 ∨ b ≠ 0) :
    Calls Tryd.prog 23 #[.agg #[.bool neg, .slice A n c], .agg #[.bool neg', .slice A' m d]] w (RetExt w (Nat.gcd a.natAbs b.natAbs) neg neg' a.natAbs b.natAbs) := by
  have T1 := fun W hW => tidy_z neg A n c a w W ha hW
  have T2 := fun W hW => tidy_z neg' A' m d b w W hb hW
  have la := len_of ha
  have lb := len_of hb
  have HW := fun W (hW : Below w.heap.size w W) => words_yes A A' n n m m _ _ _ _ W (ha.lim.tight.below hW) (hb.lim.tight.below hW) hn hm
  simp only [val_digs] at HW
  have HE := fun W => extWords_any a.natAbs b.natAbs W (lt_two (by rw [ha.lim.len]; exact hn)) (lt_two (by rw [hb.lim.len]; exact hm)) (by omega)
  have hnm : ¬ (n = 0 ∧ m = 0) := by omega
  generalize a.natAbs = va at *
  generalize b.natAbs = vb at *
  have T1' := Lib.hid T1
  have T2' := Lib.hid T2
  have HW' := Lib.hid HW
  have HE' := Lib.hid HE
  clear T1 T2 HW HE la lb ha hb hab
  obtain ⟨HB, P0, Q0, R0, S0, U0⟩ := frame23 w (.bool neg) (.slice A n c) (.bool neg') (.slice A' m d)
  go_enter Tryd.func23, Tryd.ntmps23
  go_upto_region 1 with (fail)
  go_cut [] (fun wx => Tid3 w wx (.bool neg) (.slice A n n) (.bool neg') (.slice A' m m))
  case first =>
    go_region_with (first | (go_at_call 65; (with_reducible refine (T1'.out _ ?_).mono ?_); (first | exact HB | exact HB.drew | exact Below.drewN' HB _); rintro e w1 ⟨rfl, hb1⟩; have B1 := Below.trans (by first | exact HB | exact HB.drew | exact Below.drewN' HB _) (hb1.mono HB.size); have P1 := Slot2.after (by first | exact P0 | exact P0.drew | exact P0.drewN _) hb1; have Q1 := Slot2.after (by first | exact Q0 | exact Q0.drew | exact Q0.drewN _) hb1; have R1 := Slot2.after (by first | exact R0 | exact R0.drew | exact R0.drewN _) hb1; have S1 := Slot2.after (by first | exact S0 | exact S0.drew | exact S0.drewN _) hb1; have U1 := Slot2.after (by first | exact U0 | exact U0.drew | exact U0.drewN _) hb1; obtain ⟨q0, q1, _, _, _⟩ := Slot2.after (by first | exact Q0 | exact Q0.drew | exact Q0.drewN _) hb1) | (go_at_call 65; (with_reducible refine (T2'.out _ ?_).mono ?_); exact B1; rintro e w2 ⟨rfl, hb2⟩; have B2 := B1.trans (hb2.mono B1.size); obtain ⟨p0, p1, p2, p3, p4⟩ := P1.after hb2; obtain ⟨r0, r1, r2, r3, r4⟩ := Q1.after hb2; have R2 := R1.after hb2; have S2 := S1.after hb2; have U2 := U1.after hb2))
    all_goals (
      go_wp2_with fail
      go_meet
      have P3 := (Slot2.set2 ⟨p0, p1, p2, p3, p4⟩ (.bool neg) (.slice A n n)).far2 (g' := w.heap.size + 1) (by omega) (.bool neg') (.slice A' m m)
      have Q3 := (Slot2.far2 ⟨r0, r1, r2, r3, r4⟩ (g' := w.heap.size) (by omega) (.bool neg) (.slice A n n)).set2 (.bool neg') (.slice A' m m)
      have R3 := (R2.far2 (g' := w.heap.size) (by omega) (.bool neg) (.slice A n n)).far2 (g' := w.heap.size + 1) (by omega) (.bool neg') (.slice A' m m)
      have S3 := (S2.far2 (g' := w.heap.size) (by omega) (.bool neg) (.slice A n n)).far2 (g' := w.heap.size + 1) (by omega) (.bool neg') (.slice A' m m)
      have U3 := (U2.far2 (g' := w.heap.size) (by omega) (.bool neg) (.slice A n n)).far2 (g' := w.heap.size + 1) (by omega) (.bool neg') (.slice A' m m)
      have B3 := (((B2.setCell (p := ⟨w.heap.size, 0, none⟩) (by simp) (.bool neg)).setCell (p := ⟨w.heap.size, 1, none⟩) (by simp) (.slice A n n)).setCell (p := ⟨w.heap.size + 1, 0, none⟩) (by simp) (.bool neg')).setCell (p := ⟨w.heap.size + 1, 1, none⟩) (by simp) (.slice A' m m)
      exact ⟨B3, P3, Q3, R3, S3, U3⟩)
  case rest =>
    obtain ⟨B3, P3, Q3, R3, S3, U3⟩ := hcut
    have ⟨p0, p1, p2, p3, p4⟩ := P3
    have ⟨q0, q1, q2, q3, q4⟩ := Q3
    by_cases hn0 : n = 0
    case' pos =>
      subst hn0
      have bm : ((m : Int) == 0) = false := by simp; omega
    case' neg =>
      have bn : ((n : Int) == 0) = false := by simp; omega
    all_goals (
    have Z1 : Below wc.heap.size wc (((wc.alloc (.cells #[.bool false, .slice none 0 0] 27)).alloc (.cells #[.bool false, .slice none 0 0] 27)).alloc (.cells #[.bool false, .slice none 0 0] 27)) := (frame003 wc).1
    obtain ⟨_, G70, G80, G90⟩ := frame003 wc
    have B4 := B3.trans (Z1.mono B3.size)
    have P4 := P3.after Z1
    have Q4 := Q3.after Z1
    have R4 := R3.after Z1
    have S4 := S3.after Z1
    have U4 := U3.after Z1
    have hgw := B3.size
    have ub := U3.2.2.2.2
    have ⟨z0, z1⟩ := Slot2.two (P4)
    have ⟨y0, y1⟩ := Slot2.two (Q4)
    go_wp2_with fail
    refine (HW'.out _ B4).mono ?_
    rintro e w5 ⟨rfl, hd5⟩
    have B5 := B4.trans (hd5.below _)
    have P5 := P4.after (hd5.below _)
    have Q5 := Q4.after (hd5.below _)
    have R5 := R4.after (hd5.below _)
    have S5 := S4.after (hd5.below _)
    have U5 := U4.after (hd5.below _)
    have G75 := G70.after (hd5.below _)
    have G85 := G80.after (hd5.below _)
    have G95 := G90.after (hd5.below _)
    clear z0 z1 y0 y1 p0 p1 p2 p3 p4 q0 q1 q2 q3 q4
    go_wp2_with fail
    refine (HE'.out _).mono ?_
    rintro e w6 ⟨s, t, s', t', ⟨g1, A1, n1, c1, g2, A2, n2, c2, g3, A3, n3, c3, rfl, hi1, hi2, hi3, hb6⟩, inv⟩
    have INV := Lib.hid inv
    clear inv
    have B6 := B5.trans (hb6.mono B5.size)
    have P6 := P5.after hb6
    have Q6 := Q5.after hb6
    have R6 := R5.after hb6
    have S6 := S5.after hb6
    have U6 := U5.after hb6
    have G76 := G75.after hb6
    have G86 := G85.after hb6
    have G96 := G95.after hb6
    have ⟨f0, f1, f2, f3, f4⟩ := G76
    have ⟨h0, h1, h2, h3, h4⟩ := G86
    have ⟨k0, k1, k2, k3, k4⟩ := G96
    go_wp2_with fail
    have G87 := G86.far2 (g' := wc.heap.size) (by omega) (.bool g1) (.slice A1 n1 c1)
    have G97 := (G96.far2 (g' := wc.heap.size) (by omega) (.bool g1) (.slice A1 n1 c1)).far2 (g' := wc.heap.size + 1) (by omega) (.bool g2) (.slice A2 n2 c2)
    have st := fun {neg A n c z} (h : IsInt w6 neg A n c z) => ((h.stored f0 f1 rfl rfl (.bool g1) (.slice A1 n1 c1)).stored G87.1 G87.2.1 rfl rfl (.bool g2) (.slice A2 n2 c2)).stored G97.1 G97.2.1 rfl rfl (.bool g3) (.slice A3 n3 c3)
    have j1 := st hi1
    have j2 := st hi2
    have j3 := st hi3
    have P7 := ((P6.far2 (g' := wc.heap.size) (by omega) (.bool g1) (.slice A1 n1 c1)).far2 (g' := wc.heap.size + 1) (by omega) (.bool g2) (.slice A2 n2 c2)).far2 (g' := wc.heap.size + 1 + 1) (by omega) (.bool g3) (.slice A3 n3 c3)
    have Q7 := ((Q6.far2 (g' := wc.heap.size) (by omega) (.bool g1) (.slice A1 n1 c1)).far2 (g' := wc.heap.size + 1) (by omega) (.bool g2) (.slice A2 n2 c2)).far2 (g' := wc.heap.size + 1 + 1) (by omega) (.bool g3) (.slice A3 n3 c3)
    have R7 := ((R6.far2 (g' := wc.heap.size) (by omega) (.bool g1) (.slice A1 n1 c1)).far2 (g' := wc.heap.size + 1) (by omega) (.bool g2) (.slice A2 n2 c2)).far2 (g' := wc.heap.size + 1 + 1) (by omega) (.bool g3) (.slice A3 n3 c3)
    have S7 := ((S6.far2 (g' := wc.heap.size) (by omega) (.bool g1) (.slice A1 n1 c1)).far2 (g' := wc.heap.size + 1) (by omega) (.bool g2) (.slice A2 n2 c2)).far2 (g' := wc.heap.size + 1 + 1) (by omega) (.bool g3) (.slice A3 n3 c3)
    have U7 := ((U6.far2 (g' := wc.heap.size) (by omega) (.bool g1) (.slice A1 n1 c1)).far2 (g' := wc.heap.size + 1) (by omega) (.bool g2) (.slice A2 n2 c2)).far2 (g' := wc.heap.size + 1 + 1) (by omega) (.bool g3) (.slice A3 n3 c3)
    have G77 := ((G76.set2 (.bool g1) (.slice A1 n1 c1)).far2 (g' := wc.heap.size + 1) (by omega) (.bool g2) (.slice A2 n2 c2)).far2 (g' := wc.heap.size + 1 + 1) (by omega) (.bool g3) (.slice A3 n3 c3)
    have G8x := (G87.set2 (.bool g2) (.slice A2 n2 c2)).far2 (g' := wc.heap.size + 1 + 1) (by omega) (.bool g3) (.slice A3 n3 c3)
    have G9x := G97.set2 (.bool g3) (.slice A3 n3 c3)
    have B7 := (((((B6.setCell (p := ⟨wc.heap.size, 0, none⟩) hgw (.bool g1)).setCell (p := ⟨wc.heap.size, 1, none⟩) hgw (.slice A1 n1 c1)).setCell (p := ⟨wc.heap.size + 1, 0, none⟩) (by show _ ≤ wc.heap.size + 1; omega) (.bool g2)).setCell (p := ⟨wc.heap.size + 1, 1, none⟩) (by show _ ≤ wc.heap.size + 1; omega) (.slice A2 n2 c2)).setCell (p := ⟨wc.heap.size + 1 + 1, 0, none⟩) (by show _ ≤ wc.heap.size + 1 + 1; omega) (.bool g3)).setCell (p := ⟨wc.heap.size + 1 + 1, 1, none⟩) (by show _ ≤ wc.heap.size + 1 + 1; omega) (.slice A3 n3 c3)
    clear f0 f1 f2 f3 f4 h0 h1 h2 h3 h4 k0 k1 k2 k3 k4 st G87 G97 hi1 hi2 hi3
    generalize (((((w6.setCell ⟨wc.heap.size, 0, none⟩ (.bool g1)).setCell ⟨wc.heap.size, 1, none⟩ (.slice A1 n1 c1)).setCell ⟨wc.heap.size + 1, 0, none⟩ (.bool g2)).setCell ⟨wc.heap.size + 1, 1, none⟩ (.slice A2 n2 c2)).setCell ⟨wc.heap.size + 1 + 1, 0, none⟩ (.bool g3)).setCell ⟨wc.heap.size + 1 + 1, 1, none⟩ (.slice A3 n3 c3) = w7 at *
    have HS2 := Lib.hid (fun W (hW : Below w7.heap.size w7 W) => withSign_any g2 neg A2 n2 c2 s W (j2.below hW))
    have HS3 := Lib.hid (fun W (hW : Below w7.heap.size w7 W) => withSign_any g3 neg' A3 n3 c3 t W (j3.below hW))
    have ⟨i1, i2⟩ := Slot2.two (G77.drew)
    have ⟨i3, i4⟩ := Slot2.two (G8x.drew)
    have ⟨i5, i6⟩ := Slot2.two (G9x.drew)
    have i7 := (P7.drew).1
    have i8 := (Q7.drew).1
    clear B3 P3 Q3 R3 S3 U3 Z1 G70 G80 G90 B4 P4 Q4 R4 S4 U4 B5 P5 Q5 R5 S5 U5 G75 G85 G95 P6 Q6 R6 S6 U6 G76 G86 G96
    go_region_held3 (fun W => W.cell? ⟨wc.heap.size, 0, none⟩ = some (.bool g1) ∧ W.cell? ⟨wc.heap.size, 1, none⟩ = some (.slice A1 n1 c1) ∧ W.cell? ⟨wc.heap.size + 1, 0, none⟩ = some (.bool g2) ∧ W.cell? ⟨wc.heap.size + 1, 1, none⟩ = some (.slice A2 n2 c2) ∧ W.cell? ⟨wc.heap.size + 1 + 1, 0, none⟩ = some (.bool g3) ∧ W.cell? ⟨wc.heap.size + 1 + 1, 1, none⟩ = some (.slice A3 n3 c3) ∧ W.cell? ⟨w.heap.size, 0, none⟩ = some (.bool neg) ∧ W.cell? ⟨w.heap.size + 1, 0, none⟩ = some (.bool neg')) (first | (with_reducible exact ⟨i1, i2, i3, i4, i5, i6, i7, i8⟩) | (with_reducible exact ⟨m1, m2, m3, m4, m5, m6, m7, m8⟩) | (with_reducible exact ⟨v1, v2, v3, v4, v5, v6, v7, v8⟩) | (with_reducible exact ⟨x1, x2, x3, x4, x5, x6, x7, x8⟩) | (with_reducible exact ⟨y1, y2, y3, y4, y5, y6, y7, y8⟩) | (with_reducible exact ⟨z1, z2, z3, z4, z5, z6, z7, z8⟩))
      (first | (go_at_call 75; (with_reducible refine (HS2.out _ ?_).mono ?_); (first | exact Below.refl _ _ | exact (Below.refl _ _).drew | exact Below.drewN' (Below.refl _ _) _); rintro e w8 ⟨g8, A8, n8, c8, rfl, hi8, hb8⟩; have D8 := Below.trans (by first | exact Below.refl _ _ | exact (Below.refl _ _).drew | exact Below.drewN' (Below.refl _ _) _ : Below w7.heap.size w7 _) hb8; have B8 := B7.trans (D8.mono B7.size); have P8 := P7.after D8; have Q8 := Q7.after D8; have R8 := R7.after D8; have S8 := S7.after D8; have U8 := U7.after D8; have G78 := G77.after D8; have G88 := G8x.after D8; have G98 := G9x.after D8; have ⟨m1, m2⟩ := Slot2.two (G78); have ⟨m3, m4⟩ := Slot2.two (G88); have ⟨m5, m6⟩ := Slot2.two (G98); have m7 := (P8).1; have m8 := (Q8).1) | (go_at_call 75; (with_reducible refine (HS3.out _ ?_).mono ?_); exact D8; rintro e w9 ⟨g9, A9, n9, c9, rfl, hi9, hb9⟩; have B9 := B8.trans (hb9.mono B8.size); have P9 := P8.after hb9; have Q9 := Q8.after hb9; obtain ⟨r0, r1, r2, r3, r4⟩ := R8.after hb9; obtain ⟨s0, s1, s2, s3, s4⟩ := S8.after hb9; obtain ⟨u0, u1, u2, u3, u4⟩ := U8.after hb9; have G79 := G78.after hb9; have G89 := G88.after hb9; have G99 := G98.after hb9; have ⟨v1, v2⟩ := Slot2.two (G79); have ⟨v3, v4⟩ := Slot2.two (G89); have ⟨v5, v6⟩ := Slot2.two (G99); have v7 := (P9).1; have v8 := (Q9).1; have ⟨x1, x2⟩ := Slot2.two ((G79.far2 (g' := w.heap.size + 1 + 1) (by omega) (.bool g1) (.slice A1 n1 c1))); have ⟨x3, x4⟩ := Slot2.two ((G89.far2 (g' := w.heap.size + 1 + 1) (by omega) (.bool g1) (.slice A1 n1 c1))); have ⟨x5, x6⟩ := Slot2.two ((G99.far2 (g' := w.heap.size + 1 + 1) (by omega) (.bool g1) (.slice A1 n1 c1))); have x7 := ((P9.far2 (g' := w.heap.size + 1 + 1) (by omega) (.bool g1) (.slice A1 n1 c1))).1; have x8 := ((Q9.far2 (g' := w.heap.size + 1 + 1) (by omega) (.bool g1) (.slice A1 n1 c1))).1; have ⟨y1, y2⟩ := Slot2.two (((G79.far2 (g' := w.heap.size + 1 + 1) (by omega) (.bool g1) (.slice A1 n1 c1)).far2 (g' := w.heap.size + 1 + 1 + 1) (by omega) (.bool g8) (.slice A8 n8 c8))); have ⟨y3, y4⟩ := Slot2.two (((G89.far2 (g' := w.heap.size + 1 + 1) (by omega) (.bool g1) (.slice A1 n1 c1)).far2 (g' := w.heap.size + 1 + 1 + 1) (by omega) (.bool g8) (.slice A8 n8 c8))); have ⟨y5, y6⟩ := Slot2.two (((G99.far2 (g' := w.heap.size + 1 + 1) (by omega) (.bool g1) (.slice A1 n1 c1)).far2 (g' := w.heap.size + 1 + 1 + 1) (by omega) (.bool g8) (.slice A8 n8 c8))); have y7 := (((P9.far2 (g' := w.heap.size + 1 + 1) (by omega) (.bool g1) (.slice A1 n1 c1)).far2 (g' := w.heap.size + 1 + 1 + 1) (by omega) (.bool g8) (.slice A8 n8 c8))).1; have y8 := (((Q9.far2 (g' := w.heap.size + 1 + 1) (by omega) (.bool g1) (.slice A1 n1 c1)).far2 (g' := w.heap.size + 1 + 1 + 1) (by omega) (.bool g8) (.slice A8 n8 c8))).1; have ⟨z1, z2⟩ := Slot2.two ((((G79.far2 (g' := w.heap.size + 1 + 1) (by omega) (.bool g1) (.slice A1 n1 c1)).far2 (g' := w.heap.size + 1 + 1 + 1) (by omega) (.bool g8) (.slice A8 n8 c8)).far2 (g' := w.heap.size + 1 + 1 + 1 + 1) (by omega) (.bool g9) (.slice A9 n9 c9))); have ⟨z3, z4⟩ := Slot2.two ((((G89.far2 (g' := w.heap.size + 1 + 1) (by omega) (.bool g1) (.slice A1 n1 c1)).far2 (g' := w.heap.size + 1 + 1 + 1) (by omega) (.bool g8) (.slice A8 n8 c8)).far2 (g' := w.heap.size + 1 + 1 + 1 + 1) (by omega) (.bool g9) (.slice A9 n9 c9))); have ⟨z5, z6⟩ := Slot2.two ((((G99.far2 (g' := w.heap.size + 1 + 1) (by omega) (.bool g1) (.slice A1 n1 c1)).far2 (g' := w.heap.size + 1 + 1 + 1) (by omega) (.bool g8) (.slice A8 n8 c8)).far2 (g' := w.heap.size + 1 + 1 + 1 + 1) (by omega) (.bool g9) (.slice A9 n9 c9))); have z7 := ((((P9.far2 (g' := w.heap.size + 1 + 1) (by omega) (.bool g1) (.slice A1 n1 c1)).far2 (g' := w.heap.size + 1 + 1 + 1) (by omega) (.bool g8) (.slice A8 n8 c8)).far2 (g' := w.heap.size + 1 + 1 + 1 + 1) (by omega) (.bool g9) (.slice A9 n9 c9))).1; have z8 := ((((Q9.far2 (g' := w.heap.size + 1 + 1) (by omega) (.bool g1) (.slice A1 n1 c1)).far2 (g' := w.heap.size + 1 + 1 + 1) (by omega) (.bool g8) (.slice A8 n8 c8)).far2 (g' := w.heap.size + 1 + 1 + 1 + 1) (by omega) (.bool g9) (.slice A9 n9 c9))).1; have E8 := hi8.below hb9; have F9 := j1.below (D8.trans (hb9.mono D8.size))))
    clear i1 i2 i3 i4 i5 i6 i7 i8 m1 m2 m3 m4 m5 m6 m7 m8 v1 v2 v3 v4 v5 v6 v7 v8 x1 x2 x3 x4 x5 x6 x7 x8 y1 y2 y3 y4 y5 y6 y7 y8 z1 z2 z3 z4 z5 z6 z7 z8
    have S10 := Slot2.far2 (g' := w.heap.size + 1 + 1) ⟨s0, s1, s2, s3, s4⟩ (by omega) (.bool g1) (.slice A1 n1 c1)
    have U10 := (Slot2.far2 (g' := w.heap.size + 1 + 1) ⟨u0, u1, u2, u3, u4⟩ (by omega) (.bool g1) (.slice A1 n1 c1)).far2 (g' := w.heap.size + 1 + 1 + 1) (by omega) (.bool g8) (.slice A8 n8 c8)
    have st := fun {neg A n c z} (h : IsInt w9 neg A n c z) => ((h.stored r0 r1 rfl rfl (.bool g1) (.slice A1 n1 c1)).stored S10.1 S10.2.1 rfl rfl (.bool g8) (.slice A8 n8 c8)).stored U10.1 U10.2.1 rfl rfl (.bool g9) (.slice A9 n9 c9)
    have j4 := st F9
    have j5 := st E8
    have j6 := st hi9
    have inv := INV.out
    have B10 := (((((B9.setCell (p := ⟨w.heap.size + 1 + 1, 0, none⟩) (by show _ ≤ w.heap.size + 1 + 1; omega) (.bool g1)).setCell (p := ⟨w.heap.size + 1 + 1, 1, none⟩) (by show _ ≤ w.heap.size + 1 + 1; omega) (.slice A1 n1 c1)).setCell (p := ⟨w.heap.size + 1 + 1 + 1, 0, none⟩) (by show _ ≤ w.heap.size + 1 + 1 + 1; omega) (.bool g8)).setCell (p := ⟨w.heap.size + 1 + 1 + 1, 1, none⟩) (by show _ ≤ w.heap.size + 1 + 1 + 1; omega) (.slice A8 n8 c8)).setCell (p := ⟨w.heap.size + 1 + 1 + 1 + 1, 0, none⟩) (by show _ ≤ w.heap.size + 1 + 1 + 1 + 1; omega) (.bool g9)).setCell (p := ⟨w.heap.size + 1 + 1 + 1 + 1, 1, none⟩) (by show _ ≤ w.heap.size + 1 + 1 + 1 + 1; omega) (.slice A9 n9 c9)
    have R11 := ((Slot2.set2 ⟨r0, r1, r2, r3, r4⟩ (.bool g1) (.slice A1 n1 c1)).far2 (g' := w.heap.size + 1 + 1 + 1) (by omega) (.bool g8) (.slice A8 n8 c8)).far2 (g' := w.heap.size + 1 + 1 + 1 + 1) (by omega) (.bool g9) (.slice A9 n9 c9)
    have S11 := (S10.set2 (.bool g8) (.slice A8 n8 c8)).far2 (g' := w.heap.size + 1 + 1 + 1 + 1) (by omega) (.bool g9) (.slice A9 n9 c9)
    have U11 := U10.set2 (.bool g9) (.slice A9 n9 c9)
    clear st INV r0 r1 r2 r3 r4 s0 s1 s2 s3 s4 u0 u1 u2 u3 u4 S10 U10 HS2 HS3 j1 j2 j3 B6 B7 R7 S7 U7 P7 Q7 G77 G8x G9x hi8 hi9 E8 F9 hb8 hb9 hb6 D8 B8 B9 P8 Q8 R8 S8 U8 P9 Q9 G78 G88 G98 G79 G89 G99
    generalize (((((w9.setCell ⟨w.heap.size + 1 + 1, 0, none⟩ (.bool g1)).setCell ⟨w.heap.size + 1 + 1, 1, none⟩ (.slice A1 n1 c1)).setCell ⟨w.heap.size + 1 + 1 + 1, 0, none⟩ (.bool g8)).setCell ⟨w.heap.size + 1 + 1 + 1, 1, none⟩ (.slice A8 n8 c8)).setCell ⟨w.heap.size + 1 + 1 + 1 + 1, 0, none⟩ (.bool g9)).setCell ⟨w.heap.size + 1 + 1 + 1 + 1, 1, none⟩ (.slice A9 n9 c9) = wz at *
    have ⟨r0, r1⟩ := R11.two
    have ⟨s0, s1⟩ := S11.two
    have ⟨u0, u1⟩ := U11.two
    go_wp2
    refine bodyPost_ret (v := .tuple #[.agg #[.bool g1, .slice A1 n1 c1], .agg #[.bool g8, .slice A8 n8 c8], .agg #[.bool g9, .slice A9 n9 c9]]) (by simp [results, Tryd.results23, go_sem, r0, r1, s0, s1, u0, u1]) rfl
        ⟨s, t, s', t', ⟨_, _, _, _, _, _, _, _, _, _, _, _, rfl, j4, j5, j6, B10⟩, inv⟩)
end Go.Proofs.YtnlmdjbakcjhbaaDoor
