/- Contracts of integer.Add, Sub, Cmp. -/
import Derived.Test.YtclmenpclkmfeaaDoorVAddA
import Derived.Test.YtclmenpclkmfeaaDoorVG7AddB
namespace Go.Proofs.YtclmenpclkmfeaaDoor
open Go.RowKit
theorem addSigned_any (neg neg' : Bool) (A A' : Option Addr) (n c m d a b : Nat) (w : World) (ha : Lim w w.heap.size A n c (digs a)) (hb : Lim w w.heap.size A' m d (digs b)) (hn : n ≤ 1000000) (hm : m ≤ 1000000) :
    Calls Tryd.prog 72 #[.agg #[.bool neg, .slice A n c], .agg #[.bool neg', .slice A' m d]] w (RetInt w (zOf neg a + zOf neg' b)) := by
  cases neg <;> cases neg'
  · exact addS_false_false A A' n c m d a b w ha hb hn hm
  · rcases Nat.lt_or_ge a b with h | h
    · exact addS_false_true_lt A A' n c m d a b w ha hb hn hm h
    · exact addS_false_true_ge A A' n c m d a b w ha hb hn hm h
  · rcases Nat.lt_or_ge a b with h | h
    · exact addS_true_false_lt A A' n c m d a b w ha hb hn hm h
    · exact addS_true_false_ge A A' n c m d a b w ha hb hn hm h
  · exact addS_true_true A A' n c m d a b w ha hb hn hm
theorem tidy_z (neg : Bool) (A : Option Addr) (n c : Nat) (z : Int) (w W : World) (ha : IsInt w neg A n c z) (hW : Below w.heap.size w W) :
    Calls Tryd.prog 70 #[.agg #[.bool neg, .slice A n c]] W fun e w' => e = .returned (.agg #[.bool neg, .slice A n n]) ∧ Below W.heap.size W w' := by
  have := tidy_any neg A n c w.heap.size (digs z.natAbs) W (ha.lim.below hW) hW.size
  have e1 : zOf neg (val (digs z.natAbs)) = z := by rw [val_digs, ha.sign]; exact zOf_self z
  rw [e1, val_digs, ha.lim.len, ← ha.sign] at this
  exact this
theorem IsInt.zOf {w : World} {neg : Bool} {A : Option Addr} {n c : Nat} {z : Int} (h : IsInt w neg A n c z) : zOf neg z.natAbs = z := by rw [h.sign]; exact zOf_self z
theorem IsInt.zOf' {w : World} {neg : Bool} {A : Option Addr} {n c : Nat} {z : Int} (h : IsInt w neg A n c z) : Go.Proofs.YtclmenpclkmfeaaDoor.zOf (!neg) z.natAbs = -z := by rw [h.sign]; exact zOf_not z

set_option maxHeartbeats 1000000 in
theorem add_any (neg neg' : Bool) (A A' : Option Addr) (n c m d : Nat) (a b : Int) (w : World) (ha : IsInt w neg A n c a) (hb : IsInt w neg' A' m d b) (hn : n ≤ 1000000) (hm : m ≤ 1000000) :
    Calls Tryd.prog 45 #[.agg #[.bool neg, .slice A n c], .agg #[.bool neg', .slice A' m d]] w (RetInt w (a + b)) := by
  have T1 := fun W hW => tidy_z neg A n c a w W ha hW
  have T2 := fun W hW => tidy_z neg' A' m d b w W hb hW
  have HS : ∀ W, Below w.heap.size w W → Calls Tryd.prog 72 #[.agg #[.bool neg, .slice A n n], .agg #[.bool neg', .slice A' m m]] W (RetInt W (a + b)) := fun W hW => by
    have := addSigned_any neg neg' A A' n n m m a.natAbs b.natAbs W ((ha.lim.tight.below hW).more hW.size) ((hb.lim.tight.below hW).more hW.size) hn hm
    rwa [ha.zOf, hb.zOf] at this
  have T1' := Lib.hid T1
  have T2' := Lib.hid T2
  have HS' := Lib.hid HS
  clear T1 T2 HS ha hb
  obtain ⟨HB, P0, Q0, R0⟩ := frame21 w (.bool neg) (.slice A n c) (.bool neg') (.slice A' m d)
  go_enter Tryd.func45, Tryd.ntmps45
  go_wp2_with fail
  go_region_held3 (fun W => W.cell? ⟨w.heap.size, 0, none⟩ = some (.bool neg) ∧ W.cell? ⟨w.heap.size, 1, none⟩ = some (.slice A n c) ∧ W.cell? ⟨w.heap.size + 1, 0, none⟩ = some (.bool neg') ∧ W.cell? ⟨w.heap.size + 1, 1, none⟩ = some (.slice A' m d)) (first | exact ⟨P3.1, P3.2.1, Q3.1, Q3.2.1⟩ | exact ⟨P2.1, P2.2.1, Q2.1, Q2.2.1⟩ | exact ⟨P1.1, P1.2.1, Q1.1, Q1.2.1⟩ | exact ⟨P0.1, P0.2.1, Q0.1, Q0.2.1⟩ | exact ⟨(P3.far2 (by omega) _ _).1, (P3.far2 (by omega) _ _).2.1, (Q3.far2 (by omega) _ _).1, (Q3.far2 (by omega) _ _).2.1⟩)
    (first | (go_at_call 70; (with_reducible refine (T1'.out _ ?_).mono ?_); (first | exact HB | exact HB.drew | exact Below.drewN' HB _); rintro e w1 ⟨rfl, hb1⟩; have B1 := Below.trans (by first | exact HB | exact HB.drew | exact Below.drewN' HB _) (hb1.mono HB.size); have P1 := Slot2.after (by first | exact P0 | exact P0.drew | exact P0.drewN _) hb1; have Q1 := Slot2.after (by first | exact Q0 | exact Q0.drew | exact Q0.drewN _) hb1; have R1 := Slot2.after (by first | exact R0 | exact R0.drew | exact R0.drewN _) hb1) | (go_at_call 70; (with_reducible refine (T2'.out _ ?_).mono ?_); exact B1; rintro e w2 ⟨rfl, hb2⟩; have B2 := B1.trans (hb2.mono B1.size); have P2 := P1.after hb2; have Q2 := Q1.after hb2; have R2 := R1.after hb2) | (go_at_call 72; (with_reducible refine (HS'.out _ ?_).mono ?_); exact B2; rintro e w3 ⟨neg3, A3, n3, c3, rfl, hi3, hb3⟩; have P3 := P2.after hb3; have Q3 := Q2.after hb3; obtain ⟨k0, k1, f0, f1, _⟩ := R2.after hb3))
  go_wp2
  exact bodyPost_ret (v := .agg #[.bool neg3, .slice A3 n3 c3]) (by simp [results, Tryd.results45, go_sem, k0, k1]) rfl
    (RetInt.stored hi3 B2 hb3 (by omega) k0 k1 rfl rfl)
set_option maxHeartbeats 1000000 in
theorem sub_any (neg neg' : Bool) (A A' : Option Addr) (n c m d : Nat) (a b : Int) (w : World) (ha : IsInt w neg A n c a) (hb : IsInt w neg' A' m d b) (hn : n ≤ 1000000) (hm : m ≤ 1000000) :
    Calls Tryd.prog 46 #[.agg #[.bool neg, .slice A n c], .agg #[.bool neg', .slice A' m d]] w (RetInt w (a - b)) := by
  have T1 := fun W hW => tidy_z neg A n c a w W ha hW
  have T2 := fun W hW => tidy_z neg' A' m d b w W hb hW
  have HS : ∀ W, Below w.heap.size w W → Calls Tryd.prog 72 #[.agg #[.bool neg, .slice A n n], .agg #[.bool !neg', .slice A' m m]] W (RetInt W (a - b)) := fun W hW => by
    have := addSigned_any neg (!neg') A A' n n m m a.natAbs b.natAbs W ((ha.lim.tight.below hW).more hW.size) ((hb.lim.tight.below hW).more hW.size) hn hm
    rwa [ha.zOf, hb.zOf', ← Int.sub_eq_add_neg] at this
  have T1' := Lib.hid T1
  have T2' := Lib.hid T2
  have HS' := Lib.hid HS
  clear T1 T2 HS ha hb
  obtain ⟨HB, P0, Q0, R0⟩ := frame21 w (.bool neg) (.slice A n c) (.bool neg') (.slice A' m d)
  go_enter Tryd.func46, Tryd.ntmps46
  go_wp2_with fail
  go_region_with (first | (go_at_call 70; (with_reducible refine (T1'.out _ ?_).mono ?_); (first | exact HB | exact HB.drew | exact Below.drewN' HB _); rintro e w1 ⟨rfl, hb1⟩; have B1 := Below.trans (by first | exact HB | exact HB.drew | exact Below.drewN' HB _) (hb1.mono HB.size); have P1 := Slot2.after (by first | exact P0 | exact P0.drew | exact P0.drewN _) hb1; have Q1 := Slot2.after (by first | exact Q0 | exact Q0.drew | exact Q0.drewN _) hb1; have R1 := Slot2.after (by first | exact R0 | exact R0.drew | exact R0.drewN _) hb1; obtain ⟨q0, q1, _, _, _⟩ := Slot2.after (by first | exact Q0 | exact Q0.drew | exact Q0.drewN _) hb1) | (go_at_call 70; (with_reducible refine (T2'.out _ ?_).mono ?_); exact B1; rintro e w2 ⟨rfl, hb2⟩; have B2 := B1.trans (hb2.mono B1.size); obtain ⟨p0, p1, p2, p3, p4⟩ := P1.after hb2; obtain ⟨r0, r1, r2, r3, r4⟩ := Q1.after hb2; have R2 := R1.after hb2))
  all_goals (
    have P3 := (Slot2.set2 ⟨p0, p1, p2, p3, p4⟩ (.bool neg) (.slice A n n)).far2 (g' := w.heap.size + 1) (by omega) (.bool neg') (.slice A' m m)
    have Q3 := (Slot2.far2 ⟨r0, r1, r2, r3, r4⟩ (g' := w.heap.size) (by omega) (.bool neg) (.slice A n n)).set2 (.bool neg') (.slice A' m m)
    have B3 := (((B2.setCell (p := ⟨w.heap.size, 0, none⟩) (by simp) (.bool neg)).setCell (p := ⟨w.heap.size, 1, none⟩) (by simp) (.slice A n n)).setCell (p := ⟨w.heap.size + 1, 0, none⟩) (by simp) (.bool neg')).setCell (p := ⟨w.heap.size + 1, 1, none⟩) (by simp) (.slice A' m m)
    have R3 := (R2.far2 (g' := w.heap.size) (by omega) (.bool neg) (.slice A n n)).far2 (g' := w.heap.size + 1) (by omega) (.bool neg') (.slice A' m m)
    clear p0 p1 p2 p3 p4 r0 r1 r2 r3 r4
    generalize (((w2.setCell ⟨w.heap.size, 0, none⟩ (.bool neg)).setCell ⟨w.heap.size, 1, none⟩ (.slice A n n)).setCell ⟨w.heap.size + 1, 0, none⟩ (.bool neg')).setCell ⟨w.heap.size + 1, 1, none⟩ (.slice A' m m) = w3 at *
    obtain ⟨p0, p1, p2, p3, p4⟩ := P3
    obtain ⟨r0, r1, r2, r3, r4⟩ := Q3
    go_wp2_with fail
    have B4 := B3.setCell (p := ⟨w.heap.size + 1, 0, none⟩) (by simp) (.bool !neg')
    have R4 := R3.far (g' := w.heap.size + 1) (i := 0) (by omega) (.bool !neg')
    refine (HS'.out _ B4).mono ?_
    rintro e w5 ⟨neg5, A5, n5, c5, rfl, hi5, hb5⟩
    obtain ⟨k0, k1, f0, f1, _⟩ := R4.after hb5
    go_wp2
    exact bodyPost_ret (v := .agg #[.bool neg5, .slice A5 n5 c5]) (by simp [results, Tryd.results46, go_sem, k0, k1]) rfl
      (RetInt.stored hi5 B4 hb5 (by omega) k0 k1 rfl rfl))
end Go.Proofs.YtclmenpclkmfeaaDoor
