/- Contract of integer.addSigned. -/
import Derived.Test.YtclmenpclkmfeaaDoorVG1CrtMap
import Derived.Test.YtclmenpclkmfeaaDoorVMul
import Derived.Test.YtclmenpclkmfeaaDoorVG2Prod
namespace Go.Proofs.YtclmenpclkmfeaaDoor
open Go.RowKit
set_option maxHeartbeats 1000000 in
theorem addS_false_false (A A' : Option Addr) (n c m d a b : Nat) (w : World) (ha : Lim w w.heap.size A n c (digs a)) (hb : Lim w w.heap.size A' m d (digs b)) (hn : n ≤ 1000000) (hm : m ≤ 1000000) :
    Calls Tryd.prog 72 #[.agg #[.bool false, .slice A n c], .agg #[.bool false, .slice A' m d]] w (RetInt w (zOf false a + zOf false b)) := by
  have HP : ∀ W (_ : Below w.heap.size w W), Calls Tryd.prog 81 #[.slice A n c, .slice A' m d] W (ProdRes (a + b) W) := fun W hW =>
    (sum_any A A' n c m d w.heap.size w.heap.size _ _ W (ha.below hW) (hb.below hW) hW.size hW.size hn hm).mono fun e w' ⟨zs, h1, h2, _⟩ => ⟨zs, h1, by rw [h2, val_digs, val_digs]⟩
  have HU : ∀ A k c zs W, Lim W W.heap.size A k c zs → val zs = a + b → Calls Tryd.prog 77 #[.bool false, .slice A k c] W (RetInt W (zOf false a + zOf false b)) := fun A k c zs W h hv => by
    have := build_any false A k c W.heap.size zs W h (Nat.le_refl _)
    rw [hv, show zOf false (a + b) = zOf false a + zOf false b by unfold zOf; simp <;> omega] at this
    exact this
  have HP' := Lib.hid HP
  have HU' := Lib.hid HU
  clear HP HU ha hb
  obtain ⟨HB, P0, Q0, R0⟩ := frame21 w (.bool false) (.slice A n c) (.bool false) (.slice A' m d)
  go_enter Tryd.func72, Tryd.ntmps72
  go_wp2_with fail
  go_region_held3 (fun W => W.cell? ⟨w.heap.size, 0, none⟩ = some (.bool false) ∧ W.cell? ⟨w.heap.size, 1, none⟩ = some (.slice A n c) ∧ W.cell? ⟨w.heap.size + 1, 0, none⟩ = some (.bool false) ∧ W.cell? ⟨w.heap.size + 1, 1, none⟩ = some (.slice A' m d)) (first | exact ⟨P2.1, P2.2.1, Q2.1, Q2.2.1⟩ | exact ⟨P1.1, P1.2.1, Q1.1, Q1.2.1⟩ | exact ⟨P0.1, P0.2.1, Q0.1, Q0.2.1⟩ | exact ⟨(P2.far2 (by omega) _ _).1, (P2.far2 (by omega) _ _).2.1, (Q2.far2 (by omega) _ _).1, (Q2.far2 (by omega) _ _).2.1⟩)
    (first | (go_at_call 81; refine (HP'.out _ ?_).mono ?_; (first | exact HB | exact HB.drew | exact Below.drewN' HB _); rintro e w1 ⟨zs, ⟨A1, n1, c1, rfl, hl1, hb1⟩, hv1⟩; have B1 := Below.trans (by first | exact HB | exact HB.drew | exact Below.drewN' HB _) (hb1.mono HB.size); have P1 := Slot2.after (by first | exact P0 | exact P0.drew | exact P0.drewN _) hb1; have Q1 := Slot2.after (by first | exact Q0 | exact Q0.drew | exact Q0.drewN _) hb1; have R1 := Slot2.after (by first | exact R0 | exact R0.drew | exact R0.drewN _) hb1; have hv1' := Lib.hid hv1; clear hv1) | (go_at_call 77; refine (HU'.out _ _ _ _ _ hl1 hv1'.out).mono ?_; rintro e w2 ⟨neg2, A2, n2, c2, rfl, hi2, hb2⟩; have P2 := P1.after hb2; have Q2 := Q1.after hb2; obtain ⟨k0, k1, f0, f1, _⟩ := R1.after hb2))
  go_wp2
  exact bodyPost_ret (v := .agg #[.bool neg2, .slice A2 n2 c2]) (by simp [results, Tryd.results72, go_sem, k0, k1]) rfl
    (RetInt.stored hi2 B1 hb2 (by omega) k0 k1 rfl rfl)
set_option maxHeartbeats 1000000 in
theorem addS_true_true (A A' : Option Addr) (n c m d a b : Nat) (w : World) (ha : Lim w w.heap.size A n c (digs a)) (hb : Lim w w.heap.size A' m d (digs b)) (hn : n ≤ 1000000) (hm : m ≤ 1000000) :
    Calls Tryd.prog 72 #[.agg #[.bool true, .slice A n c], .agg #[.bool true, .slice A' m d]] w (RetInt w (zOf true a + zOf true b)) := by
  have HP : ∀ W (_ : Below w.heap.size w W), Calls Tryd.prog 81 #[.slice A n c, .slice A' m d] W (ProdRes (a + b) W) := fun W hW =>
    (sum_any A A' n c m d w.heap.size w.heap.size _ _ W (ha.below hW) (hb.below hW) hW.size hW.size hn hm).mono fun e w' ⟨zs, h1, h2, _⟩ => ⟨zs, h1, by rw [h2, val_digs, val_digs]⟩
  have HU : ∀ A k c zs W, Lim W W.heap.size A k c zs → val zs = a + b → Calls Tryd.prog 77 #[.bool true, .slice A k c] W (RetInt W (zOf true a + zOf true b)) := fun A k c zs W h hv => by
    have := build_any true A k c W.heap.size zs W h (Nat.le_refl _)
    rw [hv, show zOf true (a + b) = zOf true a + zOf true b by unfold zOf; simp <;> omega] at this
    exact this
  have HP' := Lib.hid HP
  have HU' := Lib.hid HU
  clear HP HU ha hb
  obtain ⟨HB, P0, Q0, R0⟩ := frame21 w (.bool true) (.slice A n c) (.bool true) (.slice A' m d)
  go_enter Tryd.func72, Tryd.ntmps72
  go_wp2_with fail
  go_region_held3 (fun W => W.cell? ⟨w.heap.size, 0, none⟩ = some (.bool true) ∧ W.cell? ⟨w.heap.size, 1, none⟩ = some (.slice A n c) ∧ W.cell? ⟨w.heap.size + 1, 0, none⟩ = some (.bool true) ∧ W.cell? ⟨w.heap.size + 1, 1, none⟩ = some (.slice A' m d)) (first | exact ⟨P2.1, P2.2.1, Q2.1, Q2.2.1⟩ | exact ⟨P1.1, P1.2.1, Q1.1, Q1.2.1⟩ | exact ⟨P0.1, P0.2.1, Q0.1, Q0.2.1⟩ | exact ⟨(P2.far2 (by omega) _ _).1, (P2.far2 (by omega) _ _).2.1, (Q2.far2 (by omega) _ _).1, (Q2.far2 (by omega) _ _).2.1⟩)
    (first | (go_at_call 81; refine (HP'.out _ ?_).mono ?_; (first | exact HB | exact HB.drew | exact Below.drewN' HB _); rintro e w1 ⟨zs, ⟨A1, n1, c1, rfl, hl1, hb1⟩, hv1⟩; have B1 := Below.trans (by first | exact HB | exact HB.drew | exact Below.drewN' HB _) (hb1.mono HB.size); have P1 := Slot2.after (by first | exact P0 | exact P0.drew | exact P0.drewN _) hb1; have Q1 := Slot2.after (by first | exact Q0 | exact Q0.drew | exact Q0.drewN _) hb1; have R1 := Slot2.after (by first | exact R0 | exact R0.drew | exact R0.drewN _) hb1; have hv1' := Lib.hid hv1; clear hv1) | (go_at_call 77; refine (HU'.out _ _ _ _ _ hl1 hv1'.out).mono ?_; rintro e w2 ⟨neg2, A2, n2, c2, rfl, hi2, hb2⟩; have P2 := P1.after hb2; have Q2 := Q1.after hb2; obtain ⟨k0, k1, f0, f1, _⟩ := R1.after hb2))
  go_wp2
  exact bodyPost_ret (v := .agg #[.bool neg2, .slice A2 n2 c2]) (by simp [results, Tryd.results72, go_sem, k0, k1]) rfl
    (RetInt.stored hi2 B1 hb2 (by omega) k0 k1 rfl rfl)
set_option maxHeartbeats 1000000 in
theorem addS_false_true_ge (A A' : Option Addr) (n c m d a b : Nat) (w : World) (ha : Lim w w.heap.size A n c (digs a)) (hb : Lim w w.heap.size A' m d (digs b)) (hn : n ≤ 1000000) (_hm : m ≤ 1000000) (hab : b ≤ a) :
    Calls Tryd.prog 72 #[.agg #[.bool false, .slice A n c], .agg #[.bool true, .slice A' m d]] w (RetInt w (zOf false a + zOf true b)) := by
  have HO := fun W (hW : Below w.heap.size w W) => order_any A A' n c m d w.heap.size w.heap.size _ _ W (ha.below hW) (hb.below hW)
  rw [ordV_digs] at HO
  have ho : ¬ cmpN (a : Int) (b : Int) < 0 := by unfold cmpN; split <;> (try split) <;> omega
  have hmn : m ≤ n := by rw [← ha.len, ← hb.len]; exact digs_len_mono hab
  have HP : ∀ W (_ : Below w.heap.size w W), Calls Tryd.prog 82 #[.slice A n c, .slice A' m d] W (ProdRes (a - b) W) := fun W hW =>
    (diff_any A A' n c m d w.heap.size w.heap.size _ _ W (ha.below hW) (hb.below hW) hW.size hW.size hn hmn (by rw [val_digs, val_digs]; exact hab)).mono fun e w' ⟨zs, h1, h2, _⟩ => ⟨zs, h1, by rw [h2, val_digs, val_digs]⟩
  have HU : ∀ A k c zs W, Lim W W.heap.size A k c zs → val zs = a - b → Calls Tryd.prog 77 #[.bool false, .slice A k c] W (RetInt W (zOf false a + zOf true b)) := fun A k c zs W h hv => by
    have := build_any false A k c W.heap.size zs W h (Nat.le_refl _)
    rw [hv, show zOf false (a - b) = zOf false a + zOf true b by unfold zOf; simp <;> omega] at this
    exact this
  generalize cmpN (a : Int) (b : Int) = t at *
  have HP' := Lib.hid HP
  have HU' := Lib.hid HU
  have HO' := Lib.hid HO
  clear HP HU HO ha hb hab
  obtain ⟨HB0, P00, Q00, R00⟩ := frame21 w (.bool false) (.slice A n c) (.bool true) (.slice A' m d)
  go_enter Tryd.func72, Tryd.ntmps72
  go_wp2_with fail
  refine (HO'.out _ HB0).mono ?_
  rintro e w0 ⟨rfl, hd0⟩
  have HB := HB0.trans (hd0.below _)
  have P0 := P00.after (hd0.below _)
  have Q0 := Q00.after (hd0.below _)
  have R0 := R00.after (hd0.below _)
  go_wp2_with fail
  go_region_held3 (fun W => W.cell? ⟨w.heap.size, 0, none⟩ = some (.bool false) ∧ W.cell? ⟨w.heap.size, 1, none⟩ = some (.slice A n c) ∧ W.cell? ⟨w.heap.size + 1, 0, none⟩ = some (.bool true) ∧ W.cell? ⟨w.heap.size + 1, 1, none⟩ = some (.slice A' m d)) (first | exact ⟨P2.1, P2.2.1, Q2.1, Q2.2.1⟩ | exact ⟨P1.1, P1.2.1, Q1.1, Q1.2.1⟩ | exact ⟨P0.1, P0.2.1, Q0.1, Q0.2.1⟩ | exact ⟨(P2.far2 (by omega) _ _).1, (P2.far2 (by omega) _ _).2.1, (Q2.far2 (by omega) _ _).1, (Q2.far2 (by omega) _ _).2.1⟩)
    (first | (go_at_call 82; refine (HP'.out _ ?_).mono ?_; (first | exact HB | exact HB.drew | exact Below.drewN' HB _); rintro e w1 ⟨zs, ⟨A1, n1, c1, rfl, hl1, hb1⟩, hv1⟩; have B1 := Below.trans (by first | exact HB | exact HB.drew | exact Below.drewN' HB _) (hb1.mono HB.size); have P1 := Slot2.after (by first | exact P0 | exact P0.drew | exact P0.drewN _) hb1; have Q1 := Slot2.after (by first | exact Q0 | exact Q0.drew | exact Q0.drewN _) hb1; have R1 := Slot2.after (by first | exact R0 | exact R0.drew | exact R0.drewN _) hb1; have hv1' := Lib.hid hv1; clear hv1) | (go_at_call 77; refine (HU'.out _ _ _ _ _ hl1 hv1'.out).mono ?_; rintro e w2 ⟨neg2, A2, n2, c2, rfl, hi2, hb2⟩; have P2 := P1.after hb2; have Q2 := Q1.after hb2; obtain ⟨k0, k1, f0, f1, _⟩ := R1.after hb2))
  go_wp2
  exact bodyPost_ret (v := .agg #[.bool neg2, .slice A2 n2 c2]) (by simp [results, Tryd.results72, go_sem, k0, k1]) rfl
    (RetInt.stored hi2 B1 hb2 (by omega) k0 k1 rfl rfl)
set_option maxHeartbeats 1000000 in
theorem addS_true_false_ge (A A' : Option Addr) (n c m d a b : Nat) (w : World) (ha : Lim w w.heap.size A n c (digs a)) (hb : Lim w w.heap.size A' m d (digs b)) (hn : n ≤ 1000000) (_hm : m ≤ 1000000) (hab : b ≤ a) :
    Calls Tryd.prog 72 #[.agg #[.bool true, .slice A n c], .agg #[.bool false, .slice A' m d]] w (RetInt w (zOf true a + zOf false b)) := by
  have HO := fun W (hW : Below w.heap.size w W) => order_any A A' n c m d w.heap.size w.heap.size _ _ W (ha.below hW) (hb.below hW)
  rw [ordV_digs] at HO
  have ho : ¬ cmpN (a : Int) (b : Int) < 0 := by unfold cmpN; split <;> (try split) <;> omega
  have hmn : m ≤ n := by rw [← ha.len, ← hb.len]; exact digs_len_mono hab
  have HP : ∀ W (_ : Below w.heap.size w W), Calls Tryd.prog 82 #[.slice A n c, .slice A' m d] W (ProdRes (a - b) W) := fun W hW =>
    (diff_any A A' n c m d w.heap.size w.heap.size _ _ W (ha.below hW) (hb.below hW) hW.size hW.size hn hmn (by rw [val_digs, val_digs]; exact hab)).mono fun e w' ⟨zs, h1, h2, _⟩ => ⟨zs, h1, by rw [h2, val_digs, val_digs]⟩
  have HU : ∀ A k c zs W, Lim W W.heap.size A k c zs → val zs = a - b → Calls Tryd.prog 77 #[.bool true, .slice A k c] W (RetInt W (zOf true a + zOf false b)) := fun A k c zs W h hv => by
    have := build_any true A k c W.heap.size zs W h (Nat.le_refl _)
    rw [hv, show zOf true (a - b) = zOf true a + zOf false b by unfold zOf; simp <;> omega] at this
    exact this
  generalize cmpN (a : Int) (b : Int) = t at *
  have HP' := Lib.hid HP
  have HU' := Lib.hid HU
  have HO' := Lib.hid HO
  clear HP HU HO ha hb hab
  obtain ⟨HB0, P00, Q00, R00⟩ := frame21 w (.bool true) (.slice A n c) (.bool false) (.slice A' m d)
  go_enter Tryd.func72, Tryd.ntmps72
  go_wp2_with fail
  refine (HO'.out _ HB0).mono ?_
  rintro e w0 ⟨rfl, hd0⟩
  have HB := HB0.trans (hd0.below _)
  have P0 := P00.after (hd0.below _)
  have Q0 := Q00.after (hd0.below _)
  have R0 := R00.after (hd0.below _)
  go_wp2_with fail
  go_region_held3 (fun W => W.cell? ⟨w.heap.size, 0, none⟩ = some (.bool true) ∧ W.cell? ⟨w.heap.size, 1, none⟩ = some (.slice A n c) ∧ W.cell? ⟨w.heap.size + 1, 0, none⟩ = some (.bool false) ∧ W.cell? ⟨w.heap.size + 1, 1, none⟩ = some (.slice A' m d)) (first | exact ⟨P2.1, P2.2.1, Q2.1, Q2.2.1⟩ | exact ⟨P1.1, P1.2.1, Q1.1, Q1.2.1⟩ | exact ⟨P0.1, P0.2.1, Q0.1, Q0.2.1⟩ | exact ⟨(P2.far2 (by omega) _ _).1, (P2.far2 (by omega) _ _).2.1, (Q2.far2 (by omega) _ _).1, (Q2.far2 (by omega) _ _).2.1⟩)
    (first | (go_at_call 82; refine (HP'.out _ ?_).mono ?_; (first | exact HB | exact HB.drew | exact Below.drewN' HB _); rintro e w1 ⟨zs, ⟨A1, n1, c1, rfl, hl1, hb1⟩, hv1⟩; have B1 := Below.trans (by first | exact HB | exact HB.drew | exact Below.drewN' HB _) (hb1.mono HB.size); have P1 := Slot2.after (by first | exact P0 | exact P0.drew | exact P0.drewN _) hb1; have Q1 := Slot2.after (by first | exact Q0 | exact Q0.drew | exact Q0.drewN _) hb1; have R1 := Slot2.after (by first | exact R0 | exact R0.drew | exact R0.drewN _) hb1; have hv1' := Lib.hid hv1; clear hv1) | (go_at_call 77; refine (HU'.out _ _ _ _ _ hl1 hv1'.out).mono ?_; rintro e w2 ⟨neg2, A2, n2, c2, rfl, hi2, hb2⟩; have P2 := P1.after hb2; have Q2 := Q1.after hb2; obtain ⟨k0, k1, f0, f1, _⟩ := R1.after hb2))
  go_wp2
  exact bodyPost_ret (v := .agg #[.bool neg2, .slice A2 n2 c2]) (by simp [results, Tryd.results72, go_sem, k0, k1]) rfl
    (RetInt.stored hi2 B1 hb2 (by omega) k0 k1 rfl rfl)
end Go.Proofs.YtclmenpclkmfeaaDoor
