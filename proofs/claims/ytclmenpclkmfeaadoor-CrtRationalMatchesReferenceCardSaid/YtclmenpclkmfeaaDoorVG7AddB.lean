/- Contract of integer.addSigned. Contracts of math/bits.Len32, Len64, Len and integer.Bits. Contract of integer.Pow. Contracts of integer.Small and integer.Valid. -/
import Derived.Test.YtclmenpclkmfeaaDoorVG1CrtMap
import Derived.Test.YtclmenpclkmfeaaDoorVMul
import Derived.Test.YtclmenpclkmfeaaDoorVG2Prod
import Derived.Lib.BitFns
import Derived.Lib.Strings
import Derived.Lib.Slices
import Derived.Lib.Small
import Derived.Lib.Walk
import Derived.Test.YtclmenpclkmfeaaDoorVG0Words
import Derived.Test.YtclmenpclkmfeaaDoorVG3Num2
namespace Go.Proofs.YtclmenpclkmfeaaDoor
open Go.RowKit
set_option maxHeartbeats 1000000 in
theorem addS_false_true_lt (A A' : Option Addr) (n c m d a b : Nat) (w : World) (ha : Lim w w.heap.size A n c (digs a)) (hb : Lim w w.heap.size A' m d (digs b)) (_hn : n ≤ 1000000) (hm : m ≤ 1000000) (hab : a < b) :
    Calls Tryd.prog 72 #[.agg #[.bool false, .slice A n c], .agg #[.bool true, .slice A' m d]] w (RetInt w (zOf false a + zOf true b)) := by
  have HO := fun W (hW : Below w.heap.size w W) => order_any A A' n c m d w.heap.size w.heap.size _ _ W (ha.below hW) (hb.below hW)
  rw [ordV_digs] at HO
  have ho : cmpN (a : Int) (b : Int) < 0 := by unfold cmpN; rw [if_pos (by omega)]; omega
  have hmn : n ≤ m := by rw [← ha.len, ← hb.len]; exact digs_len_mono (Nat.le_of_lt hab)
  have HP : ∀ W (_ : Below w.heap.size w W), Calls Tryd.prog 82 #[.slice A' m d, .slice A n c] W (ProdRes (b - a) W) := fun W hW =>
    (diff_any A' A m d n c w.heap.size w.heap.size _ _ W (hb.below hW) (ha.below hW) hW.size hW.size hm hmn (by rw [val_digs, val_digs]; omega)).mono fun e w' ⟨zs, h1, h2, _⟩ => ⟨zs, h1, by rw [h2, val_digs, val_digs]⟩
  have HU : ∀ A k c zs W, Lim W W.heap.size A k c zs → val zs = b - a → Calls Tryd.prog 77 #[.bool true, .slice A k c] W (RetInt W (zOf false a + zOf true b)) := fun A k c zs W h hv => by
    have := build_any true A k c W.heap.size zs W h (Nat.le_refl _)
    rw [hv, show zOf true (b - a) = zOf false a + zOf true b by unfold zOf; simp; omega] at this
    exact this
  generalize cmpN (a : Int) (b : Int) = t at *
  have HP' := Lib.hid HP
  have HU' := Lib.hid HU
  have HO' := Lib.hid HO
  clear HP HU HO ha hb hab
  obtain ⟨HB0, P00, Q00, R00⟩ := frame21 w (.bool false) (.slice A n c) (.bool true) (.slice A' m d)
  go_enter Tryd.func72, Tryd.ntmps72
  go_wp2_with fail
  refine (HO'.out _ HB0).mono ?_
  rintro e w0 ⟨rfl, hd0⟩
  have HB' := HB0.trans (hd0.below _)
  obtain ⟨p0, p1, p2, p3, p4⟩ := P00.after (hd0.below _)
  obtain ⟨q0, q1, q2, q3, q4⟩ := Q00.after (hd0.below _)
  have P1 : Slot2 w0 _ _ _ := ⟨p0, p1, p2, p3, p4⟩
  have Q1 : Slot2 w0 _ _ _ := ⟨q0, q1, q2, q3, q4⟩
  have R1 := R00.after (hd0.below _)
  go_wp2_with fail
  have HB := (((HB'.setCell (p := ⟨w.heap.size, 0, none⟩) (by simp) (.bool true)).setCell (p := ⟨w.heap.size, 1, none⟩) (by simp) (.slice A' m d)).setCell (p := ⟨w.heap.size + 1, 0, none⟩) (by simp) (.bool false)).setCell (p := ⟨w.heap.size + 1, 1, none⟩) (by simp) (.slice A n c)
  have P0 := (P1.set2 (.bool true) (.slice A' m d)).far2 (g' := w.heap.size + 1) (by omega) (.bool false) (.slice A n c)
  have Q0 := (Q1.far2 (g' := w.heap.size) (by omega) (.bool true) (.slice A' m d)).set2 (.bool false) (.slice A n c)
  have R0 := (R1.far2 (g' := w.heap.size) (by omega) (.bool true) (.slice A' m d)).far2 (g' := w.heap.size + 1) (by omega) (.bool false) (.slice A n c)
  clear p0 p1 p2 p3 p4 q0 q1 q2 q3 q4 P1 Q1 R1 HB'
  generalize (((w0.setCell ⟨w.heap.size, 0, none⟩ (.bool true)).setCell ⟨w.heap.size, 1, none⟩ (.slice A' m d)).setCell ⟨w.heap.size + 1, 0, none⟩ (.bool false)).setCell ⟨w.heap.size + 1, 1, none⟩ (.slice A n c) = w3 at *
  go_region_held3 (fun W => W.cell? ⟨w.heap.size, 0, none⟩ = some (.bool true) ∧ W.cell? ⟨w.heap.size, 1, none⟩ = some (.slice A' m d) ∧ W.cell? ⟨w.heap.size + 1, 0, none⟩ = some (.bool false) ∧ W.cell? ⟨w.heap.size + 1, 1, none⟩ = some (.slice A n c)) (first | exact ⟨P2.1, P2.2.1, Q2.1, Q2.2.1⟩ | exact ⟨P1.1, P1.2.1, Q1.1, Q1.2.1⟩ | exact ⟨P0.1, P0.2.1, Q0.1, Q0.2.1⟩ | exact ⟨(P2.far2 (by omega) _ _).1, (P2.far2 (by omega) _ _).2.1, (Q2.far2 (by omega) _ _).1, (Q2.far2 (by omega) _ _).2.1⟩)
    (first | (go_at_call 82; refine (HP'.out _ ?_).mono ?_; (first | exact HB | exact HB.drew | exact Below.drewN' HB _); rintro e w1 ⟨zs, ⟨A1, n1, c1, rfl, hl1, hb1⟩, hv1⟩; have B1 := Below.trans (by first | exact HB | exact HB.drew | exact Below.drewN' HB _) (hb1.mono HB.size); have P1 := Slot2.after (by first | exact P0 | exact P0.drew | exact P0.drewN _) hb1; have Q1 := Slot2.after (by first | exact Q0 | exact Q0.drew | exact Q0.drewN _) hb1; have R1 := Slot2.after (by first | exact R0 | exact R0.drew | exact R0.drewN _) hb1; have hv1' := Lib.hid hv1; clear hv1) | (go_at_call 77; refine (HU'.out _ _ _ _ _ hl1 hv1'.out).mono ?_; rintro e w2 ⟨neg2, A2, n2, c2, rfl, hi2, hb2⟩; have P2 := P1.after hb2; have Q2 := Q1.after hb2; obtain ⟨k0, k1, f0, f1, _⟩ := R1.after hb2))
  go_wp2
  exact bodyPost_ret (v := .agg #[.bool neg2, .slice A2 n2 c2]) (by simp [results, Tryd.results72, go_sem, k0, k1]) rfl
    (RetInt.stored hi2 B1 hb2 (by omega) k0 k1 rfl rfl)
set_option maxHeartbeats 1000000 in
theorem addS_true_false_lt (A A' : Option Addr) (n c m d a b : Nat) (w : World) (ha : Lim w w.heap.size A n c (digs a)) (hb : Lim w w.heap.size A' m d (digs b)) (_hn : n ≤ 1000000) (hm : m ≤ 1000000) (hab : a < b) :
    Calls Tryd.prog 72 #[.agg #[.bool true, .slice A n c], .agg #[.bool false, .slice A' m d]] w (RetInt w (zOf true a + zOf false b)) := by
  have HO := fun W (hW : Below w.heap.size w W) => order_any A A' n c m d w.heap.size w.heap.size _ _ W (ha.below hW) (hb.below hW)
  rw [ordV_digs] at HO
  have ho : cmpN (a : Int) (b : Int) < 0 := by unfold cmpN; rw [if_pos (by omega)]; omega
  have hmn : n ≤ m := by rw [← ha.len, ← hb.len]; exact digs_len_mono (Nat.le_of_lt hab)
  have HP : ∀ W (_ : Below w.heap.size w W), Calls Tryd.prog 82 #[.slice A' m d, .slice A n c] W (ProdRes (b - a) W) := fun W hW =>
    (diff_any A' A m d n c w.heap.size w.heap.size _ _ W (hb.below hW) (ha.below hW) hW.size hW.size hm hmn (by rw [val_digs, val_digs]; omega)).mono fun e w' ⟨zs, h1, h2, _⟩ => ⟨zs, h1, by rw [h2, val_digs, val_digs]⟩
  have HU : ∀ A k c zs W, Lim W W.heap.size A k c zs → val zs = b - a → Calls Tryd.prog 77 #[.bool false, .slice A k c] W (RetInt W (zOf true a + zOf false b)) := fun A k c zs W h hv => by
    have := build_any false A k c W.heap.size zs W h (Nat.le_refl _)
    rw [hv, show zOf false (b - a) = zOf true a + zOf false b by unfold zOf; simp; omega] at this
    exact this
  generalize cmpN (a : Int) (b : Int) = t at *
  have HP' := Lib.hid HP
  have HU' := Lib.hid HU
  have HO' := Lib.hid HO
  clear HP HU HO ha hb hab
  obtain ⟨HB0, P00, Q00, R00⟩ := frame21 w (.bool true) (.slice A n c) (.bool false) (.slice A' m d)
  go_enter Tryd.func72, Tryd.ntmps72
  go_wp2_with fail
  refine (HO'.out _ HB0).mono ?_
  rintro e w0 ⟨rfl, hd0⟩
  have HB' := HB0.trans (hd0.below _)
  obtain ⟨p0, p1, p2, p3, p4⟩ := P00.after (hd0.below _)
  obtain ⟨q0, q1, q2, q3, q4⟩ := Q00.after (hd0.below _)
  have P1 : Slot2 w0 _ _ _ := ⟨p0, p1, p2, p3, p4⟩
  have Q1 : Slot2 w0 _ _ _ := ⟨q0, q1, q2, q3, q4⟩
  have R1 := R00.after (hd0.below _)
  go_wp2_with fail
  have HB := (((HB'.setCell (p := ⟨w.heap.size, 0, none⟩) (by simp) (.bool false)).setCell (p := ⟨w.heap.size, 1, none⟩) (by simp) (.slice A' m d)).setCell (p := ⟨w.heap.size + 1, 0, none⟩) (by simp) (.bool true)).setCell (p := ⟨w.heap.size + 1, 1, none⟩) (by simp) (.slice A n c)
  have P0 := (P1.set2 (.bool false) (.slice A' m d)).far2 (g' := w.heap.size + 1) (by omega) (.bool true) (.slice A n c)
  have Q0 := (Q1.far2 (g' := w.heap.size) (by omega) (.bool false) (.slice A' m d)).set2 (.bool true) (.slice A n c)
  have R0 := (R1.far2 (g' := w.heap.size) (by omega) (.bool false) (.slice A' m d)).far2 (g' := w.heap.size + 1) (by omega) (.bool true) (.slice A n c)
  clear p0 p1 p2 p3 p4 q0 q1 q2 q3 q4 P1 Q1 R1 HB'
  generalize (((w0.setCell ⟨w.heap.size, 0, none⟩ (.bool false)).setCell ⟨w.heap.size, 1, none⟩ (.slice A' m d)).setCell ⟨w.heap.size + 1, 0, none⟩ (.bool true)).setCell ⟨w.heap.size + 1, 1, none⟩ (.slice A n c) = w3 at *
  go_region_held3 (fun W => W.cell? ⟨w.heap.size, 0, none⟩ = some (.bool false) ∧ W.cell? ⟨w.heap.size, 1, none⟩ = some (.slice A' m d) ∧ W.cell? ⟨w.heap.size + 1, 0, none⟩ = some (.bool true) ∧ W.cell? ⟨w.heap.size + 1, 1, none⟩ = some (.slice A n c)) (first | exact ⟨P2.1, P2.2.1, Q2.1, Q2.2.1⟩ | exact ⟨P1.1, P1.2.1, Q1.1, Q1.2.1⟩ | exact ⟨P0.1, P0.2.1, Q0.1, Q0.2.1⟩ | exact ⟨(P2.far2 (by omega) _ _).1, (P2.far2 (by omega) _ _).2.1, (Q2.far2 (by omega) _ _).1, (Q2.far2 (by omega) _ _).2.1⟩)
    (first | (go_at_call 82; refine (HP'.out _ ?_).mono ?_; (first | exact HB | exact HB.drew | exact Below.drewN' HB _); rintro e w1 ⟨zs, ⟨A1, n1, c1, rfl, hl1, hb1⟩, hv1⟩; have B1 := Below.trans (by first | exact HB | exact HB.drew | exact Below.drewN' HB _) (hb1.mono HB.size); have P1 := Slot2.after (by first | exact P0 | exact P0.drew | exact P0.drewN _) hb1; have Q1 := Slot2.after (by first | exact Q0 | exact Q0.drew | exact Q0.drewN _) hb1; have R1 := Slot2.after (by first | exact R0 | exact R0.drew | exact R0.drewN _) hb1; have hv1' := Lib.hid hv1; clear hv1) | (go_at_call 77; refine (HU'.out _ _ _ _ _ hl1 hv1'.out).mono ?_; rintro e w2 ⟨neg2, A2, n2, c2, rfl, hi2, hb2⟩; have P2 := P1.after hb2; have Q2 := Q1.after hb2; obtain ⟨k0, k1, f0, f1, _⟩ := R1.after hb2))
  go_wp2
  exact bodyPost_ret (v := .agg #[.bool neg2, .slice A2 n2 c2]) (by simp [results, Tryd.results72, go_sem, k0, k1]) rfl
    (RetInt.stored hi2 B1 hb2 (by omega) k0 k1 rfl rfl)
end Go.Proofs.YtclmenpclkmfeaaDoor
namespace Go.Proofs.YtclmenpclkmfeaaDoor
open Go.RowKit
theorem len8_size : Lib.len8tab.size = 256 := by decide +kernel
theorem len8_fin : ∀ n : Fin 256, (Lib.len8tab[n.val]'(by rw [len8_size]; exact n.isLt)).toNat = Lib.bitLen n.val ∧ Lib.bitLen n.val ≤ 8 := by decide +kernel
theorem len8_at (y : Int) (h0 : 0 ≤ y) (h1 : y ≤ 255) (hb : y.toNat < Lib.len8tab.size) : (Lib.len8tab[y.toNat]'hb).toNat = Lib.bitLen y.toNat ∧ Lib.bitLen y.toNat ≤ 8 :=
  len8_fin ⟨y.toNat, by omega⟩
theorem wrap64_small (v : Int) (h0 : 0 ≤ v) (h1 : v ≤ 1000) : wrap64 v = v := by unfold wrap64; omega
theorem len8_up (y : Int) (k x : Nat) (h0 : 0 ≤ y) (h1 : y ≤ 255) (hb : y.toNat < Lib.len8tab.size) (hk : k ≤ 64) (hx : Lib.bitLen x = k + Lib.bitLen y.toNat) :
    wrap64 ((k : Int) + wrap64 (((Lib.len8tab[y.toNat]'hb).toNat : Nat) : Int)) = ((Lib.bitLen x : Nat) : Int) := by
  have h := len8_at y h0 h1 hb
  rw [h.1, wrap64_small ((Lib.bitLen y.toNat : Nat) : Int) (by omega) (by omega), wrap64_small _ (by omega) (by omega)]
  omega
theorem len8_down (y : Int) (h0 : 0 ≤ y) (h1 : y ≤ 255) (hb : y.toNat < Lib.len8tab.size) :
    wrap64 (wrap64 (((Lib.len8tab[y.toNat]'hb).toNat : Nat) : Int)) = ((Lib.bitLen y.toNat : Nat) : Int) := by
  have h := len8_at y h0 h1 hb
  rw [h.1, wrap64_small ((Lib.bitLen y.toNat : Nat) : Int) (by omega) (by omega), wrap64_small _ (by omega) (by omega)]
set_option maxHeartbeats 4000000 in
set_option maxRecDepth 100000 in
theorem len32_any (x : Int) (w : World) (h0 : 0 ≤ x) (h1 : x ≤ 4294967295) :
    Calls Tryd.prog 101 #[.int .u32 x] w fun e w' => e = .returned (.int .i64 (Lib.bitLen x.toNat)) ∧ w = w' := by
  have hsz := len8_size
  go_enter Tryd.func101, Tryd.ntmps101
  go_wp2
  all_goals (go_ret; refine ⟨retI ?_, rfl⟩)
  · exact len8_up _ 24 _ (by omega) (by omega) _ (by omega) (by rw [show (x / 65536 / 256).toNat = x.toNat / 16777216 by omega]; exact Lib.bitLen_shift24 x.toNat (by omega) (by omega))
  · exact len8_up _ 16 _ (by omega) (by omega) _ (by omega) (by rw [show (x / 65536).toNat = x.toNat / 65536 by omega]; exact Lib.bitLen_shift16 x.toNat (by omega) (by omega))
  · exact len8_up _ 8 _ (by omega) (by omega) _ (by omega) (by rw [show (x / 256).toNat = x.toNat / 256 by omega]; exact Lib.bitLen_shift8 x.toNat (by omega) (by omega))
  · exact len8_down _ (by omega) (by omega) _
theorem bitLen_spec (x : Nat) (h : x < 18446744073709551616) : x < 2 ^ Lib.bitLen x ∧ (0 < x → 2 ^ (Lib.bitLen x - 1) ≤ x ∧ 0 < Lib.bitLen x) := by
  induction x using Nat.strongRecOn with
  | ind x ih =>
    rcases Nat.eq_zero_or_pos x with h0 | h0
    · subst h0; exact ⟨Nat.two_pow_pos _, fun h => absurd h (by omega)⟩
    · have e := Lib.bitLen_half x (by omega) (by omega)
      obtain ⟨a, b⟩ := ih (x / 2) (by omega) (by omega)
      rw [e, Nat.add_comm, Nat.pow_succ]
      refine ⟨by omega, fun _ => ⟨?_, by omega⟩⟩
      rw [Nat.add_sub_cancel]
      rcases Nat.eq_zero_or_pos (x / 2) with h1 | h1
      · have e0 : Lib.bitLen (x / 2) = 0 := by rw [h1]; rfl
        rw [e0]; omega
      · obtain ⟨b1, b2⟩ := b h1
        have e1 : Lib.bitLen (x / 2) = (Lib.bitLen (x / 2) - 1) + 1 := by omega
        rw [e1, Nat.pow_succ]; omega
/-- The number of binary digits of a number. -/
def IsBits (v B : Nat) : Prop := v < 2 ^ B ∧ (v = 0 → B = 0) ∧ (0 < v → 2 ^ (B - 1) ≤ v ∧ 0 < B)
theorem digs_top {v k : Nat} (h : (digs v).length = k + 1) : v = val ((digs v).take k) + 4294967296 ^ k * (digs v).getD k 0 ∧ (digs v).getD k 0 ≠ 0 := by
  have h1 := val_take_succ (digs v) k
  rw [List.take_of_length_le (by omega), val_digs] at h1
  refine ⟨h1, ?_⟩
  have hne : digs v ≠ [] := by intro e; rw [e] at h; simp at h
  have := digs_last hne
  rw [List.getLast_eq_getElem] at this
  rw [List.getD_eq_getElem?_getD, List.getElem?_eq_getElem (by omega)]
  simpa [h] using this
theorem isBits_digs {v k x : Nat} (h : (digs v).length = k + 1) (hx : x = (digs v).getD k 0) : IsBits v (32 * k + Lib.bitLen x) := by
  obtain ⟨hv, hne⟩ := digs_top h
  rw [← hx] at hv hne
  have hxl : x < 4294967296 := by
    rw [hx, List.getD_eq_getElem?_getD, List.getElem?_eq_getElem (by omega)]
    exact limbs_digs v _ (List.getElem_mem _)
  obtain ⟨a, b⟩ := bitLen_spec x (by omega)
  obtain ⟨b1, b2⟩ := b (by omega)
  have hl := val_lt (limbs_take (limbs_digs v) k)
  rw [List.length_take, Nat.min_eq_left (by omega)] at hl
  have hp : (4294967296 : Nat) ^ k = 2 ^ (32 * k) := by rw [Nat.pow_mul]
  rw [hp] at hv hl
  have hP := Nat.two_pow_pos (32 * k)
  have m1 : 2 ^ (32 * k) * (x + 1) ≤ 2 ^ (32 * k) * 2 ^ Lib.bitLen x := Nat.mul_le_mul_left _ a
  have m2 : 2 ^ (32 * k) * 2 ^ (Lib.bitLen x - 1) ≤ 2 ^ (32 * k) * x := Nat.mul_le_mul_left _ b1
  rw [Nat.mul_add, ← Nat.pow_add] at m1
  rw [← Nat.pow_add] at m2
  refine ⟨by omega, fun e => ?_, fun _ => ⟨?_, by omega⟩⟩
  · have h0 : 0 < 2 ^ (32 * k) * x := Nat.mul_pos hP (by omega)
    omega
  · rw [show 32 * k + Lib.bitLen x - 1 = 32 * k + (Lib.bitLen x - 1) by omega]; omega
set_option maxHeartbeats 1000000 in
theorem bits_any (neg : Bool) (A : Option Addr) (n c : Nat) (z : Int) (w : World) (ha : IsInt w neg A n c z) (hn : n ≤ 1000000) :
    Calls Tryd.prog 84 #[.agg #[.bool neg, .slice A n c]] w fun e w' => ∃ B : Nat, (e = .returned (.int .i64 (B : Int)) ∧ IsBits z.natAbs B) ∧ Below w.heap.size w w' := by
  have T := fun W (hW : Below w.heap.size w W) => trim_digs A n c w.heap.size z.natAbs W (ha.lim.below hW)
  have hb := (Below.refl w.heap.size w).alloc (Nat.le_refl _) (.cells #[.bool neg, .slice A n c] 28)
  have T' := Lib.hid T
  clear T
  rcases Nat.eq_zero_or_pos n with h0 | h0
  · subst h0
    have hz : z.natAbs = 0 := by rw [← digs_len_zero]; exact ha.lim.len
    have HZ := Lib.hid hz
    clear hz
    go_enter Tryd.func84, Tryd.ntmps84
    go_wp2_with fail
    refine (T'.out _ hb).mono ?_
    rintro e w1 ⟨rfl, rfl⟩
    go_wp2
    go_ret
    exact ⟨0, ⟨rfl, by rw [HZ.out]; exact ⟨by simp, fun _ => rfl, fun h => absurd h (by omega)⟩⟩, hb⟩
  · obtain ⟨n, rfl⟩ : ∃ k, n = k + 1 := ⟨n - 1, by omega⟩
    obtain ⟨ad, rfl, _, x, hx, hxl, hcx⟩ := (ha.lim.below hb).at_ (show n < n + 1 by omega)
    have b1 : ((n : Int) + 1 == 0) = false := by simp; omega
    have HS := Lib.hid (isBits_digs ha.lim.len hx.out)
    have hL := Lib.bitLen_le x 32 (by omega) (by omega)
    have HL := fun W => len32_any (x : Int) W (by omega) (by omega)
    rw [Int.toNat_natCast] at HL
    generalize Lib.bitLen x = L at *
    have HL' := Lib.hid HL
    clear HL
    go_enter Tryd.func84, Tryd.ntmps84
    go_wp2_with fail
    refine (T'.out _ hb).mono ?_
    rintro e w1 ⟨rfl, rfl⟩
    go_wp2_with fail
    refine (HL'.out _).mono ?_
    rintro e w1 ⟨rfl, rfl⟩
    go_wp2
    go_ret
    exact ⟨32 * n + L, ⟨retI (by omega), HS.out⟩, hb⟩
end Go.Proofs.YtclmenpclkmfeaaDoor
namespace Go.Proofs.YtclmenpclkmfeaaDoor
open Go.RowKit
/-- An integer and OK come back. -/
def RetIE (w : World) (z : Int) (k : Int) (e : Ending) (w' : World) : Prop := ∃ neg A n c, e = .returned (.tuple #[.agg #[.bool neg, .slice A n c], .int .i64 k]) ∧ IsInt w' neg A n c z ∧ Below w.heap.size w w'
theorem isInt_zero {A : Option Addr} {c : Nat} (w : World) (hc : c ≤ 9223372036854775807) : IsInt w false A 0 c 0 := ⟨rfl, by rw [show (0 : Int).natAbs = 0 from rfl, digs_zero]; exact Lim.none_ hc⟩
theorem and_one_i64 (q : Nat) (hq : q < 9223372036854775808) : bits .and .i64 (q : Int) 1 = ((q % 2 : Nat) : Int) := by
  have h1 : (BitVec.ofInt 64 (q : Int)).toNat = q := by
    rw [BitVec.ofInt_natCast, BitVec.toNat_ofNat]; exact Nat.mod_eq_of_lt (by omega)
  show IntKind.i64.wrap ((BitVec.ofInt 64 (q : Int) &&& BitVec.ofInt 64 1).toNat : Int) = _
  rw [BitVec.toNat_and, h1, show (BitVec.ofInt 64 1).toNat = 1 from rfl, Nat.and_one_is_mod, IntKind.wrap_i64]
  omega
theorem IsInt.len_le {w : World} {neg : Bool} {A : Option Addr} {n c N : Nat} {z : Int} (h : IsInt w neg A n c z) (hz : (digs z.natAbs).length ≤ N) : n ≤ N := by rw [← h.lim.len]; exact hz
end Go.Proofs.YtclmenpclkmfeaaDoor
namespace Go.Proofs.YtclmenpclkmfeaaDoor
open Go.RowKit
/-- What Valid answers for whatever limbs. -/
def validV (neg : Bool) (xs : List Nat) : Bool := if xs.length = 0 then !neg else decide (xs.getD (xs.length - 1) 0 ≠ 0)
end Go.Proofs.YtclmenpclkmfeaaDoor
