/- Contract of integer.DivMod for numbers of at most two limbs, and for the divisor 0. Contract of integer.Gcd, from contracts of divide. Contract of integer.divideLong, and of divide at any sizes. Contract of integer.divide at any sizes. Contract of integer.Root, from contracts of divide. More contracts in the form that the laws' walks use: division, and the reference's operations. Contract of integer.extOfWords. Sizes of fractions. -/
import Derived.Test.YtlpoboikompjfaaGreatDoorVDivModA
import Derived.Test.YtlpoboikompjfaaGreatDoorVDivModB
import Derived.Test.YtlpoboikompjfaaGreatDoorVDivModC
import Derived.Test.YtlpoboikompjfaaGreatDoorVDivModD
import Derived.Test.YtlpoboikompjfaaGreatDoorVG10DivMod
import Derived.Test.YtlpoboikompjfaaGreatDoorVG3DlOnce
import Derived.Test.YtlpoboikompjfaaGreatDoorVG7AddB
import Derived.Test.YtlpoboikompjfaaGreatDoorVG12Sz
import Derived.Test.YtlpoboikompjfaaGreatDoorVG4RAdd
import Derived.Test.YtlpoboikompjfaaGreatDoorVG0RatMath
namespace Go.Proofs.YtlpoboikompjfaaGreatDoor
open Go.RowKit
/-- DivMod, from a contract of divide at the same sizes. -/
theorem dm_any (neg neg' : Bool) (A A' : Option Addr) (n c m d : Nat) (a b : Int) (w : World) (ha : IsInt w neg A n c a) (hb : IsInt w neg' A' m d b) (hb0 : b ≠ 0) (hm : m ≤ 1000000)
    (HD : ∀ W, Below w.heap.size w W → Calls Tryz.prog 106 #[.slice A n n, .slice A' m m] W (DivRes W (a.natAbs / b.natAbs) (a.natAbs % b.natAbs))) :
    Calls Tryz.prog 63 #[.agg #[.bool neg, .slice A n c], .agg #[.bool neg', .slice A' m d]] w (RetDM w (a / b) (a % b)) := by
  cases neg <;> cases neg'
  · exact dm_false_false_0 A A' n c m d a b _ _ w ha hb hb0 rfl rfl hm HD
  · exact dm_false_true_0 A A' n c m d a b _ _ w ha hb hb0 rfl rfl hm HD
  · rcases Nat.eq_zero_or_pos (a.natAbs % b.natAbs) with h | h
    · exact dm_true_false_z A A' n c m d a b _ _ w ha hb hb0 rfl rfl hm h HD
    · exact dm_true_false_p A A' n c m d a b _ _ w ha hb hb0 rfl rfl hm h HD
  · rcases Nat.eq_zero_or_pos (a.natAbs % b.natAbs) with h | h
    · exact dm_true_true_z A A' n c m d a b _ _ w ha hb hb0 rfl rfl hm h HD
    · exact dm_true_true_p A A' n c m d a b _ _ w ha hb hb0 rfl rfl hm h HD
theorem dmW_any (neg neg' : Bool) (A A' : Option Addr) (n c m d : Nat) (a b : Int) (w : World) (ha : IsInt w neg A n c a) (hb : IsInt w neg' A' m d b) (hb0 : b ≠ 0) (hn : n ≤ 2) (hm : m ≤ 2) :
    Calls Tryz.prog 63 #[.agg #[.bool neg, .slice A n c], .agg #[.bool neg', .slice A' m d]] w (RetDM w (a / b) (a % b)) :=
  dm_any neg neg' A A' n c m d a b w ha hb hb0 (by omega) fun W hW => divW_any A A' n n m m a.natAbs b.natAbs W ((ha.lim.tight.below hW).more hW.size) ((hb.lim.tight.below hW).more hW.size) hn hm (by omega)
end Go.Proofs.YtlpoboikompjfaaGreatDoor
namespace Go.Proofs.YtlpoboikompjfaaGreatDoor
open Go.RowKit
/-- divide serves up to L limbs. -/
def DivOk (L : Nat) : Prop := ∀ (A A' : Option Addr) (n c m d a b : Nat) (W : World), Lim W W.heap.size A n c (digs a) → Lim W W.heap.size A' m d (digs b) → n ≤ L → m ≤ L → 0 < b →
  Calls Tryz.prog 106 #[.slice A n c, .slice A' m d] W (DivRes W (a / b) (a % b))
theorem divOk2 : DivOk 2 := fun A A' n c m d a b W ha hb hn hm hb0 => divW_any A A' n c m d a b W ha hb hn hm hb0
set_option maxHeartbeats 2000000 in
theorem gcd_of (L : Nat) (HD : DivOk L) (hL : L ≤ 1000000) (neg neg' : Bool) (A A' : Option Addr) (n c m d : Nat) (a b : Int) (w : World) (ha : IsInt w neg A n c a) (hb : IsInt w neg' A' m d b) (hn : n ≤ L) (hm : m ≤ L) :
    Calls Tryz.prog 61 #[.agg #[.bool neg, .slice A n c], .agg #[.bool neg', .slice A' m d]] w (RetInt w ((Nat.gcd a.natAbs b.natAbs : Nat) : Int)) := by
  have T1 := fun W (hW : Below w.heap.size w W) => trim_digs A n c w.heap.size a.natAbs W (ha.lim.below hW)
  have T2 := fun W (hW : Below w.heap.size w W) => trim_digs A' m d w.heap.size b.natAbs W (hb.lim.below hW)
  have hla := ha.lim.tight
  have hlb := hb.lim.tight
  have HD' := Lib.hid HD
  have T1' := Lib.hid T1
  have T2' := Lib.hid T2
  clear T1 T2 HD ha hb
  generalize a.natAbs = va at *
  generalize b.natAbs = vb at *
  obtain ⟨HB, P0, Q0, R0⟩ := frame21 w (.bool neg) (.slice A n c) (.bool neg') (.slice A' m d)
  have ⟨c0, c1, _, _, _⟩ := P0
  have ⟨c2, c3, _, _, _⟩ := Q0
  go_enter Tryz.func61, Tryz.ntmps61
  go_wp2_with fail
  go_region_held3 (fun W => W.cell? ⟨w.heap.size, 0, none⟩ = some (.bool neg) ∧ W.cell? ⟨w.heap.size, 1, none⟩ = some (.slice A n c) ∧ W.cell? ⟨w.heap.size + 1, 0, none⟩ = some (.bool neg') ∧ W.cell? ⟨w.heap.size + 1, 1, none⟩ = some (.slice A' m d)) (first | exact ⟨P0.1, P0.2.1, Q0.1, Q0.2.1⟩)
    (first | (go_at_call 101; (with_reducible refine (T1'.out _ ?_).mono ?_); (first | exact HB | exact HB.drew | exact Below.drewN' HB _); rintro e w1 ⟨rfl, rfl⟩) | (go_at_call 101; (with_reducible refine (T2'.out _ ?_).mono ?_); (first | exact HB | exact HB.drew | exact Below.drewN' HB _); rintro e w1 ⟨rfl, rfl⟩))
  go_wp2
  go_loopg [5, 6] vb (fun g s t wr => ∃ (A5 A6 : Option Addr) (n5 c5 n6 c6 x : Nat), s = .slice A5 n5 c5 ∧ t = .slice A6 n6 c6 ∧ Lim wr wr.heap.size A5 n5 c5 (digs x) ∧ Lim wr wr.heap.size A6 n6 c6 (digs g) ∧ n5 ≤ L ∧ n6 ≤ L ∧ Hid (Nat.gcd x g = Nat.gcd va vb) ∧ Below w.heap.size w wr ∧ Slot2 wr (w.heap.size + 1 + 1) (.bool false) (.slice none 0 0))
  case atStart =>
    refine ⟨A, A', n, n, m, m, va, rfl, rfl, ?_, ?_, hn, hm, rfl, ?_, ?_⟩
    · exact ((hla.below HB).more HB.size).drew
    · exact ((hlb.below HB).more HB.size).drew
    · exact HB.drew
    · exact R0.drew
  case round =>
    obtain ⟨A5, A6, n5, c5, n6, c6, x, rfl, rfl, h5, h6, hn5, hn6, hg, BW, RW⟩ := hrel
    rcases Nat.eq_zero_or_pos gk with h0 | h0
    · subst h0
      have hz : n6 = 0 := by rw [← h6.len, digs_zero]; rfl
      subst hz
      have hgx : x = Nat.gcd va vb := by rw [← hg.out, Nat.gcd_zero_right]
      have HGX := Lib.hid hgx
      clear hgx
      go_wp2_with fail
      refine (clone_any A5 n5 c5 _ (digs x) _ h5 (Nat.le_refl _) (by omega)).mono ?_
      rintro e w1 ⟨A1, n1, c1, rfl, hl1, hb1⟩
      have R1 := RW.after hb1
      have B1 := BW.trans (hb1.mono BW.size)
      go_wp2_with fail
      refine (build_val false A1 n1 c1 x (x : Int) (digs x) _ hl1 (val_digs x) rfl).mono ?_
      rintro e w2 ⟨neg2, A2, n2, c2, rfl, hi2, hb2⟩
      obtain ⟨k0, k1, f0, f1, _⟩ := R1.after hb2
      rw [HGX.out] at hi2
      go_wp2
      exact bodyPost_ret (v := .agg #[.bool neg2, .slice A2 n2 c2]) (by simp [results, Tryz.results61, go_sem, k0, k1]) rfl
        (RetInt.stored hi2 B1 hb2 (by omega) k0 k1 rfl rfl)
    · have hz : 0 < n6 := by rw [← h6.len]; exact digs_len_pos h0
      by_cases hw : n5 ≤ 2 ∧ n6 ≤ 2
      · have hx2 : x < 18446744073709551616 := lt_two (by rw [h5.len]; exact hw.1)
        have hg2 : gk < 18446744073709551616 := lt_two (by rw [h6.len]; exact hw.2)
        have HW := words_yes A5 A6 n5 c5 n6 c6 _ _ _ _ wr h5 h6 hw.1 hw.2
        rw [val_digs, val_digs] at HW
        have HC := fun W => gcdWords_any x gk W hx2 hg2
        rw [hg.out] at HC
        have hgl : Nat.gcd va vb < 18446744073709551616 := by
          rw [← hg.out]
          exact Nat.lt_of_le_of_lt (Nat.le_of_dvd h0 (Nat.gcd_dvd_right x gk)) hg2
        generalize Nat.gcd va vb = G at *
        have HW' := Lib.hid HW
        have HC' := Lib.hid HC
        clear HW HC
        go_wp2_with fail
        refine HW'.out.mono ?_
        rintro e w1 ⟨rfl, hd1⟩
        go_wp2_with fail
        refine (HC'.out _).mono ?_
        rintro e w2 ⟨rfl, hd2⟩
        have hd := hd1.trans hd2
        have B2 := BW.trans (hd.below _)
        have R2 := RW.after (hd.below _)
        go_wp2_with fail
        refine (ofWord_any G _ hgl).mono ?_
        rintro e w3 ⟨A3, n3, c3, rfl, hl3, hb3⟩
        have B3 := B2.trans (hb3.mono B2.size)
        have R3 := R2.after hb3
        go_wp2_with fail
        refine (build_val false A3 n3 c3 G (G : Int) (digs G) _ hl3 (val_digs G) rfl).mono ?_
        rintro e w4 ⟨neg4, A4, n4, c4, rfl, hi4, hb4⟩
        obtain ⟨k0, k1, f0, f1, _⟩ := R3.after hb4
        go_wp2
        exact bodyPost_ret (v := .agg #[.bool neg4, .slice A4 n4 c4]) (by simp [results, Tryz.results61, go_sem, k0, k1]) rfl
          (RetInt.stored hi4 B3 hb4 (by omega) k0 k1 rfl rfl)
      · have HW' := Lib.hid (words_no A5 A6 n5 c5 n6 c6 _ _ _ _ wr h5 h6 hw)
        clear hw
        go_wp2_with fail
        refine HW'.out.mono ?_
        rintro e w1 ⟨⟨x1, y1, rfl⟩, hd1⟩
        have h5' := (h5.drawn hd1).more (B' := w1.heap.size) (by rw [hd1.size]; exact Nat.le_refl _)
        have h6' := (h6.drawn hd1).more (B' := w1.heap.size) (by rw [hd1.size]; exact Nat.le_refl _)
        have B1 := BW.trans (hd1.below _)
        have R1 := RW.after (hd1.below _)
        go_wp2_with fail
        refine (HD'.out A5 A6 n5 c5 n6 c6 x gk _ h5' h6' hn5 hn6 h0).mono ?_
        rintro e w2 ⟨A7, n7, c7, us, A8, n8, c8, vs, rfl, hl7, hl8, hv7, hv8, hn7, hb2⟩
        have HT := Lib.hid (trim_val A8 n8 c8 _ (x % gk) _ vs w2 hl8 hv8 rfl)
        have h8 := hl8.trimv hv8 rfl
        have h9 := (h6'.below hb2).more hb2.size
        have B2 := B1.trans (hb2.mono B1.size)
        have R2 := R1.after hb2
        have hlt := Nat.mod_lt x h0
        have hk : (digs (x % gk)).length ≤ n6 := by rw [← h6.len]; exact digs_len_mono (Nat.le_of_lt hlt)
        have hgg : Nat.gcd gk (x % gk) = Nat.gcd va vb := by rw [← hg.out, Nat.gcd_comm x gk, Nat.gcd_rec gk x, Nat.gcd_comm]
        have HGG := Lib.hid hgg
        clear hv7 hv8 hgg
        generalize x % gk = r at *
        obtain ⟨k, hk2⟩ : ∃ k, k = (digs r).length := ⟨_, rfl⟩
        rw [← hk2] at HT h8 hk
        clear hk2
        go_wp2_with fail
        refine HT.out.mono ?_
        rintro e w3 ⟨rfl, rfl⟩
        go_wp2
        go_roundg r
        case measure => omega
        case rel => exact ⟨A6, A8, n6, c6, k, k, gk, rfl, rfl, h9, h8, hn6, by omega, HGG.out, B2, R2⟩
end Go.Proofs.YtlpoboikompjfaaGreatDoor
namespace Go.Proofs.YtlpoboikompjfaaGreatDoor
open Go.RowKit
theorem lz_any (x : Nat) (w : World) (h : x < 4294967296) : Calls Tryz.prog 147 #[.int .u32 (x : Int)] w fun e w' => e = .returned (.int .i64 (32 - (Lib.bitLen x : Int))) ∧ w = w' := by
  have HL := len32_any (x : Int) w (by omega) (by omega)
  rw [Int.toNat_natCast] at HL
  have hb : Lib.bitLen x ≤ 1000 := by
    have h1 := bitLen_spec x (by omega)
    rcases Nat.eq_zero_or_pos x with h0 | h0
    · subst h0; decide
    · have h2 := (h1.2 h0).1
      rcases Nat.lt_or_ge 1000 (Lib.bitLen x) with h3 | h3
      · exfalso
        have : 2 ^ 32 ≤ 2 ^ (Lib.bitLen x - 1) := Nat.pow_le_pow_right (by omega) (by omega)
        omega
      · exact h3
  generalize Lib.bitLen x = B at *
  have HL' := Lib.hid HL
  clear HL
  go_enter Tryz.func147, Tryz.ntmps147
  go_wp2_with fail
  refine HL'.out.mono ?_
  rintro e w1 ⟨rfl, rfl⟩
  go_wp2
  go_ret
  exact ⟨rfl, rfl⟩
/-- A divisor, shifted so that its highest bit is set. -/
theorem norm_row {b s m : Nat} {R : List Nat} (hb : (digs b).length = m + 2) (hs : s = 32 - Lib.bitLen ((digs b).getD (m + 1) 0)) (hR : R.length = m + 3) (hL : Limbs R) (hv : val R = b * 2 ^ s) :
    s < 32 ∧ val (R.take (m + 2)) = b * 2 ^ s ∧ 2147483648 ≤ (R.take (m + 2)).getD (m + 1) 0 := by
  obtain ⟨e1, hne⟩ := digs_top hb
  have l1 := val_lt (limbs_take (limbs_digs b) (m + 1))
  rw [List.length_take, Nat.min_eq_left (by omega)] at l1
  have ht := getD_lt (limbs_digs b) (m + 1)
  have e2 := val_take_succ R (m + 2)
  rw [List.take_of_length_le (by omega)] at e2
  have e3 : val (R.take (m + 2)) = _ := val_take_succ R (m + 1)
  have l3 := val_lt (limbs_take hL (m + 1))
  rw [List.length_take, Nat.min_eq_left (by omega)] at l3
  have eg : (R.take (m + 2)).getD (m + 1) 0 = R.getD (m + 1) 0 := getD_take (by omega)
  rw [eg]
  generalize (digs b).getD (m + 1) 0 = t at *
  obtain ⟨p1, p2⟩ := bitLen_spec t (by omega)
  obtain ⟨p2, p3⟩ := p2 (by omega)
  have p4 : Lib.bitLen t ≤ 32 := by
    rcases Nat.lt_or_ge 32 (Lib.bitLen t) with h | h
    · exfalso
      have : 2 ^ 32 ≤ 2 ^ (Lib.bitLen t - 1) := Nat.pow_le_pow_right (by omega) (by omega)
      omega
    · exact h
  generalize Lib.bitLen t = L at *
  have hs32 : s < 32 := by omega
  have q1 : 2 ^ L * 2 ^ s = 4294967296 := by rw [← Nat.pow_add, show L + s = 32 by omega]
  have q2 : 2 ^ (L - 1) * 2 ^ s = 2147483648 := by rw [← Nat.pow_add, show L - 1 + s = 31 by omega]
  have eP : 4294967296 ^ (m + 2) = 4294967296 ^ (m + 1) * 4294967296 := Nat.pow_succ _ _
  generalize 4294967296 ^ (m + 1) = P at *
  generalize val ((digs b).take (m + 1)) = lo at *
  generalize 2 ^ s = S at *
  have u1 : b < P * 2 ^ L := by
    have : P * (t + 1) ≤ P * 2 ^ L := Nat.mul_le_mul_left _ p1
    rw [Nat.mul_add] at this
    omega
  have hS : 0 < S := by
    rcases Nat.eq_zero_or_pos S with h | h
    · subst h; omega
    · exact h
  have u2 : b * S < P * 4294967296 := by
    have : b * S < P * 2 ^ L * S := Nat.mul_lt_mul_of_pos_right u1 hS
    rwa [Nat.mul_assoc, q1] at this
  have u3 : P * 2147483648 ≤ b * S := by
    have h1 : P * 2 ^ (L - 1) ≤ b := by
      have : P * 2 ^ (L - 1) ≤ P * t := Nat.mul_le_mul_left _ p2
      omega
    have h2 := Nat.mul_le_mul_right S h1
    rwa [Nat.mul_assoc, q2] at h2
  have z : R.getD (m + 2) 0 = 0 := by
    rcases Nat.eq_zero_or_pos (R.getD (m + 2) 0) with h | h
    · exact h
    · exfalso
      have : P * 4294967296 * 1 ≤ P * 4294967296 * R.getD (m + 2) 0 := Nat.mul_le_mul_left _ h
      rw [eP] at e2
      omega
  rw [z, Nat.mul_zero, Nat.add_zero] at e2
  refine ⟨hs32, by omega, ?_⟩
  rcases Nat.lt_or_ge (R.getD (m + 1) 0) 2147483648 with h | h
  · exfalso
    have : P * (R.getD (m + 1) 0 + 1) ≤ P * 2147483648 := Nat.mul_le_mul_left _ h
    rw [Nat.mul_add] at this
    omega
  · exact h
/-- One step down of the long division, in numbers. -/
theorem long_step {vp P A D q r VQ X v : Nat} (hA : A = D * q + r) (hr : r < D) (hp : vp < P) (hv : v = vp + P * A) (hX : v + D * (P * 4294967296) * VQ = X) :
    (vp + P * r) + D * P * (q + 4294967296 * VQ) = X ∧ vp + P * r < P * D := by
  subst hA hv
  refine ⟨?_, ?_⟩
  · rw [← hX]
    simp only [Nat.mul_add, Nat.mul_assoc, Nat.mul_comm, Nat.mul_left_comm]
    omega
  · have : P * (r + 1) ≤ P * D := Nat.mul_le_mul_left _ hr
    rw [Nat.mul_add] at this
    omega
theorem split3 (R : List Nat) (j m : Nat) : R = R.take j ++ ((R.drop j).take m ++ R.drop (j + m)) := by
  rw [← List.drop_drop, List.take_append_drop, List.take_append_drop]
theorem take_mid (R : List Nat) (j m : Nat) (h : j ≤ R.length) : val (R.take (j + m)) = val (R.take j) + 4294967296 ^ j * val ((R.drop j).take m) := by
  have := val_append (R.take j) ((R.drop j).take m)
  rw [List.length_take, Nat.min_eq_left h] at this
  rw [← this, List.take_add]
/-- How far the long division is: j limbs of the quotient are still to come. -/
structure LongInv (X V N L k : Nat) (R Q : List Nat) (j : Nat) : Prop where
  lr : R.length = L + 1
  lq : Q.length = k + 1
  limr : Limbs R
  limq : Limbs Q
  sum : val (R.take (j + N)) + V * 4294967296 ^ j * val (Q.drop j) = X
  lt : val (R.take (j + N)) < 4294967296 ^ j * V
theorem LongInv.start {X V N L k : Nat} {R Q : List Nat} (hR : Limbs R) (hr : R.length = L + 1) (hQ : Limbs Q) (hq : Q.length = k + 1) (hL : L = N + k) (hv : val R = X) (hx : X < 4294967296 ^ (k + 1) * V) : LongInv X V N L k R Q (k + 1) := by
  have e : val (R.take (k + 1 + N)) = X := by rw [List.take_of_length_le (by omega), hv]
  have e2 : val (Q.drop (k + 1)) = 0 := by rw [List.drop_of_length_le (by omega)]; rfl
  exact ⟨hr, hq, hR, hQ, by rw [e, e2, Nat.mul_zero, Nat.add_zero], by rw [e]; exact hx⟩
theorem long_lt {a b s N k x lo : Nat} (ha : a < 4294967296 ^ (N + 1 + k)) (hb : b * 2 ^ s = lo + 4294967296 ^ N * x) (hx : 2147483648 ≤ x) (hs : s < 32) : a * 2 ^ s < 4294967296 ^ (k + 1) * (b * 2 ^ s) := by
  have h1 : 2 ^ s ≤ 2147483648 := (Nat.pow_le_pow_right (show 0 < 2 by omega) (show s ≤ 31 by omega) : 2 ^ s ≤ 2 ^ 31)
  have h2 : 0 < 2 ^ s := Nat.two_pow_pos _
  rw [hb]
  have e : 4294967296 ^ (N + 1 + k) = 4294967296 ^ (k + 1) * 4294967296 ^ N := by rw [← Nat.pow_add]; congr 1; omega
  rw [e] at ha
  generalize 4294967296 ^ (k + 1) = P at *
  generalize 4294967296 ^ N = T at *
  generalize 2 ^ s = S at *
  have h3 : a * S < P * T * S := Nat.mul_lt_mul_of_pos_right ha h2
  have h4 : P * T * S ≤ P * T * x := Nat.mul_le_mul_left _ (by omega)
  have h5 : P * (T * x) ≤ P * (lo + T * x) := Nat.mul_le_mul_left _ (by omega)
  rw [Nat.mul_assoc P T x] at h4
  omega
/-- What divideOnce needs, out of how far it is. -/
theorem LongInv.once {X V N L k : Nat} {R Q : List Nat} {j : Nat} (h : LongInv X V N L k R Q (j + 1)) (hj : j ≤ k) (hL : L = N + k) : (R.take j).length = j ∧ ((R.drop j).take N).length = N ∧ 0 < (R.drop (j + N)).length ∧
    val ((R.drop j).take N) + 4294967296 ^ N * (R.drop (j + N)).getD 0 0 < 4294967296 * V ∧ val (R.take (j + 1 + N)) = val (R.take j) + 4294967296 ^ j * (val ((R.drop j).take N) + 4294967296 ^ N * (R.drop (j + N)).getD 0 0) := by
  have hl := h.lr
  have e : val (R.take (j + 1 + N)) = val (R.take j) + 4294967296 ^ j * (val ((R.drop j).take N) + 4294967296 ^ N * (R.drop (j + N)).getD 0 0) := by
    rw [show j + 1 + N = j + N + 1 by omega, val_take_succ, take_mid _ _ _ (by omega), getD_drop, Nat.add_zero, Nat.pow_add, Nat.mul_add, Nat.mul_assoc, Nat.add_assoc]
  refine ⟨by rw [List.length_take]; omega, by rw [List.length_take, List.length_drop]; omega, by rw [List.length_drop]; omega, ?_, e⟩
  have hlt := h.lt
  rw [e, Nat.pow_succ, Nat.mul_assoc] at hlt
  exact Nat.lt_of_mul_lt_mul_left (Nat.lt_of_le_of_lt (Nat.le_add_left _ _) hlt)
theorem LongInv.step {X V N L k : Nat} {R Q ys : List Nat} {j A : Nat} (h : LongInv X V N L k R Q (j + 1)) (hj : j ≤ k) (hL : L = N + k) (hV : 0 < V) (hA : A = val ((R.drop j).take N) + 4294967296 ^ N * (R.drop (j + N)).getD 0 0) (hy : Limbs ys) (hl : ys.length = N) (hv : val ys = A % V) :
    LongInv X V N L k (R.take j ++ (ys ++ R.drop (j + N))) (Q.set j (A / V)) j := by
  obtain ⟨l1, l2, l3, hq, e⟩ := h.once hj hL
  rw [← hA] at hq e
  have hlr := h.lr
  have hql : A / V < 4294967296 := by rw [Nat.div_lt_iff_lt_mul hV]; exact hq
  have hp := val_lt (limbs_take h.limr j)
  rw [l1] at hp
  have hs := h.sum
  rw [e, Nat.pow_succ, ← Nat.mul_assoc V] at hs
  have st := long_step (A := A) (D := V) (q := A / V) (r := A % V) (VQ := val (Q.drop (j + 1))) (X := X) (v := val (R.take j) + 4294967296 ^ j * A) (Nat.div_add_mod A V).symm (Nat.mod_lt _ hV) hp rfl (by rw [← Nat.mul_assoc V]; exact hs)
  have et : val ((R.take j ++ (ys ++ R.drop (j + N))).take (j + N)) = val (R.take j) + 4294967296 ^ j * (A % V) := by
    rw [← List.append_assoc, List.take_append_of_le_length (by rw [List.length_append, l1, hl]; omega), List.take_of_length_le (by rw [List.length_append, l1, hl]; omega), val_append, l1, hv]
  refine ⟨by rw [List.length_append, List.length_append, l1, hl, List.length_drop]; omega, by rw [List.length_set]; exact h.lq, ?_, limbs_set h.limq _ hql, ?_, ?_⟩
  · intro x hx
    rcases List.mem_append.1 hx with h1 | h1
    · exact limbs_take h.limr j x h1
    · rcases List.mem_append.1 h1 with h2 | h2
      · exact hy x h2
      · exact limbs_drop h.limr _ x h2
  · rw [et, val_set_drop (by rw [h.lq]; omega)]; exact st.1
  · rw [et]; exact st.2
theorem LongInv.done {a b S N L k : Nat} {R Q : List Nat} (h : LongInv (a * S) (b * S) N L k R Q 0) (hS : 0 < S) (hb : 0 < b) : val Q = a / b ∧ val (R.take N) / S = a % b := by
  have h1 := h.sum
  have h2 := h.lt
  rw [Nat.pow_zero, Nat.mul_one, List.drop_zero, Nat.zero_add] at h1
  rw [Nat.pow_zero, Nat.one_mul, Nat.zero_add] at h2
  exact long_end hS hb h1 h2
theorem once_N (g h i N c c' : Nat) (pre xs tl ds dt : List Nat) (w : World) (hR : Row w g (pre ++ (xs ++ tl))) (hD : Row w h (ds ++ dt)) (hne : h ≠ g) (hi : pre.length = i) (hxn : xs.length = N) (hdn : ds.length = N) (hLx : Limbs xs) (hLd : Limbs ds) (hLt : Limbs tl) (ht : 0 < tl.length) (h2 : 2 ≤ N) (hn : N ≤ 900000) (hil : i ≤ 1000000)
    (hc : N + 1 ≤ c) (hcc : c ≤ 9223372036854775807) (hc' : N ≤ c') (hcc' : c' ≤ 9223372036854775807) (htop : 2147483648 ≤ ds.getD (N - 1) 0) (hq : val xs + 4294967296 ^ N * tl.getD 0 0 < 4294967296 * val ds) :
    Calls Tryz.prog 149 #[.slice (some ⟨g, i, none⟩) (N + 1) c, .slice (some ⟨h, 0, none⟩) N c'] w
      (OnceRes w g N ((val xs + 4294967296 ^ N * tl.getD 0 0) / val ds) ((val xs + 4294967296 ^ N * tl.getD 0 0) % val ds) pre tl) := by
  obtain ⟨m, rfl⟩ : ∃ m, N = m + 2 := ⟨N - 2, by omega⟩
  exact once_any g h i m c c' pre xs tl ds dt w hR hD hne hi hxn hdn hLx hLd hLt ht (by omega) hil hc hcc hc' hcc' htop hq
set_option maxHeartbeats 2000000 in
theorem long_any (A A' : Option Addr) (L N k c d a b : Nat) (w : World) (ha : Lim w w.heap.size A L c (digs a)) (hb : Lim w w.heap.size A' N d (digs b)) (hL : L = N + k) (h2 : 2 ≤ N) (hn : L ≤ 900000) :
    Calls Tryz.prog 130 #[.slice A L c, .slice A' N d] w (DivRes w (a / b) (a % b)) := by
  obtain ⟨m, hm⟩ : ∃ m, N = m + 2 := ⟨N - 2, by omega⟩
  have hb0 : 0 < b := by
    rcases Nat.eq_zero_or_pos b with h | h
    · exfalso; subst h; have := hb.len; rw [digs_zero] at this; simp at this; omega
    · exact h
  have hbm : (digs b).length = m + 2 := by rw [hb.len, hm]
  have htop := digs_top hbm
  obtain ⟨ad, rfl, _, x, hx, hxl, hcx⟩ := hb.at_ (k := N - 1) (by omega)
  have hx' : x = (digs b).getD (m + 1) 0 := by rw [hx.out, show N - 1 = m + 1 by omega]
  have hz := lz_any x w hxl
  obtain ⟨s, hs⟩ : ∃ s, s = 32 - Lib.bitLen x := ⟨_, rfl⟩
  obtain ⟨p1, p2⟩ := bitLen_spec x (by omega)
  have hx0 : 0 < x := by have := htop.2; rw [← hx'] at this; omega
  obtain ⟨p2, p3⟩ := p2 hx0
  have hle : Lib.bitLen x ≤ 32 := by
    rcases Nat.lt_or_ge 32 (Lib.bitLen x) with h | h
    · exfalso
      have : 2 ^ 32 ≤ 2 ^ (Lib.bitLen x - 1) := Nat.pow_le_pow_right (by omega) (by omega)
      omega
    · exact h
  have hs2 : (32 : Int) - (Lib.bitLen x : Int) = (s : Int) := by omega
  rw [hs2] at hz
  have hs32 : s < 32 := by omega
  have hnorm := fun R h1 h2 h3 => norm_row (R := R) (s := s) hbm (by rw [← hx']; exact hs) h1 h2 h3
  have HU1 := shiftUp_any A L c w.heap.size s (digs a) w ha (Nat.le_refl _) (by omega) hs32
  have HU2 := fun W (hW : Below w.heap.size w W) => shiftUp_any (some ad) N d w.heap.size s (digs b) W (hb.below hW) hW.size (by omega) hs32
  rw [val_digs] at HU1
  simp only [val_digs] at HU2
  have hal := lt_digs_len a
  rw [ha.len] at hal
  have HZ := Lib.hid hz
  have HN := Lib.hid hnorm
  have HU1' := Lib.hid HU1
  have HU2' := Lib.hid HU2
  have HAL := Lib.hid hal
  have HM := Lib.hid hm
  have HL := Lib.hid hL
  clear hz hnorm HU1 HU2 hs hs2 hle hx hx' htop ha hb hal hbm hm hL p1 p2 p3
  have hNL : N ≤ 900000 := by have := HL.out; omega
  have i1 : IntKind.i64.wrap ((N : Int) - 1) = (N : Int) - 1 := by rw [IntKind.wrap_i64]; omega
  go_enter Tryz.func130, Tryz.ntmps130
  go_wp2_with fail
  refine HZ.out.mono ?_
  rintro e w1 ⟨rfl, rfl⟩
  go_wp2_with fail
  refine HU1'.out.mono ?_
  rintro e w1 ⟨R, rfl, hR, hRL, hRl, hRv, hb1⟩
  go_wp2_with fail
  refine (HU2'.out _ hb1).mono ?_
  rintro e w2 ⟨D, rfl, hD, hDL, hDl, hDv, hb2⟩
  obtain ⟨_, n2, n3⟩ := HN.out D (by rw [hDl, HM.out]) hDL hDv
  rw [← HM.out] at n2 n3
  have hR2 := hR.below hb2 hR.lt
  have hgl := hR.lt
  have B2 := hb1.trans (hb2.mono hb1.size)
  have hmk : ∀ W : World, (Instr.makeSlice 22 (.int .i64 ((k : Int) + 1)) (.int .i64 ((k : Int) + 1))).run Tryz.prog W =
    .ok (.slice (some ⟨W.heap.size, 0, none⟩) (k + 1) (k + 1)) (W.alloc (.cells (madeCells #[.int .u32 0] (k + 1)) 84)) := fun W => make_u32 (k + 1) (by have := HL.out; omega) W
  have i2 : (L : Int) - (N : Int) = (k : Int) := by have := HL.out; omega
  have hkl : k ≤ 900000 := by have := HL.out; omega
  have HDV := Lib.hid hDv
  have HDl := Lib.hid hDl
  have HRV := Lib.hid hRv
  have HRl := Lib.hid hRl
  have N2 := Lib.hid n2
  clear n2 hDv hDl hRv hRl
  have hhl := hD.lt
  go_wp2
  obtain ⟨V, hV⟩ : ∃ V, V = b * 2 ^ s := ⟨_, rfl⟩
  obtain ⟨X, hX⟩ : ∃ X, X = a * 2 ^ s := ⟨_, rfl⟩
  have HV := Lib.hid hV
  have HX := Lib.hid hX
  clear hV hX
  go_loopw [11] (fun s11 wr => ∃ (j : Nat) (R Q : List Nat), j ≤ k + 1 ∧ s11 = .int .i64 ((j : Int) - 1) ∧ Row wr w.heap.size R ∧ Row wr w1.heap.size D ∧ Row wr w2.heap.size Q ∧ LongInv X V N L k R Q j ∧ Below w.heap.size w wr) (fun s11 _ => (intOf s11 + 1).toNat)
  case atStart =>
    refine ⟨k + 1, R, _, Nat.le_refl _, by go_num, hR2.alloc _, hD.alloc _, Row.made w2 (k + 1), .start hRL HRl.out (limbs_zeros _) (by simp) HL.out (by rw [HRV.out, HX.out]) ?_, B2.alloc (by omega) _⟩
    rw [HX.out, HV.out]
    have e := val_take_succ (D.take N) (m + 1)
    rw [List.take_of_length_le (by rw [List.length_take, HDl.out, HM.out]; omega), N2.out] at e
    have hal := HAL.out
    rw [HL.out, show N + k = m + 1 + 1 + k by have := HM.out; omega] at hal
    exact long_lt hal e n3 hs32
  case round =>
    obtain ⟨j, R, Q, hj, rfl, hRr, hDr, hQr, hI, BW⟩ := hrel
    rcases Nat.eq_zero_or_pos j with h0 | h0
    · subst h0
      have j1 : ((0 : Nat) : Int) - 1 = -1 := by omega
      rw [j1]
      have hI' := hI
      rw [HX.out, HV.out] at hI'
      have hv := hI'.done (Nat.two_pow_pos s) hb0
      have hlr := hI.lr
      have hLR := ((hRr.lim hI.limr (L + 1) (by omega) (by omega)).take N (by have := HL.out; omega))
      have HSD := shiftDown_any (some ⟨w.heap.size, 0, none⟩) N (L + 1) wr.heap.size s (R.take N) wr hLR (Nat.le_refl _) (by omega) hs32
      have HSD' := Lib.hid HSD
      have HVV := Lib.hid hv
      clear hv HSD hI' hlr
      go_wp2_with fail
      refine HSD'.out.mono ?_
      rintro e w3 ⟨zs, ⟨A3, n3', c3, rfl, hl3, hb3⟩, hz, hzl⟩
      have hQ3 := (hQr.below hb3 hQr.lt).len_lim hI.limq (k + 1) hI.lq (by omega)
      have HZ3 := Lib.hid hz
      clear hz hzl
      go_wp2
      go_ret2
      exact ⟨_, _, _, Q, A3, n3', c3, zs, rfl, hQ3, hl3, HVV.out.1, by rw [HZ3.out, HVV.out.2], by omega, BW.trans (hb3.mono BW.size)⟩
    · obtain ⟨j, rfl⟩ : ∃ i, j = i + 1 := ⟨j - 1, by omega⟩
      have j1 : ((j + 1 : Nat) : Int) - 1 = (j : Int) := by omega
      rw [j1]
      clear j1
      have hV0 : 0 < V := by rw [HV.out]; exact Nat.mul_pos hb0 (Nat.two_pow_pos _)
      obtain ⟨l1, l2, l3, hq, _⟩ := hI.once (by omega) HL.out
      have hlr := hI.lr
      have hRr' := hRr
      rw [split3 R j N] at hRr'
      have hDr' := hDr
      rw [← List.take_append_drop N D] at hDr'
      have hdn : (D.take N).length = N := by rw [List.length_take, HDl.out]; omega
      have hNV : val (D.take N) = V := by rw [N2.out, HV.out]
      have htop : 2147483648 ≤ (D.take N).getD (N - 1) 0 := by rw [show N - 1 = m + 1 by have := HM.out; omega]; exact n3
      have HO := once_N w.heap.size w1.heap.size j N (L + 1 - j) (N + 1) _ _ _ _ _ wr hRr' hDr' (by omega) l1 l2 hdn (limbs_take (limbs_drop hI.limr _) _) (limbs_take hDL _) (limbs_drop hI.limr _) l3 h2 hNL (by omega) (by have := HL.out; omega) (by omega) (by omega) (by omega) htop (by rw [hNV]; exact hq)
      rw [hNV] at HO
      obtain ⟨A0, hA0⟩ : ∃ A0, A0 = val ((R.drop j).take N) + 4294967296 ^ N * (R.drop (j + N)).getD 0 0 := ⟨_, rfl⟩
      rw [← hA0] at HO
      have STEP := fun ys h1 h2 h3 => hI.step (ys := ys) (by omega) HL.out hV0 hA0 h1 h2 h3
      have hlq := hI.lq
      have hcq := fun W (h : Row W w2.heap.size Q) => h.cell (k := j) (by rw [hlq]; omega)
      have HO' := Lib.hid HO
      have STEP' := Lib.hid STEP
      have HCQ := Lib.hid hcq
      clear HO STEP hcq hA0 hNV hdn htop hDr' hRr' l1 l2 l3 hlr hlq hq
      have jl : j + N + 1 - j = N + 1 := by omega
      have HJL := Lib.hid jl
      clear jl
      go_wp2_with fail
      rw [HJL.out]
      refine HO'.out.mono ?_
      rintro e w3 ⟨ys, rfl, hRy, hLy, hly, hvy, hg⟩
      have hD3 := hDr.grown hg (by omega)
      have hQ3 := hQr.grown hg (by omega)
      have hI2 := STEP'.out ys hLy hly hvy
      have c3 := HCQ.out _ hQ3
      have f3 := hQ3.frozen j
      have B3 : Below w.heap.size w w3 := BW.grown hg BW.size (fun _ hk => by cases hk; exact Nat.le_refl _)
      clear hly hvy
      go_wp2
      exact ⟨⟨j, _, _, by omega, by go_num, hRy.far (by simp; omega) _, hD3.far (by simp; omega) _, hQ3.set _ _, hI2, B3.setCell (by simp; omega) _⟩, by simp [intOf]⟩
end Go.Proofs.YtlpoboikompjfaaGreatDoor
namespace Go.Proofs.YtlpoboikompjfaaGreatDoor
open Go.RowKit
set_option maxHeartbeats 400000 in
theorem clone_own (A : Option Addr) (n c B : Nat) (xs : List Nat) (w : World) (ha : Lim w B A n c xs) (hB : B ≤ w.heap.size) (hn : n ≤ 1000000) (h0 : 0 < n) :
    Calls Tryz.prog 107 #[.slice A n c] w fun e w' => ∃ A' c', e = .returned (.slice A' n c') ∧ Own w' w.heap.size (.slice A' n c') n xs ∧ Below w.heap.size w w' := by
  obtain ⟨ad, rfl, _⟩ := ha.rd h0
  have qT : ∀ (w : World) (a : Option Addr) (n c n' c' : Nat), (binOp .eql 22 (.slice a n c) (.slice none n' c')).run Tryz.prog w = .ok (.bool a.isNone) w := fun w a n c n' c' => Lib.run_eql_slice_nil w 22 84 a n c n' c' Tryz.underlying22
  go_enter Tryz.func107, Tryz.ntmps107
  go_wp2_with (at_builtin; refine wpList_append_lim _ rfl (.tmp 5) (.tmp 6) rfl w.heap.size (.slice (some ⟨w.heap.size, 0, none⟩) 0 0) 0 [] rfl ?h1 ?h2 w.heap.size (some ad) n c xs rfl ?h3 ?h4 ?h5 ?h6)
  case h1 => exact Own.empty w w.heap.size (Nat.le_refl _)
  case h2 => exact fun x hx => by simp at hx
  case h3 => exact (ha.more hB).alloc (Nat.le_refl _) _
  case h4 => omega
  case h5 => simp
  case h6 =>
    intro A' c' w1 hl ho hg
    go_wp2
    go_ret
    refine ⟨A', c', ?_, ?_, ?_⟩
    · simp
    · simpa using ho
    · exact ((Below.refl w.heap.size w).alloc (Nat.le_refl _) _).grown hg (by simp) (fun k hk => by cases hk; exact Nat.le_refl _)
set_option maxHeartbeats 1000000 in
theorem divIn_own (base : Nat) (A : Option Addr) (n c d : Nat) (xs : List Nat) (w : World) (hO : Own w base (.slice A n c) n xs) (hL : Limbs xs) (hn : n ≤ 1000000) (hd : 0 < d) (hdl : d < 4294967296) :
    Calls Tryz.prog 129 #[.slice A n c, .int .u32 (d : Int)] w fun e w' => ∃ ys, e = .returned (.int .u32 ((val xs % d : Nat) : Int)) ∧ Own w' base (.slice A n c) n ys ∧ Limbs ys ∧ val ys = val xs / d ∧ Below base w w' := by
  have b1 : ((d : Int) == 0) = false := by simp; omega
  have HL := Lib.hid hO.len
  go_enter Tryz.func129, Tryz.ntmps129
  go_wp2
  go_loopw [5, 6] (fun re i wr => ∃ (k : Int) (r : Nat) (ys : List Nat), -1 ≤ k ∧ k < n ∧ i = .int .i64 k ∧ re = .int .u64 r ∧ r < d ∧ Own wr base (.slice A n c) n ys ∧ Limbs ys ∧ Hid (ys.take (k + 1).toNat = xs.take (k + 1).toNat) ∧ Hid (val (xs.drop (k + 1).toNat) = val (ys.drop (k + 1).toNat) * d + r) ∧ Below base w wr) (fun _ i _ => (intOf i + 1).toNat)
  case atStart =>
    refine ⟨n - 1, 0, xs, by omega, by omega, rfl, rfl, hd, hO, hL, rfl, ?_, Below.refl _ _⟩
    rw [Hid, show ((n : Int) - 1 + 1).toNat = n by omega, List.drop_of_length_le (by rw [HL.out]; exact Nat.le_refl _)]; simp [val]
  case round =>
    obtain ⟨k, r, ys, hk, hkn, rfl, rfl, hr, hRy, hLy, htk, hv, hgb⟩ := hrel
    have hly := Lib.hid hRy.len
    by_cases h0 : 0 ≤ k
    · obtain ⟨k, rfl⟩ := Int.eq_ofNat_of_zero_le h0
      obtain ⟨g, rfl, hg0, hg1, hnc, hc, hf, hset⟩ := hRy.at_ (k := k) (by omega)
      obtain ⟨x, hx⟩ : ∃ x, x = ys.getD k 0 := ⟨_, rfl⟩
      have hxl : x < 4294967296 := by rw [hx]; exact getD_lt hLy k
      rw [← hx] at hc
      have HX := Lib.hid hx
      have HSET := Lib.hid hset
      clear hx hset
      go_wp2
      have e1 : bits BinOp.or IntKind.u64 ((r : Int) * 4294967296) (x : Int) = ((x + 4294967296 * r : Nat) : Int) := or_limbs x r hxl (by omega)
      rw [e1]
      obtain ⟨t, ht⟩ : ∃ t, t = x + 4294967296 * r := ⟨_, rfl⟩
      rw [← ht]
      have e2 : ((t : Int)).tmod (d : Int) = ((t % d : Nat) : Int) := rfl
      have e3 : ((t : Int)).tdiv (d : Int) = ((t / d : Nat) : Int) := rfl
      have hv1 : t / d < 4294967296 := by
        rw [Nat.div_lt_iff_lt_mul hd, ht]
        have : 4294967296 * (r + 1) ≤ 4294967296 * d := Nat.mul_le_mul_left _ hr
        omega
      have hm := Nat.mod_lt t hd
      have htd := Nat.div_add_mod t d
      rw [e2, e3]
      generalize t / d = v at *
      generalize t % d = r' at *
      have e4 : IntKind.u64.wrap (v : Int) % 4294967296 = (v : Int) := by rw [IntKind.wrap_u64]; omega
      rw [e4]
      have htk' := htk.out
      have hv' := hv.out
      rw [show ((k : Int) + 1).toNat = k + 1 by omega] at htk' hv'
      have hxx : x = xs.getD k 0 := by
        rw [HX.out, ← getD_take (xs := ys) (k := k + 1) (Nat.lt_succ_self k), htk', getD_take (Nat.lt_succ_self k)]
      refine ⟨⟨(k : Int) - 1, r', ys.set k v, by omega, by omega, rfl, rfl, hm, HSET.out _, limbs_set hLy _ hv1, ?_, ?_, hgb.setCell hg0 _⟩, by show ((k : Int) - 1 + 1).toNat < ((k : Int) + 1).toNat; omega⟩
      · rw [Hid, show ((k : Int) - 1 + 1).toNat = k by omega, List.take_set_of_le (Nat.le_refl k)]
        have := congrArg (List.take k) htk'
        rw [List.take_take, List.take_take, Nat.min_eq_left (by omega)] at this
        exact this
      · rw [Hid, show ((k : Int) - 1 + 1).toNat = k by omega, val_set_drop (by rw [hly.out]; omega), val_drop_cons (xs := xs) (k := k) (by rw [HL.out]; omega), hv', ← hxx, Nat.add_mul, Nat.mul_add]
        rw [Nat.mul_comm d v] at htd
        rw [← Nat.mul_assoc]
        omega
    · obtain rfl : k = -1 := by omega
      go_wp2
      go_ret
      have hv' := hv.out
      rw [show ((-1 : Int) + 1).toNat = 0 from rfl, List.drop_zero, List.drop_zero] at hv'
      refine ⟨retI ?_, ys, hRy, hLy, ?_, hgb⟩
      · rw [← Int.natCast_emod, hv', Nat.mul_comm, Nat.mul_add_mod, Nat.mod_eq_of_lt hr]
      · rw [hv', Nat.mul_comm, Nat.mul_add_div hd, Nat.div_eq_of_lt hr, Nat.add_zero]
set_option maxHeartbeats 1000000 in
theorem div_one (A A' : Option Addr) (n c d a b : Nat) (w : World) (ha : Lim w w.heap.size A n c (digs a)) (hb : Lim w w.heap.size A' 1 d (digs b)) (hn : n ≤ 900000) (h2 : 2 < n) (hab : b ≤ a) :
    Calls Tryz.prog 106 #[.slice A n c, .slice A' 1 d] w (DivRes w (a / b) (a % b)) := by
  have HO := order_any A A' n c 1 d w.heap.size w.heap.size _ _ w ha hb
  rw [ordV_digs] at HO
  have ho : ¬ cmpN (a : Int) (b : Int) < 0 := by unfold cmpN; split <;> (try split) <;> omega
  generalize cmpN (a : Int) (b : Int) = t at *
  have HW := fun W (hd : Drawn w W) => words_no A A' n c 1 d w.heap.size w.heap.size (digs a) (digs b) W (ha.drawn hd) (hb.drawn hd) (by omega)
  have HC := fun W (hd : Drawn w W) => clone_own A n c w.heap.size (digs a) W (ha.drawn hd) (by rw [hd.size]; exact Nat.le_refl _) (by omega) (by omega)
  obtain ⟨ad, rfl, _, x, hx, hxl, hcx⟩ := hb.at_ (k := 0) (by omega)
  have hbx : x = b := by
    have h1 := val_digs b
    have h2 := val_take_succ (digs b) 0
    rw [List.take_of_length_le (by rw [hb.len]; exact Nat.le_refl _), h1, ← hx.out] at h2
    simp [val] at h2
    exact h2.symm
  subst hbx
  have hx0 : 0 < x := by
    rcases Nat.eq_zero_or_pos x with h | h
    · exfalso; subst h; have := hb.len; rw [digs_zero] at this; simp at this
    · exact h
  have HI := fun W A1 c1 base (h : Own W base (.slice A1 n c1) n (digs a)) => divIn_own base A1 n c1 x (digs a) W h (limbs_digs a) (by omega) hx0 hxl
  simp only [val_digs] at HI
  have hlt := Nat.mod_lt a hx0
  have HO' := Lib.hid HO
  have HW' := Lib.hid HW
  have HC' := Lib.hid HC
  have HI' := Lib.hid HI
  have hcell : Hid (∀ W, Below w.heap.size w W → W.cell? ad = some (.int .u32 (x : Int))) := fun W hW => by
    obtain ⟨ad', e, hbk, y, hy, _, hcy⟩ := (hb.below hW).at_ (k := 0) (by omega)
    cases e
    rw [hy.out, ← hx.out] at hcy
    rwa [show ad.add 0 = ad by unfold Addr.add; simp] at hcy
  clear HO HW HC HI ha hb hx hcx
  generalize a / x = Q at *
  generalize a % x = R at *
  go_enter Tryz.func106, Tryz.ntmps106
  go_wp2_with fail
  refine HO'.out.mono ?_
  rintro e w1 ⟨rfl, hd1⟩
  go_wp2_with fail
  refine (HW'.out _ hd1).mono ?_
  rintro e w2 ⟨⟨x1, y1, rfl⟩, hd2⟩
  have hd := hd1.trans hd2
  go_wp2_with fail
  refine (HC'.out _ hd).mono ?_
  rintro e w3 ⟨A3, c3, rfl, ho3, hb3⟩
  have B3 := (hd.below w.heap.size).trans (hb3.mono (by rw [hd.size]; exact Nat.le_refl _))
  have hcx := hcell.out _ B3
  go_wp2_with fail
  refine (HI'.out _ _ _ _ ho3).mono ?_
  rintro e w4 ⟨ys, rfl, ho4, hL4, hv4, hb4⟩
  have HV4 := Lib.hid hv4
  clear hv4
  obtain ⟨A5, c5, e5, hl5⟩ := ho4.form hL4
  cases e5
  have B4 := B3.trans (hb4.mono (by rw [hd.size]; exact Nat.le_refl _))
  go_wp2
  go_ret2
  have hr := (row_new w4 [R] _ rfl).len_lim (by intro z hz; simp at hz; omega) 1 rfl (by omega)
  exact ⟨_, _, _, ys, _, _, _, [R], rfl, (hl5.alloc (Nat.le_refl _) _).more (by simp), hr, HV4.out, by simp [val], by omega, B4.alloc (by exact B4.size) _⟩
set_option maxHeartbeats 1000000 in
theorem div_more (A A' : Option Addr) (n c m d a b : Nat) (w : World) (ha : Lim w w.heap.size A n c (digs a)) (hb : Lim w w.heap.size A' m d (digs b)) (hn : n ≤ 900000) (h2 : 2 < n) (hm : 2 ≤ m) (hab : b ≤ a) :
    Calls Tryz.prog 106 #[.slice A n c, .slice A' m d] w (DivRes w (a / b) (a % b)) := by
  have HO := order_any A A' n c m d w.heap.size w.heap.size _ _ w ha hb
  rw [ordV_digs] at HO
  have ho : ¬ cmpN (a : Int) (b : Int) < 0 := by unfold cmpN; split <;> (try split) <;> omega
  generalize cmpN (a : Int) (b : Int) = t at *
  have hmn : m ≤ n := by rw [← ha.len, ← hb.len]; exact digs_len_mono hab
  have HW := fun W (hd : Drawn w W) => words_no A A' n c m d w.heap.size w.heap.size (digs a) (digs b) W (ha.drawn hd) (hb.drawn hd) (by omega)
  have HD := fun W (hd : Drawn w W) => long_any A A' n m (n - m) c d a b W ((ha.drawn hd).more (by rw [hd.size]; exact Nat.le_refl _)) ((hb.drawn hd).more (by rw [hd.size]; exact Nat.le_refl _)) (by omega) hm hn
  generalize a / b = Q at *
  generalize a % b = R at *
  have b1 : ((m : Int) == 1) = false := by simp; omega
  have HO' := Lib.hid HO
  have HW' := Lib.hid HW
  have HD' := Lib.hid HD
  clear HO HW HD ha hb
  go_enter Tryz.func106, Tryz.ntmps106
  go_wp2_with fail
  refine HO'.out.mono ?_
  rintro e w1 ⟨rfl, hd1⟩
  go_wp2_with fail
  refine (HW'.out _ hd1).mono ?_
  rintro e w2 ⟨⟨x1, y1, rfl⟩, hd2⟩
  have hd := hd1.trans hd2
  go_wp2_with fail
  refine (HD'.out _ hd).mono ?_
  rintro e w3 ⟨A1, n1, c1, xs, A2, n2, c2, ys, rfl, h1, h2, h3, h4, h5, h6⟩
  go_wp2
  go_ret2
  exact ⟨A1, n1, c1, xs, A2, n2, c2, ys, rfl, h1, h2, h3, h4, h5, (hd.below w.heap.size).trans (h6.mono (by rw [hd.size]; exact Nat.le_refl _))⟩
theorem divOk_all (L : Nat) (hL : L ≤ 900000) : DivOk L := by
  intro A A' n c m d a b W ha hb hn hm hb0
  by_cases h2 : n ≤ 2 ∧ m ≤ 2
  · exact divW_any A A' n c m d a b W ha hb h2.1 h2.2 hb0
  rcases Nat.lt_or_ge a b with h | h
  · exact divW_lt A A' n c m d a b W ha hb (by omega) h
  · have hmn : m ≤ n := by rw [← ha.len, ← hb.len]; exact digs_len_mono h
    have hm0 : 0 < m := by rw [← hb.len]; exact digs_len_pos hb0
    rcases Nat.lt_or_ge m 2 with h1 | h1
    · obtain rfl : m = 1 := by omega
      exact div_one A A' n c d a b W ha hb (by omega) (by omega) h
    · exact div_more A A' n c m d a b W ha hb (by omega) (by omega) h1 h
end Go.Proofs.YtlpoboikompjfaaGreatDoor
namespace Go.Proofs.YtlpoboikompjfaaGreatDoor
open Go.RowKit
set_option maxHeartbeats 1000000 in
theorem root_neg (A : Option Addr) (n c : Nat) (a : Int) (w : World) (ha : IsInt w true A n c a) :
    Calls Tryz.prog 117 #[.agg #[.bool true, .slice A n c]] w (RetIE w 0 1) := by
  have T1 := Lib.hid (fun W hW => tidy_z true A n c a w W ha hW)
  clear ha
  obtain ⟨HB, P0, R0⟩ := frame11 w (.bool true) (.slice A n c)
  go_enter Tryz.func117, Tryz.ntmps117
  go_wp2_with fail
  refine (T1.out _ HB).mono ?_
  rintro e w1 ⟨rfl, hb1⟩
  have ⟨p0, p1, p2, p3, p4⟩ := P0.after hb1
  have ⟨r0, r1, r2, r3, r4⟩ := (R0.after hb1).far2 (g' := w.heap.size) (by omega) (.bool true) (.slice A n n)
  have B1 := ((HB.trans (hb1.mono HB.size)).setCell (p := ⟨w.heap.size, 0, none⟩) (by simp) (.bool true)).setCell (p := ⟨w.heap.size, 1, none⟩) (by simp) (.slice A n n)
  go_wp2
  exact bodyPost_ret (v := .tuple #[.agg #[.bool false, .slice none 0 0], .int .i64 1]) (by simp [results, Tryz.results117, go_sem, r0, r1]) rfl
    ⟨_, _, _, _, rfl, isInt_zero _ (by omega), (B1.setCell (by simp) _).setCell (by simp) _⟩
set_option maxHeartbeats 2000000 in
theorem root_of (L : Nat) (HD : DivOk L) (hL : L ≤ 999999) (A : Option Addr) (n c v : Nat) (w : World) (ha : IsInt w false A n c (v : Int)) (hn : n + 1 ≤ L) :
    Calls Tryz.prog 117 #[.agg #[.bool false, .slice A n c]] w fun e w' => ∃ r : Nat, RetIE w (r : Int) 0 e w' ∧ r * r ≤ v ∧ v < (r + 1) * (r + 1) := by
  have T1 := Lib.hid (fun W hW => tidy_z false A n c (v : Int) w W ha hW)
  have hlen := ha.lim.len
  rw [Int.natAbs_natCast] at hlen
  obtain ⟨HB, P0, R0⟩ := frame11 w (.bool false) (.slice A n c)
  rcases Nat.eq_zero_or_pos n with h0 | h0
  · subst h0
    have hv : v = 0 := by rw [digs_len_zero] at hlen; exact hlen
    subst hv
    go_enter Tryz.func117, Tryz.ntmps117
    go_wp2_with fail
    refine (T1.out _ HB).mono ?_
    rintro e w1 ⟨rfl, hb1⟩
    have ⟨p0, p1, p2, p3, p4⟩ := P0.after hb1
    have ⟨r0, r1, r2, r3, r4⟩ := (R0.after hb1).far2 (g' := w.heap.size) (by omega) (.bool false) (.slice A 0 0)
    have B1 := ((HB.trans (hb1.mono HB.size)).setCell (p := ⟨w.heap.size, 0, none⟩) (by simp) (.bool false)).setCell (p := ⟨w.heap.size, 1, none⟩) (by simp) (.slice A 0 0)
    go_wp2
    exact bodyPost_ret (v := .tuple #[.agg #[.bool false, .slice none 0 0], .int .i64 0]) (by simp [results, Tryz.results117, go_sem, r0, r1]) rfl
      ⟨0, ⟨_, _, _, _, rfl, isInt_zero _ (by omega), (B1.setCell (by simp) _).setCell (by simp) _⟩, by omega, by omega⟩
  · have hv0 : 0 < v := by
      rcases Nat.eq_zero_or_pos v with e | e
      · subst e; rw [digs_zero] at hlen; simp at hlen; omega
      · exact e
    have b1 : ((n : Int) == 0) = false := by simp; omega
    have HV0 := Lib.hid hv0
    have HD' := Lib.hid HD
    have HA := Lib.hid ha
    have HLEN := Lib.hid hlen
    clear hv0 HD ha hlen
    go_enter Tryz.func117, Tryz.ntmps117
    go_wp2_with fail
    refine (T1.out _ HB).mono ?_
    rintro e w1 ⟨rfl, hb1⟩
    have ⟨p0, p1, p2, p3, p4⟩ := P0.after hb1
    have P1 := (P0.after hb1).set2 (.bool false) (.slice A n n)
    have R1 := (R0.after hb1).far2 (g' := w.heap.size) (by omega) (.bool false) (.slice A n n)
    have B1 := ((HB.trans (hb1.mono HB.size)).setCell (p := ⟨w.heap.size, 0, none⟩) (by simp) (.bool false)).setCell (p := ⟨w.heap.size, 1, none⟩) (by simp) (.slice A n n)
    have HA1 : IsInt ((w1.setCell ⟨w.heap.size, 0, none⟩ (.bool false)).setCell ⟨w.heap.size, 1, none⟩ (.slice A n n)) false A n n (v : Int) := ⟨HA.out.sign, (HA.out.lim.tight.below B1).more B1.size⟩
    have HBit := Lib.hid (bits_any false A n n (v : Int) _ HA1 (by omega))
    clear HA1
    go_wp2_with fail
    refine HBit.out.mono ?_
    rintro e w2 ⟨bb, ⟨rfl, hbb⟩, hb2⟩
    have hbl : bb ≤ 32 * n := by
      rcases Nat.lt_or_ge (32 * n) bb with h | h
      · have h1 := (hbb.2.2 (by rw [Int.natAbs_natCast]; exact HV0.out)).1
        rw [Int.natAbs_natCast] at h1
        have h2 := lt_digs_len v
        rw [HLEN.out] at h2
        have h3 : (2 : Nat) ^ (32 * n) ≤ 2 ^ (bb - 1) := Nat.pow_le_pow_right (by omega) (by omega)
        rw [Nat.pow_mul] at h3
        have h4 : (2 ^ 32 : Nat) = 4294967296 := by decide
        rw [h4] at h3
        omega
      · exact h
    obtain ⟨h, hh⟩ : ∃ h, h = (bb + 1) / 2 := ⟨_, rfl⟩
    have hh1 : h ≤ 16 * n := by omega
    have hvh : v < (2 ^ h + 1) * (2 ^ h + 1) := by
      have h1 := hbb.1
      rw [Int.natAbs_natCast] at h1
      have h2 : (2 : Nat) ^ bb ≤ 2 ^ (h + h) := Nat.pow_le_pow_right (by omega) (by omega)
      rw [Nat.pow_add] at h2
      have h3 : 2 ^ h * 2 ^ h ≤ (2 ^ h + 1) * (2 ^ h + 1) := Nat.mul_le_mul (by omega) (by omega)
      omega
    have HVH := Lib.hid hvh
    have e1 : ((bb : Int) + 1) / 2 = (h : Int) := by omega
    clear hh hbb hvh
    have P2 := P1.after hb2
    have R2 := R1.after hb2
    have B2 := B1.trans (hb2.mono B1.size)
    go_wp2_with fail
    refine (pow2_any h _ (by omega)).mono ?_
    rintro e w3 ⟨zs, ⟨A3, n3, c3, rfl, hl3, hb3⟩, hv3, hn3⟩
    have P3 := P2.after hb3
    have R3 := R2.after hb3
    have B3 := B2.trans (hb3.mono B2.size)
    have hzs : zs = digs (2 ^ h) := by
      rw [← hv3]
      apply eq_digs hl3.lt
      rw [hv3, hn3]
      apply digs_len_lt
      have h4 : (4294967296 : Nat) ^ (h / 32) = 2 ^ (32 * (h / 32)) := by rw [Nat.pow_mul]
      rw [h4]
      exact Nat.pow_le_pow_right (by omega) (by omega)
    have hn3' : n3 ≤ n + 1 := by rw [← hl3.len, hn3]; omega
    rw [hzs] at hl3
    clear hv3 hn3 hzs
    go_wp2
    go_loopg [4] (2 ^ h) (fun g s wr => ∃ (A4 : Option Addr) (n4 c4 : Nat), s = .slice A4 n4 c4 ∧ Lim wr wr.heap.size A4 n4 c4 (digs g) ∧ 0 < g ∧ Hid (v < (g + 1) * (g + 1)) ∧ n4 ≤ n + 1 ∧ Slot2 wr w.heap.size (.bool false) (.slice A n n) ∧ Slot2 wr (w.heap.size + 1) (.bool false) (.slice none 0 0) ∧ Below w.heap.size w wr)
    case atStart => exact ⟨A3, n3, c3, rfl, hl3, Nat.two_pow_pos h, HVH.out, hn3', P3, R3, B3⟩
    case round =>
      obtain ⟨A4, n4, c4, rfl, hl4, hg0, hvg, hn4, P4, R4, B4⟩ := hrel
      have ⟨p0, p1, p2, p3, p4⟩ := P4
      have HAr : Lim wr wr.heap.size A n n (digs v) := (HA.out.lim.tight.below B4).more B4.size
      go_wp2_with fail
      refine (HD'.out A A4 n n n4 c4 v gk wr HAr hl4 (by omega) (by omega) hg0).mono ?_
      rintro e w5 ⟨A5, n5, c5, us, A6, n6, c6, vs, rfl, hl5, hl6, hv5, hv6, hn5, hb5⟩
      have B5 := B4.trans (hb5.mono B4.size)
      have P5 := P4.after hb5
      have R5 := R4.after hb5
      have h4' := (hl4.below hb5).more hb5.size
      obtain ⟨q, hq⟩ : ∃ q, q = v / gk := ⟨_, rfl⟩
      rw [← hq] at hv5
      have hqv : v < gk * (q + 1) := by rw [hq, Nat.mul_comm]; exact Nat.lt_mul_of_div_lt (Nat.lt_succ_self _) hg0
      have HQV := Lib.hid hqv
      have HQ := Lib.hid hq
      obtain ⟨k5, hk5⟩ : ∃ k5, k5 = (digs q).length := ⟨_, rfl⟩
      have HT5 := Lib.hid (trim_val A5 n5 c5 _ q k5 us w5 hl5 hv5 hk5)
      have hl5' := hl5.trimv hv5 hk5
      have hk5n : k5 ≤ n := by rw [hk5, ← HLEN.out, hq]; exact digs_len_mono (Nat.div_le_self v gk)
      clear hv5 hv6 hk5 hq hqv HAr hl6 p0 p1 p2 p3 p4
      go_wp2_with fail
      refine HT5.out.mono ?_
      rintro e w6 ⟨rfl, rfl⟩
      go_wp2_with fail
      refine (sum_any A4 A5 n4 c4 k5 k5 _ _ (digs gk) (digs q) _ h4' hl5' (Nat.le_refl _) (Nat.le_refl _) (by omega) (by omega)).mono ?_
      rintro e w7 ⟨ts, ⟨A7, n7, c7, rfl, hl7, hb7⟩, hv7, hn7⟩
      rw [val_digs, val_digs] at hv7
      have B7 := B5.trans (hb7.mono B5.size)
      have P7 := P5.after hb7
      have R7 := R5.after hb7
      have h4'' := (h4'.below hb7).more hb7.size
      have hn7' : n7 ≤ n + 2 := by rw [← hl7.len, hn7]; omega
      obtain ⟨k7, hk7⟩ : ∃ k7, k7 = (digs (gk + q)).length := ⟨_, rfl⟩
      have HT7 := Lib.hid (trim_val A7 n7 c7 _ (gk + q) k7 ts w7 hl7 hv7 hk7)
      have hl7' := hl7.trimv hv7 hk7
      have hk7n : k7 ≤ n7 := by have h1 := digs_len_val hl7.lt; rw [hv7, ← hk7, hl7.len] at h1; exact h1
      clear hv7 hk7 hn7
      go_wp2_with fail
      refine HT7.out.mono ?_
      rintro e w8 ⟨rfl, rfl⟩
      go_wp2_with fail
      refine (shiftDown_any A7 k7 k7 _ 1 (digs (gk + q)) _ hl7' (Nat.le_refl _) (by omega) (by omega)).mono ?_
      rintro e w9 ⟨rs, ⟨A9, n9, c9, rfl, hl9, hb9⟩, hv9, hn9⟩
      rw [val_digs, Nat.pow_one] at hv9
      have B9 := B7.trans (hb9.mono B7.size)
      have P9 := P7.after hb9
      have R9 := R7.after hb9
      have h49 := (h4''.below hb9).more hb9.size
      obtain ⟨m, hm⟩ : ∃ m, m = (gk + q) / 2 := ⟨_, rfl⟩
      rw [← hm] at hv9
      obtain ⟨k9, hk9⟩ : ∃ k9, k9 = (digs m).length := ⟨_, rfl⟩
      have HT9 := Lib.hid (trim_val A9 n9 c9 _ m k9 rs w9 hl9 hv9 hk9)
      have hl9' := hl9.trimv hv9 hk9
      have HM := Lib.hid hm
      have HK9 := Lib.hid hk9
      clear hv9 hk9 hn9 hm
      go_wp2_with fail
      refine HT9.out.mono ?_
      rintro e w10 ⟨rfl, rfl⟩
      have HO := order_any A9 A4 k9 k9 n4 c4 _ _ (digs m) (digs gk) w9 hl9' h49
      rw [ordV_digs] at HO
      have HO' := Lib.hid HO
      clear HO
      by_cases hmg : gk ≤ m
      · have ho : (0 : Int) ≤ cmpN (m : Int) (gk : Int) := by unfold cmpN; split <;> (try split) <;> omega
        generalize cmpN (m : Int) (gk : Int) = t at *
        go_wp2_with fail
        refine HO'.out.mono ?_
        rintro e w11 ⟨rfl, hd11⟩
        have h411 := (h49.drawn hd11).more (B' := w11.heap.size) (by rw [hd11.size]; exact Nat.le_refl _)
        have B11 := B9.trans (hd11.below _)
        have R11 := R9.after (hd11.below _)
        have hfin : gk * gk ≤ v := by
          have h1 : gk ≤ q := by have := HM.out; omega
          rw [HQ.out] at h1
          have h2 := Nat.div_mul_le_self v gk
          exact Nat.le_trans (Nat.mul_le_mul_right gk h1) h2
        have HF := Lib.hid hfin
        clear hfin
        go_wp2_with fail
        refine (build_val false A4 n4 c4 gk (gk : Int) (digs gk) _ h411 (val_digs gk) rfl).mono ?_
        rintro e w12 ⟨g12, A12, n12, c12, rfl, hi12, hb12⟩
        have ⟨r0, r1, r2, r3, r4⟩ := R11.after hb12
        go_wp2
        exact bodyPost_ret (v := .tuple #[.agg #[.bool g12, .slice A12 n12 c12], .int .i64 0]) (by simp [results, Tryz.results117, go_sem, r0, r1]) rfl
          ⟨gk, ⟨_, _, _, _, rfl, hi12.stored r0 r1 rfl rfl _ _, ((B11.trans (hb12.mono B11.size)).setCell (by simp) _).setCell (by simp) _⟩, HF.out, hvg.out⟩
      · have ho : cmpN (m : Int) (gk : Int) < 0 := by unfold cmpN; rw [if_pos (by omega)]; omega
        generalize cmpN (m : Int) (gk : Int) = t at *
        go_wp2_with fail
        refine HO'.out.mono ?_
        rintro e w11 ⟨rfl, hd11⟩
        have h911 := (hl9'.drawn hd11).more (B' := w11.heap.size) (by rw [hd11.size]; exact Nat.le_refl _)
        have B11 := B9.trans (hd11.below _)
        have R11 := R9.after (hd11.below _)
        have P11 := P9.after (hd11.below _)
        have hnew : v < (m + 1) * (m + 1) := by rw [HM.out]; exact newton_step HQV.out
        have hm0 : 0 < m := by
          have h1 := HM.out
          rcases Nat.lt_or_ge gk 2 with h2 | h2
          · have h3 : gk = 1 := by omega
            have h4 : q = v := by rw [HQ.out, h3, Nat.div_one]
            have := HV0.out
            omega
          · omega
        have hk9n : k9 ≤ n + 1 := by
          rw [HK9.out]
          refine Nat.le_trans (digs_len_mono (show m ≤ gk by omega)) ?_
          rw [hl4.len]; exact hn4
        have HN := Lib.hid hnew
        clear hnew
        go_wp2
        go_roundg m
        case measure => omega
        case rel => exact ⟨A9, k9, k9, rfl, h911, hm0, HN.out, hk9n, P11, R11, B11⟩
end Go.Proofs.YtlpoboikompjfaaGreatDoor
namespace Go.Proofs.YtlpoboikompjfaaGreatDoor
open Go.RowKit
section
variable (neg neg' : Bool) (A A' : Option Addr) (n c m d : Nat) {k l : Nat} {a b : Int} (w : World)
theorem dm_z (ha : IsInt w neg A n c a) (hb : IsInt w neg' A' m d b) (sa : Sz k a) (sb : Sz l b) (hb0 : b ≠ 0) : Calls Tryz.prog 63 #[.agg #[.bool neg, .slice A n c], .agg #[.bool neg', .slice A' m d]] w (RetDM w (a / b) (a % b)) :=
  dm_any neg neg' A A' n c m d a b w ha hb hb0 (Nat.le_trans (hb.sz sb) (by decide)) fun W hW =>
    divOk_all 10000 (by decide) A A' n n m m a.natAbs b.natAbs W ((ha.lim.tight.below hW).more hW.size) ((hb.lim.tight.below hW).more hW.size) (ha.sz sa) (hb.sz sb) (by omega)
theorem gcd_z (ha : IsInt w neg A n c a) (hb : IsInt w neg' A' m d b) (sa : Sz k a) (sb : Sz l b) : Calls Tryz.prog 61 #[.agg #[.bool neg, .slice A n c], .agg #[.bool neg', .slice A' m d]] w (RetInt w ((Nat.gcd a.natAbs b.natAbs : Nat) : Int)) :=
  gcd_of 10000 (divOk_all 10000 (by decide)) (by decide) neg neg' A A' n c m d a b w ha hb (ha.sz sa) (hb.sz sb)
theorem radd_z (ha : IsInt w neg A n c a) (hb : IsInt w neg' A' m d b) (sa : Sz k a) (sb : Sz l b) : Calls Tryz.prog 73 #[.agg #[.bool neg, .slice A n c], .agg #[.bool neg', .slice A' m d]] w (RetInt w (a + b)) :=
  radd_any neg neg' A A' n c m d a b w ha hb (Nat.le_trans (ha.sz sa) (by decide)) (Nat.le_trans (hb.sz sb) (by decide))
theorem rsub_z (ha : IsInt w neg A n c a) (hb : IsInt w neg' A' m d b) (sa : Sz k a) (sb : Sz l b) : Calls Tryz.prog 96 #[.agg #[.bool neg, .slice A n c], .agg #[.bool neg', .slice A' m d]] w (RetInt w (a - b)) :=
  rsub_any neg neg' A A' n c m d a b w ha hb (Nat.le_trans (ha.sz sa) (by decide)) (Nat.le_trans (hb.sz sb) (by decide))
theorem rmul_z (ha : IsInt w neg A n c a) (hb : IsInt w neg' A' m d b) (sa : Sz k a) (sb : Sz l b) : Calls Tryz.prog 43 #[.agg #[.bool neg, .slice A n c], .agg #[.bool neg', .slice A' m d]] w (RetInt w (a * b)) :=
  rmul_any neg neg' A A' n c m d a b w ha hb (Nat.le_trans (ha.sz sa) (by decide)) (Nat.le_trans (hb.sz sb) (by decide))
theorem rsign_z (s : Int) (ha : IsInt w neg A n c a) (h : sgn a = s) : Calls Tryz.prog 58 #[.agg #[.bool neg, .slice A n c]] w fun e w' => e = .returned (.int .i64 s) ∧ Below w.heap.size w w' := by
  subst h; exact rsign_any neg A n c a w ha
theorem rcmp_z (s : Int) (ha : IsInt w neg A n c a) (hb : IsInt w neg' A' m d b) (sa : Sz k a) (sb : Sz l b) (h : cmpN a b = s) : Calls Tryz.prog 71 #[.agg #[.bool neg, .slice A n c], .agg #[.bool neg', .slice A' m d]] w fun e w' => e = .returned (.int .i64 s) ∧ Below w.heap.size w w' := by
  subst h; exact rcmp_any neg neg' A A' n c m d a b w ha hb (Nat.le_trans (ha.sz sa) (by decide)) (Nat.le_trans (hb.sz sb) (by decide))
theorem rmadeAbs_z (ha : IsInt w neg A n c a) (sa : Sz k a) : Calls Tryz.prog 57 #[.slice A n c, .bool false] w (RetInt w ((a.natAbs : Nat) : Int)) := by
  have := Made_any false A n c w.heap.size _ w ha.lim (Nat.le_refl _) (Nat.le_trans (ha.sz sa) (by decide))
  rwa [val_digs] at this
theorem rabs_z (ha : IsInt w neg A n c a) (sa : Sz k a) : Calls Tryz.prog 125 #[.agg #[.bool neg, .slice A n c]] w (RetInt w ((a.natAbs : Nat) : Int)) :=
  rabs_any neg A n c a w ha (Nat.le_trans (ha.sz sa) (by decide))
set_option maxHeartbeats 400000 in
theorem rvalid_z (ha : IsInt w neg A n c a) : Calls Tryz.prog 44 #[.agg #[.bool neg, .slice A n c]] w fun e w' => e = .returned (.bool true) ∧ Below w.heap.size w w' := by
  have HB := (Below.refl w.heap.size w).alloc (Nat.le_refl _) (.cells #[.bool neg, .slice A n c] 26)
  obtain ⟨k0, k1, _, _, _⟩ := Slot2.new w (.bool neg) (.slice A n c) 26
  rcases Nat.eq_zero_or_pos n with h0 | h0
  · have hn : neg = false := by
      have h1 : a = 0 := (len_of ha).1 h0
      rw [ha.sign, h1]; rfl
    subst h0 hn
    go_enter Tryz.func44, Tryz.ntmps44
    go_wp2
    go_ret
    exact ⟨rfl, HB⟩
  · obtain ⟨ad, rfl, _, x, hx, hxl, hcx⟩ := (ha.lim.below HB).at_ (k := n - 1) (by omega)
    have hx0 : x ≠ 0 := by
      have hne : digs a.natAbs ≠ [] := by intro e; have := ha.lim.len; rw [e] at this; simp at this; omega
      have h3 := digs_last (n := a.natAbs) hne
      rw [List.getLast_eq_getElem] at h3
      rw [hx.out, List.getD_eq_getElem?_getD, List.getElem?_eq_getElem (by rw [ha.lim.len]; omega)]
      simp only [ha.lim.len] at h3
      simpa using h3
    have b1 : ((n : Int) == 0) = false := by simp; omega
    have hnl := ha.lim.cap
    have i1 : IntKind.i64.wrap ((n : Int) - 1) = (n : Int) - 1 := by rw [IntKind.wrap_i64]; omega
    have b2 : ((x : Int) != 0) = true := by simp; omega
    clear ha hx
    go_enter Tryz.func44, Tryz.ntmps44
    go_wp2
    go_ret
    exact ⟨retB (by simp), HB⟩
end
theorem Sz.div {k : Nat} {a b : Int} (ha : Sz k a) (hk : k + 1 ≤ 10000) : Sz (k + 1) (a / b) := by
  refine Sz.of ?_ hk
  have h1 := ha.lt
  have h2 : (a / b).natAbs ≤ a.natAbs + 1 := by
    have := Int.natAbs_ediv_le_natAbs a b
    omega
  rw [Nat.pow_succ]
  have : 0 < 4294967296 ^ k := Nat.pow_pos (by decide)
  omega
theorem Sz.mod {k : Nat} {a b : Int} (hb : Sz k b) (h0 : b ≠ 0) : Sz k (a % b) := by
  refine ⟨hb.le, Nat.le_trans (digs_len_mono ?_) hb.len⟩
  have h1 := Int.emod_nonneg a h0
  have h2 := Int.emod_lt a h0
  omega
theorem Sz.abs {k : Nat} {a : Int} (ha : Sz k a) : Sz k ((a.natAbs : Nat) : Int) := ⟨ha.le, by rw [Int.natAbs_natCast]; exact ha.len⟩
end Go.Proofs.YtlpoboikompjfaaGreatDoor
namespace Go.Proofs.YtlpoboikompjfaaGreatDoor
open Go.RowKit
theorem w_bmod (x : Int) : IntKind.i64.wrap x = Int.bmod x 18446744073709551616 := by
  rw [IntKind.wrap_i64, Int.bmod_def]
  split <;> omega
theorem w_step (s s' q : Int) : IntKind.i64.wrap (IntKind.i64.wrap s - IntKind.i64.wrap (IntKind.i64.wrap q * IntKind.i64.wrap s')) = IntKind.i64.wrap (s - q * s') := by
  simp only [w_bmod, Int.bmod_sub_bmod, Int.sub_bmod_bmod, Int.bmod_mul_bmod, Int.mul_bmod_bmod]
theorem w64 (x : Int) : wrap64 x = IntKind.i64.wrap x := by unfold wrap64; rw [IntKind.wrap_i64]
theorem w_small {x : Int} (h : x.natAbs < 9223372036854775808) : IntKind.i64.wrap x = x := by rw [IntKind.wrap_i64]; omega
/-- Three integers come back. -/
def Ret3 (w : World) (x y z : Int) (e : Ending) (w' : World) : Prop := ∃ g1 A1 n1 c1 g2 A2 n2 c2 g3 A3 n3 c3, e = .returned (.tuple #[.agg #[.bool g1, .slice A1 n1 c1], .agg #[.bool g2, .slice A2 n2 c2], .agg #[.bool g3, .slice A3 n3 c3]]) ∧
  IsInt w' g1 A1 n1 c1 x ∧ IsInt w' g2 A2 n2 c2 y ∧ IsInt w' g3 A3 n3 c3 z ∧ Below w.heap.size w w'
theorem frame003 (w : World) : Below w.heap.size w (((w.alloc (.cells #[.bool false, .slice none 0 0] 26)).alloc (.cells #[.bool false, .slice none 0 0] 26)).alloc (.cells #[.bool false, .slice none 0 0] 26)) ∧
    Slot2 (((w.alloc (.cells #[.bool false, .slice none 0 0] 26)).alloc (.cells #[.bool false, .slice none 0 0] 26)).alloc (.cells #[.bool false, .slice none 0 0] 26)) w.heap.size (.bool false) (.slice none 0 0) ∧
    Slot2 (((w.alloc (.cells #[.bool false, .slice none 0 0] 26)).alloc (.cells #[.bool false, .slice none 0 0] 26)).alloc (.cells #[.bool false, .slice none 0 0] 26)) (w.heap.size + 1) (.bool false) (.slice none 0 0) ∧
    Slot2 (((w.alloc (.cells #[.bool false, .slice none 0 0] 26)).alloc (.cells #[.bool false, .slice none 0 0] 26)).alloc (.cells #[.bool false, .slice none 0 0] 26)) (w.heap.size + 1 + 1) (.bool false) (.slice none 0 0) := frame21 w _ _ _ _
end Go.Proofs.YtlpoboikompjfaaGreatDoor
namespace Go.Proofs.YtlpoboikompjfaaGreatDoor
open Go.RowKit
/-- Numerator and denominator have at most k limbs, and k is small. -/
structure RSz (k : Nat) (q : Rat) : Prop where
  num : Sz k q.num
  den : Sz k (q.den : Int)
theorem RSz.mono {k l : Nat} {q : Rat} (h : RSz k q) (hkl : k ≤ l) (hl : l ≤ 10000) : RSz l q := ⟨h.num.mono hkl hl, h.den.mono hkl hl⟩
theorem den_ne (q : Rat) : (q.den : Int) ≠ 0 := by have := q.den_pos; omega
theorem RSz.divInt {k : Nat} {n d : Int} (sn : Sz k n) (sd : Sz k d) (h0 : d ≠ 0) : RSz k (Rat.divInt n d) :=
  ⟨Sz.of (Nat.lt_of_le_of_lt (q_num_le n d) sn.lt) sn.le, Sz.of (by rw [Int.natAbs_natCast]; exact Nat.lt_of_le_of_lt (q_den_le n d h0) sd.lt) sd.le⟩
theorem RSz.nadd {k l : Nat} {a b : Rat} (ha : RSz k a) (hb : RSz l b) (hk : k + l + 1 ≤ 10000) : Sz (k + l + 1) (a.num * b.den + b.num * a.den) :=
  (ha.num.mul hb.den (by omega)).add (by rw [Nat.add_comm]; exact hb.num.mul ha.den (by omega)) hk
theorem RSz.nsub {k l : Nat} {a b : Rat} (ha : RSz k a) (hb : RSz l b) (hk : k + l + 1 ≤ 10000) : Sz (k + l + 1) (a.num * b.den + -b.num * a.den) :=
  (ha.num.mul hb.den (by omega)).add (by rw [Nat.add_comm]; exact hb.num.neg.mul ha.den (by omega)) hk
theorem RSz.dmul {k l : Nat} {a b : Rat} (ha : RSz k a) (hb : RSz l b) (hk : k + l + 1 ≤ 10000) : Sz (k + l + 1) ((a.den : Int) * b.den) :=
  (ha.den.mul hb.den (by omega)).mono (by omega) hk
theorem RSz.add {k l : Nat} {a b : Rat} (ha : RSz k a) (hb : RSz l b) (hk : k + l + 1 ≤ 10000) : RSz (k + l + 1) (a + b) := by
  rw [← q_add]; exact RSz.divInt (ha.nadd hb hk) (ha.dmul hb hk) (Int.mul_ne_zero (den_ne a) (den_ne b))
theorem RSz.sub {k l : Nat} {a b : Rat} (ha : RSz k a) (hb : RSz l b) (hk : k + l + 1 ≤ 10000) : RSz (k + l + 1) (a - b) := by
  rw [← q_sub]; exact RSz.divInt (ha.nsub hb hk) (ha.dmul hb hk) (Int.mul_ne_zero (den_ne a) (den_ne b))
theorem RSz.mul {k l : Nat} {a b : Rat} (ha : RSz k a) (hb : RSz l b) (hk : k + l ≤ 10000) : RSz (k + l) (a * b) := by
  rw [← q_mul]; exact RSz.divInt (ha.num.mul hb.num hk) (ha.den.mul hb.den hk) (Int.mul_ne_zero (den_ne a) (den_ne b))
theorem RSz.neg {k : Nat} {a : Rat} (ha : RSz k a) : RSz k (-a) := ⟨by rw [Rat.neg_num]; exact ha.num.neg, by rw [Rat.neg_den]; exact ha.den⟩
theorem num_ne {b : Rat} (h : b ≠ 0) : b.num ≠ 0 := fun h2 => h (by rwa [Rat.num_eq_zero] at h2)
theorem RSz.div {k l : Nat} {a b : Rat} (ha : RSz k a) (hb : RSz l b) (hk : k + l ≤ 10000) (h0 : b ≠ 0) : RSz (k + l) (a / b) := by
  rw [← q_div]; exact RSz.divInt (ha.num.mul hb.den hk) (ha.den.mul hb.num hk) (Int.mul_ne_zero (den_ne a) (num_ne h0))
theorem RSz.whole {k : Nat} {n : Int} (h : Sz k n) (hk : 1 ≤ k) : RSz k (n : Rat) := ⟨h, by rw [show ((n : Rat).den : Int) = 1 from rfl]; exact (Sz.of (by decide) (by decide : 1 ≤ 10000)).mono hk h.le⟩
theorem q_whole (n : Int) : Rat.divInt n 1 = (n : Rat) := by
  rw [show (1 : Int) = ((1 : Nat) : Int) from rfl, Rat.divInt_ofNat]
  exact Rat.mkRat_one n
/-- The sign of a fraction. -/
theorem rsgn_zero {b : Rat} (h : b = 0) : sgn b.num = 0 := by subst h; rfl
theorem rsgn_ne {b : Rat} (h : b ≠ 0) : sgn b.num ≠ 0 := by
  have := num_ne h
  unfold sgn; split
  · decide
  · split
    · decide
    · omega
end Go.Proofs.YtlpoboikompjfaaGreatDoor
