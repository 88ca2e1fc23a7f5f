/- Contract of integer.DivMod for numbers of at most two limbs, and for the divisor 0. Contract of integer.Gcd, from contracts of divide. Contract of integer.extOfWords. Contracts of package modular and of torsionref03: sums, products, powers. Contracts of modular.Inv and torsionref03.Inv. Contracts of modular.Symmetric, torsionref03.Symmetric, Primes and Made. Contracts of modular.passes and modular.Prime, given the two tables. Lists of residues in memory, and the map that holds them. Contract of crt's tabulate. -/
import Derived.Test.YtclmenpclkmfeaaDoorVDivModA
import Derived.Test.YtclmenpclkmfeaaDoorVDivModB
import Derived.Test.YtclmenpclkmfeaaDoorVDivModC
import Derived.Test.YtclmenpclkmfeaaDoorVDivModD
import Derived.Test.YtclmenpclkmfeaaDoorVG10DivMod
import Derived.Test.YtclmenpclkmfeaaDoorVG1CrtMap
import Derived.Test.YtclmenpclkmfeaaDoorVG2Prod
import Derived.Shelf.Spec.TrailingZeros
import Derived.Maps.OwnSet
import Derived.Maps.AppendAt
namespace Go.Proofs.YtclmenpclkmfeaaDoor
open Go.RowKit
/-- DivMod, from a contract of divide at the same sizes. -/
theorem dm_any (neg neg' : Bool) (A A' : Option Addr) (n c m d : Nat) (a b : Int) (w : World) (ha : IsInt w neg A n c a) (hb : IsInt w neg' A' m d b) (hb0 : b ≠ 0) (hm : m ≤ 1000000)
    (HD : ∀ W, Below w.heap.size w W → Calls Tryd.prog 79 #[.slice A n n, .slice A' m m] W (DivRes W (a.natAbs / b.natAbs) (a.natAbs % b.natAbs))) :
    Calls Tryd.prog 57 #[.agg #[.bool neg, .slice A n c], .agg #[.bool neg', .slice A' m d]] w (RetDM w (a / b) (a % b)) := by
  cases neg <;> cases neg'
  · exact dm_false_false_0 A A' n c m d a b _ _ w ha hb hb0 rfl rfl hm HD
  · exact dm_false_true_0 A A' n c m d a b _ _ w ha hb hb0 rfl rfl hm HD
  · rcases Nat.eq_zero_or_pos (a.natAbs % b.natAbs) with h | h
    · exact dm_true_false_z A A' n c m d a b _ _ w ha hb hb0 rfl rfl hm h HD
    · exact dm_true_false_p A A' n c m d a b _ _ w ha hb hb0 rfl rfl hm h HD
  · rcases Nat.eq_zero_or_pos (a.natAbs % b.natAbs) with h | h
    · exact dm_true_true_z A A' n c m d a b _ _ w ha hb hb0 rfl rfl hm h HD
    · exact dm_true_true_p A A' n c m d a b _ _ w ha hb hb0 rfl rfl hm h HD
theorem dmW_any (neg neg' : Bool) (A A' : Option Addr) (n c m d : Nat) (a b : Int) (w : World) (ha : IsInt w neg A n c a) (hb : IsInt w neg' A' m d b) (hb0 : b ≠ 0) (hn : n ≤ 2) (hm : m ≤ 2) :
    Calls Tryd.prog 57 #[.agg #[.bool neg, .slice A n c], .agg #[.bool neg', .slice A' m d]] w (RetDM w (a / b) (a % b)) :=
  dm_any neg neg' A A' n c m d a b w ha hb hb0 (by omega) fun W hW => divW_any A A' n n m m a.natAbs b.natAbs W ((ha.lim.tight.below hW).more hW.size) ((hb.lim.tight.below hW).more hW.size) hn hm (by omega)
end Go.Proofs.YtclmenpclkmfeaaDoor
namespace Go.Proofs.YtclmenpclkmfeaaDoor
open Go.RowKit
/-- divide serves up to L limbs. -/
def DivOk (L : Nat) : Prop := ∀ (A A' : Option Addr) (n c m d a b : Nat) (W : World), Lim W W.heap.size A n c (digs a) → Lim W W.heap.size A' m d (digs b) → n ≤ L → m ≤ L → 0 < b →
  Calls Tryd.prog 79 #[.slice A n c, .slice A' m d] W (DivRes W (a / b) (a % b))
theorem divOk2 : DivOk 2 := fun A A' n c m d a b W ha hb hn hm hb0 => divW_any A A' n c m d a b W ha hb hn hm hb0
set_option maxHeartbeats 2000000 in
theorem gcd_of (L : Nat) (HD : DivOk L) (hL : L ≤ 1000000) (neg neg' : Bool) (A A' : Option Addr) (n c m d : Nat) (a b : Int) (w : World) (ha : IsInt w neg A n c a) (hb : IsInt w neg' A' m d b) (hn : n ≤ L) (hm : m ≤ L) :
    Calls Tryd.prog 89 #[.agg #[.bool neg, .slice A n c], .agg #[.bool neg', .slice A' m d]] w (RetInt w ((Nat.gcd a.natAbs b.natAbs : Nat) : Int)) := by
  have T1 := fun W (hW : Below w.heap.size w W) => trim_digs A n c w.heap.size a.natAbs W (ha.lim.below hW)
  have T2 := fun W (hW : Below w.heap.size w W) => trim_digs A' m d w.heap.size b.natAbs W (hb.lim.below hW)
  have hla := ha.lim.tight
  have hlb := hb.lim.tight
  have HD' := Lib.hid HD
  have T1' := Lib.hid T1
  have T2' := Lib.hid T2
  clear T1 T2 HD ha hb
  generalize a.natAbs = va at *
  generalize b.natAbs = vb at *
  obtain ⟨HB, P0, Q0, R0⟩ := frame21 w (.bool neg) (.slice A n c) (.bool neg') (.slice A' m d)
  have ⟨c0, c1, _, _, _⟩ := P0
  have ⟨c2, c3, _, _, _⟩ := Q0
  go_enter Tryd.func89, Tryd.ntmps89
  go_wp2_with fail
  go_region_held3 (fun W => W.cell? ⟨w.heap.size, 0, none⟩ = some (.bool neg) ∧ W.cell? ⟨w.heap.size, 1, none⟩ = some (.slice A n c) ∧ W.cell? ⟨w.heap.size + 1, 0, none⟩ = some (.bool neg') ∧ W.cell? ⟨w.heap.size + 1, 1, none⟩ = some (.slice A' m d)) (first | exact ⟨P0.1, P0.2.1, Q0.1, Q0.2.1⟩)
    (first | (go_at_call 80; (with_reducible refine (T1'.out _ ?_).mono ?_); (first | exact HB | exact HB.drew | exact Below.drewN' HB _); rintro e w1 ⟨rfl, rfl⟩) | (go_at_call 80; (with_reducible refine (T2'.out _ ?_).mono ?_); (first | exact HB | exact HB.drew | exact Below.drewN' HB _); rintro e w1 ⟨rfl, rfl⟩))
  go_wp2
  go_loopg [5, 6] vb (fun g s t wr => ∃ (A5 A6 : Option Addr) (n5 c5 n6 c6 x : Nat), s = .slice A5 n5 c5 ∧ t = .slice A6 n6 c6 ∧ Lim wr wr.heap.size A5 n5 c5 (digs x) ∧ Lim wr wr.heap.size A6 n6 c6 (digs g) ∧ n5 ≤ L ∧ n6 ≤ L ∧ Hid (Nat.gcd x g = Nat.gcd va vb) ∧ Below w.heap.size w wr ∧ Slot2 wr (w.heap.size + 1 + 1) (.bool false) (.slice none 0 0))
  case atStart =>
    refine ⟨A, A', n, n, m, m, va, rfl, rfl, ?_, ?_, hn, hm, rfl, ?_, ?_⟩
    · exact ((hla.below HB).more HB.size).drew
    · exact ((hlb.below HB).more HB.size).drew
    · exact HB.drew
    · exact R0.drew
  case round =>
    obtain ⟨A5, A6, n5, c5, n6, c6, x, rfl, rfl, h5, h6, hn5, hn6, hg, BW, RW⟩ := hrel
    rcases Nat.eq_zero_or_pos gk with h0 | h0
    · subst h0
      have hz : n6 = 0 := by rw [← h6.len, digs_zero]; rfl
      subst hz
      have hgx : x = Nat.gcd va vb := by rw [← hg.out, Nat.gcd_zero_right]
      have HGX := Lib.hid hgx
      clear hgx
      go_wp2_with fail
      refine (clone_any A5 n5 c5 _ (digs x) _ h5 (Nat.le_refl _) (by omega)).mono ?_
      rintro e w1 ⟨A1, n1, c1, rfl, hl1, hb1⟩
      have R1 := RW.after hb1
      have B1 := BW.trans (hb1.mono BW.size)
      go_wp2_with fail
      refine (build_val false A1 n1 c1 x (x : Int) (digs x) _ hl1 (val_digs x) rfl).mono ?_
      rintro e w2 ⟨neg2, A2, n2, c2, rfl, hi2, hb2⟩
      obtain ⟨k0, k1, f0, f1, _⟩ := R1.after hb2
      rw [HGX.out] at hi2
      go_wp2
      exact bodyPost_ret (v := .agg #[.bool neg2, .slice A2 n2 c2]) (by simp [results, Tryd.results89, go_sem, k0, k1]) rfl
        (RetInt.stored hi2 B1 hb2 (by omega) k0 k1 rfl rfl)
    · have hz : 0 < n6 := by rw [← h6.len]; exact digs_len_pos h0
      by_cases hw : n5 ≤ 2 ∧ n6 ≤ 2
      · have hx2 : x < 18446744073709551616 := lt_two (by rw [h5.len]; exact hw.1)
        have hg2 : gk < 18446744073709551616 := lt_two (by rw [h6.len]; exact hw.2)
        have HW := words_yes A5 A6 n5 c5 n6 c6 _ _ _ _ wr h5 h6 hw.1 hw.2
        rw [val_digs, val_digs] at HW
        have HC := fun W => gcdWords_any x gk W hx2 hg2
        rw [hg.out] at HC
        have hgl : Nat.gcd va vb < 18446744073709551616 := by
          rw [← hg.out]
          exact Nat.lt_of_le_of_lt (Nat.le_of_dvd h0 (Nat.gcd_dvd_right x gk)) hg2
        generalize Nat.gcd va vb = G at *
        have HW' := Lib.hid HW
        have HC' := Lib.hid HC
        clear HW HC
        go_wp2_with fail
        refine HW'.out.mono ?_
        rintro e w1 ⟨rfl, hd1⟩
        go_wp2_with fail
        refine (HC'.out _).mono ?_
        rintro e w2 ⟨rfl, hd2⟩
        have hd := hd1.trans hd2
        have B2 := BW.trans (hd.below _)
        have R2 := RW.after (hd.below _)
        go_wp2_with fail
        refine (ofWord_any G _ hgl).mono ?_
        rintro e w3 ⟨A3, n3, c3, rfl, hl3, hb3⟩
        have B3 := B2.trans (hb3.mono B2.size)
        have R3 := R2.after hb3
        go_wp2_with fail
        refine (build_val false A3 n3 c3 G (G : Int) (digs G) _ hl3 (val_digs G) rfl).mono ?_
        rintro e w4 ⟨neg4, A4, n4, c4, rfl, hi4, hb4⟩
        obtain ⟨k0, k1, f0, f1, _⟩ := R3.after hb4
        go_wp2
        exact bodyPost_ret (v := .agg #[.bool neg4, .slice A4 n4 c4]) (by simp [results, Tryd.results89, go_sem, k0, k1]) rfl
          (RetInt.stored hi4 B3 hb4 (by omega) k0 k1 rfl rfl)
      · have HW' := Lib.hid (words_no A5 A6 n5 c5 n6 c6 _ _ _ _ wr h5 h6 hw)
        clear hw
        go_wp2_with fail
        refine HW'.out.mono ?_
        rintro e w1 ⟨⟨x1, y1, rfl⟩, hd1⟩
        have h5' := (h5.drawn hd1).more (B' := w1.heap.size) (by rw [hd1.size]; exact Nat.le_refl _)
        have h6' := (h6.drawn hd1).more (B' := w1.heap.size) (by rw [hd1.size]; exact Nat.le_refl _)
        have B1 := BW.trans (hd1.below _)
        have R1 := RW.after (hd1.below _)
        go_wp2_with fail
        refine (HD'.out A5 A6 n5 c5 n6 c6 x gk _ h5' h6' hn5 hn6 h0).mono ?_
        rintro e w2 ⟨A7, n7, c7, us, A8, n8, c8, vs, rfl, hl7, hl8, hv7, hv8, hn7, hb2⟩
        have HT := Lib.hid (trim_val A8 n8 c8 _ (x % gk) _ vs w2 hl8 hv8 rfl)
        have h8 := hl8.trimv hv8 rfl
        have h9 := (h6'.below hb2).more hb2.size
        have B2 := B1.trans (hb2.mono B1.size)
        have R2 := R1.after hb2
        have hlt := Nat.mod_lt x h0
        have hk : (digs (x % gk)).length ≤ n6 := by rw [← h6.len]; exact digs_len_mono (Nat.le_of_lt hlt)
        have hgg : Nat.gcd gk (x % gk) = Nat.gcd va vb := by rw [← hg.out, Nat.gcd_comm x gk, Nat.gcd_rec gk x, Nat.gcd_comm]
        have HGG := Lib.hid hgg
        clear hv7 hv8 hgg
        generalize x % gk = r at *
        obtain ⟨k, hk2⟩ : ∃ k, k = (digs r).length := ⟨_, rfl⟩
        rw [← hk2] at HT h8 hk
        clear hk2
        go_wp2_with fail
        refine HT.out.mono ?_
        rintro e w3 ⟨rfl, rfl⟩
        go_wp2
        go_roundg r
        case measure => omega
        case rel => exact ⟨A6, A8, n6, c6, k, k, gk, rfl, rfl, h9, h8, hn6, by omega, HGG.out, B2, R2⟩
end Go.Proofs.YtclmenpclkmfeaaDoor
namespace Go.Proofs.YtclmenpclkmfeaaDoor
open Go.RowKit
theorem w_bmod (x : Int) : IntKind.i64.wrap x = Int.bmod x 18446744073709551616 := by
  rw [IntKind.wrap_i64, Int.bmod_def]
  split <;> omega
theorem w_step (s s' q : Int) : IntKind.i64.wrap (IntKind.i64.wrap s - IntKind.i64.wrap (IntKind.i64.wrap q * IntKind.i64.wrap s')) = IntKind.i64.wrap (s - q * s') := by
  simp only [w_bmod, Int.bmod_sub_bmod, Int.sub_bmod_bmod, Int.bmod_mul_bmod, Int.mul_bmod_bmod]
theorem w64 (x : Int) : wrap64 x = IntKind.i64.wrap x := by unfold wrap64; rw [IntKind.wrap_i64]
theorem w_small {x : Int} (h : x.natAbs < 9223372036854775808) : IntKind.i64.wrap x = x := by rw [IntKind.wrap_i64]; omega
/-- Three integers come back. -/
def Ret3 (w : World) (x y z : Int) (e : Ending) (w' : World) : Prop := ∃ g1 A1 n1 c1 g2 A2 n2 c2 g3 A3 n3 c3, e = .returned (.tuple #[.agg #[.bool g1, .slice A1 n1 c1], .agg #[.bool g2, .slice A2 n2 c2], .agg #[.bool g3, .slice A3 n3 c3]]) ∧
  IsInt w' g1 A1 n1 c1 x ∧ IsInt w' g2 A2 n2 c2 y ∧ IsInt w' g3 A3 n3 c3 z ∧ Below w.heap.size w w'
theorem frame003 (w : World) : Below w.heap.size w (((w.alloc (.cells #[.bool false, .slice none 0 0] 28)).alloc (.cells #[.bool false, .slice none 0 0] 28)).alloc (.cells #[.bool false, .slice none 0 0] 28)) ∧
    Slot2 (((w.alloc (.cells #[.bool false, .slice none 0 0] 28)).alloc (.cells #[.bool false, .slice none 0 0] 28)).alloc (.cells #[.bool false, .slice none 0 0] 28)) w.heap.size (.bool false) (.slice none 0 0) ∧
    Slot2 (((w.alloc (.cells #[.bool false, .slice none 0 0] 28)).alloc (.cells #[.bool false, .slice none 0 0] 28)).alloc (.cells #[.bool false, .slice none 0 0] 28)) (w.heap.size + 1) (.bool false) (.slice none 0 0) ∧
    Slot2 (((w.alloc (.cells #[.bool false, .slice none 0 0] 28)).alloc (.cells #[.bool false, .slice none 0 0] 28)).alloc (.cells #[.bool false, .slice none 0 0] 28)) (w.heap.size + 1 + 1) (.bool false) (.slice none 0 0) := frame21 w _ _ _ _
end Go.Proofs.YtclmenpclkmfeaaDoor
namespace Go.Proofs.YtclmenpclkmfeaaDoor
open Go.RowKit
theorem u64_mul {a b : Nat} (h : a * b < 18446744073709551616) : IntKind.u64.wrap ((a : Int) * b) = ((a * b : Nat) : Int) := by
  have e : (a : Int) * b = ((a * b : Nat) : Int) := (Int.natCast_mul a b).symm
  rw [e, IntKind.wrap_u64]; omega
theorem u64_nat {n : Nat} (h : n < 18446744073709551616) : IntKind.u64.wrap (n : Int) = (n : Int) := by rw [IntKind.wrap_u64]; omega
theorem retV {k : IntKind} {a b : Int} (h : a = b) : Value.int k a = Value.int k b := by rw [h]
theorem mul_lt_two {a b : Nat} (ha : a < 4294967296) (hb : b < 4294967296) : a * b < 18446744073709551616 := by
  have := Nat.mul_lt_mul'' ha hb
  omega
set_option maxHeartbeats 400000 in
theorem mrem_any (n p : Nat) (w : World) (hp : 0 < p) (hn : n < 18446744073709551616) :
    Calls Tryd.prog 74 #[.int .u64 (n : Int), .int .u64 (p : Int)] w fun e w' => e = .returned (.int .u64 ((n % p : Nat) : Int)) ∧ Drawn w w' := by
  have hb1 : ((p : Int) == 0) = false := by simp; omega
  go_enter Tryd.func74, Tryd.ntmps74
  go_wp2
  go_ret
  exact ⟨retI (by rw [Int.natCast_emod]), Drawn.refl w⟩
set_option maxHeartbeats 400000 in
theorem msub_any (p a b : Nat) (w : World) (hp : p < 2147483648) (ha : a < p) (hb : b < p) :
    Calls Tryd.prog 67 #[.int .u64 (p : Int), .int .u64 (a : Int), .int .u64 (b : Int)] w fun e w' => e = .returned (.int .u64 (((a + p - b) % p : Nat) : Int)) ∧ Drawn w w' := by
  by_cases h : a < b
  · have hm : (a + p - b) % p = a + p - b := Nat.mod_eq_of_lt (by omega)
    rw [hm]
    go_enter Tryd.func67, Tryd.ntmps67
    go_wp2
    go_ret
    exact ⟨retI (by omega), Drawn.refl w⟩
  · have hm : (a + p - b) % p = a - b := by rw [show a + p - b = a - b + p by omega, Nat.add_mod_right, Nat.mod_eq_of_lt (by omega)]
    rw [hm]
    go_enter Tryd.func67, Tryd.ntmps67
    go_wp2
    go_ret
    exact ⟨retI (by omega), Drawn.refl w⟩
set_option maxHeartbeats 400000 in
theorem mmul_any (p a b : Nat) (w : World) (hp : 0 < p) (ha : a < 4294967296) (hb : b < 4294967296) :
    Calls Tryd.prog 69 #[.int .u64 (p : Int), .int .u64 (a : Int), .int .u64 (b : Int)] w fun e w' => e = .returned (.int .u64 ((a * b % p : Nat) : Int)) ∧ Drawn w w' := by
  have hl := mul_lt_two ha hb
  have hw := u64_mul hl
  have H := fun W => mrem_any (a * b) p W hp hl
  have H' := Lib.hid H
  clear H
  go_enter Tryd.func69, Tryd.ntmps69
  go_wp2_with fail
  refine (H'.out _).mono ?_
  rintro e w1 ⟨rfl, hd1⟩
  go_wp2
  go_ret
  exact ⟨retI rfl, hd1⟩
theorem and_one_u64 (q : Nat) (hq : q < 18446744073709551616) : bits .and .u64 (q : Int) 1 = ((q % 2 : Nat) : Int) := by
  have h := bits_and_u64_nat q 1 hq (by omega)
  rw [Nat.and_one_is_mod] at h
  exact_mod_cast h
set_option maxHeartbeats 400000 in
theorem mpow_any (p a e : Nat) (w : World) (hp : 0 < p) (hpl : p ≤ 4294967296) (ha : a < 4294967296) (he : e < 18446744073709551616) :
    Calls Tryd.prog 104 #[.int .u64 (p : Int), .int .u64 (a : Int), .int .u64 (e : Int)] w fun x w' => x = .returned (.int .u64 ((a ^ e % p : Nat) : Int)) ∧ Drawn w w' := by
  have H1 := fun W => mrem_any 1 p W hp (by decide)
  have HM := fun x y W (hx : x < 4294967296) (hy : y < 4294967296) => mmul_any p x y W hp hx hy
  have hs : (1 % p) * a ^ e % p = a ^ e % p := by rw [Nat.mul_mod, Nat.mod_mod, ← Nat.mul_mod, Nat.one_mul]
  generalize a ^ e % p = V at *
  have hu := Nat.mod_lt 1 hp
  generalize 1 % p = u1 at *
  have H1' := Lib.hid H1
  have HM' := Lib.hid HM
  have HS := Lib.hid hs
  clear H1 HM hs
  go_enter Tryd.func104, Tryd.ntmps104
  go_wp2_with fail
  refine (H1'.out _).mono ?_
  rintro x w1 ⟨rfl, hd1⟩
  go_wp2_with fail
  go_loopw [1, 2, 7] (fun s1 s2 s7 wr => ∃ x k u : Nat, s1 = .int .u64 x ∧ s2 = .int .u64 k ∧ s7 = .int .u64 u ∧ x < 4294967296 ∧ k < 18446744073709551616 ∧ u < p ∧ Hid (u * x ^ k % p = V) ∧ Drawn w wr) (fun _ s2 _ _ => (intOf s2).toNat)
  case atStart => exact ⟨a, e, u1, rfl, rfl, rfl, ha, he, hu, HS.out, hd1⟩
  case round =>
    obtain ⟨x, k, u, rfl, rfl, rfl, hx, hk, hul, hI, hd⟩ := hrel
    rcases Nat.eq_zero_or_pos k with h0 | h0
    · subst h0
      go_wp2_with fail
      go_ret
      refine ⟨retI ?_, hd⟩
      rw [← hI.out, Nat.pow_zero, Nat.mul_one, Nat.mod_eq_of_lt hul]
    · have hA := and_one_u64 k hk
      rcases Nat.mod_two_eq_zero_or_one k with h2 | h2
      · rw [h2] at hA
        go_wp2_with fail
        refine (HM'.out _ _ _ hx hx).mono ?_
        rintro y w2 ⟨rfl, hd2⟩
        go_wp2_with fail
        have e3 : k = 2 * (k / 2) := by omega
        refine ⟨⟨x * x % p, k / 2, u, retV (by simp), retV (by simp), rfl, Nat.lt_of_lt_of_le (Nat.mod_lt _ hp) hpl, by omega, hul, pow_even (by rw [← e3]; exact hI.out), hd.trans hd2⟩, ?_⟩
        simp only [intOf]; omega
      · rw [h2] at hA
        go_wp2_with fail
        refine (HM'.out _ _ _ (by omega) hx).mono ?_
        rintro y w2 ⟨rfl, hd2⟩
        go_wp2_with fail
        refine (HM'.out _ _ _ hx hx).mono ?_
        rintro y w3 ⟨rfl, hd3⟩
        go_wp2_with fail
        have e3 : k = 2 * (k / 2) + 1 := by omega
        refine ⟨⟨x * x % p, k / 2, u * x % p, retV (by simp), retV (by simp), retV (by simp), Nat.lt_of_lt_of_le (Nat.mod_lt _ hp) hpl, by omega, Nat.mod_lt _ hp, pow_odd (by rw [← e3]; exact hI.out), (hd.trans hd2).trans hd3⟩, ?_⟩
        simp only [intOf]; omega
theorem pow_bit {p a e k : Nat} : (a ^ (e / 2 ^ (k + 1)) % p) * (a ^ (e / 2 ^ (k + 1)) % p) % p = a ^ (2 * (e / 2 ^ (k + 1))) % p := by
  rw [← Nat.mul_mod, ← Nat.pow_add, Nat.two_mul]
theorem div_bit (e k : Nat) : e / 2 ^ (k + 1) = e / 2 ^ k / 2 := by rw [Nat.pow_succ, Nat.div_div_eq_div_mul]
end Go.Proofs.YtclmenpclkmfeaaDoor
namespace Go.Proofs.YtclmenpclkmfeaaDoor
open Go.RowKit
set_option maxHeartbeats 1000000 in
theorem minv_any (p a : Nat) (w : World) (hp : IsPrime p) (hpl : p < 2147483648) (ha : a < p) (h0 : 0 < a) :
    Calls Tryd.prog 68 #[.int .u64 (p : Int), .int .u64 (a : Int)] w fun x w' => ∃ d : Nat, x = .returned (.tuple #[.int .u64 (d : Int), .int .i64 0]) ∧ InvOk p a d ∧ Drawn w w' := by
  have HP := Lib.hid hp
  clear hp
  go_enter Tryd.func68, Tryd.ntmps68
  go_wp2_with fail
  go_loopw [6, 7, 8, 9] (fun s6 s7 s8 s9 wr => ∃ (g r : Nat) (t t' : Int), s6 = .int .u64 g ∧ s7 = .int .u64 r ∧ s8 = .int .i64 t ∧ s9 = .int .i64 t' ∧ g ≤ p ∧ r ≤ p ∧ 0 < g ∧ Hid (∃ s s' : Int, ExtInv p a g r s s' t t') ∧ Drawn w wr) (fun _ s7 _ _ _ => (intOf s7).toNat)
  case atStart => exact ⟨p, a, 0, 1, rfl, rfl, rfl, rfl, by omega, by omega, by omega, ⟨1, 0, ExtInv.start p a⟩, Drawn.refl w⟩
  case round =>
    obtain ⟨g, r, t, t', rfl, rfl, rfl, rfl, hg, hr, hg0, hI, hd⟩ := hrel
    rcases Nat.eq_zero_or_pos r with hr0 | hr0
    · subst hr0
      obtain ⟨s, s', inv⟩ := hI.out
      obtain ⟨rfl, d1, d2, d3⟩ := inv.inv HP.out h0 ha
      clear hI inv
      by_cases ht : t < 0
      · rw [if_pos ht] at d1 d2 d3
        have DD := Lib.hid d3
        have hw : IntKind.i64.wrap (t + p) = t + p := by rw [IntKind.wrap_i64]; omega
        clear d3
        go_wp2_with fail
        go_ret2
        exact ⟨(t + p).toNat, by simp; omega, DD.out, hd⟩
      · rw [if_neg ht] at d1 d2 d3
        have DD := Lib.hid d3
        clear d3
        go_wp2_with fail
        go_ret2
        exact ⟨t.toNat, by simp; omega, DD.out, hd⟩
    · have hb1 : ((r : Int) != 0) = true := by simp; omega
      have hb2 : ((r : Int) == 0) = false := by simp; omega
      obtain ⟨s, s', inv⟩ := hI.out
      have i1 := inv.small.2 hr0
      have i2 := (inv.small.1 hg0).1
      have st := inv.step hr0
      have i3 := (st.small.1 hr0).1
      have i4 := (natAbs_step (g / r) inv.g2).1
      have hq : g / r ≤ g := Nat.div_le_self g r
      have hm := Nat.mod_lt g hr0
      have HI2 : Hid (∃ s s' : Int, ExtInv p a r (g % r) s s' t' (t - (g / r : Nat) * t')) := ⟨_, _, st⟩
      have e4 : ((g / r : Nat) * t').natAbs = (g / r) * t'.natAbs := by rw [Int.natAbs_mul, Int.natAbs_natCast]
      have e5 : (g : Int) / (r : Int) = ((g / r : Nat) : Int) := rfl
      have e6 : (g : Int) % (r : Int) = ((g % r : Nat) : Int) := rfl
      clear inv st hI
      generalize g / r = q at *
      generalize g % r = r2 at *
      have w1 : wrap64 ((q : Int)) = q := by rw [w64, w_small (by rw [Int.natAbs_natCast]; omega)]
      have w2 : wrap64 ((q : Int) * t') = q * t' := by rw [w64, w_small (by rw [e4]; omega)]
      have w3 : wrap64 (t - (q : Int) * t') = t - q * t' := by rw [w64, w_small (by omega)]
      have hq64 : q < 18446744073709551616 := Nat.lt_of_le_of_lt hq (by omega)
      have w0 : IntKind.u64.wrap (q : Int) = q := u64_nat hq64
      clear i1 i2 i3 i4 e4
      have W3 := Lib.hid w3
      have E6 := Lib.hid e6
      clear w3 e6
      go_wp2_with fail
      go_quiet (fail)
      go_wp2_with fail
      refine ⟨⟨r, r2, t', t - q * t', rfl, retV E6.out, rfl, retV W3.out, by omega, by omega, hr0, HI2, hd.drewN _⟩, ?_⟩
      rw [E6.out]
      simp only [intOf]; omega
end Go.Proofs.YtclmenpclkmfeaaDoor
namespace Go.Proofs.YtclmenpclkmfeaaDoor
open Go.RowKit
/-- The representative around 0. -/
def symZ (p a : Nat) : Int := if p < 2 * a then (a : Int) - p else a
/-- Where the 15 primes lie. -/
def PrimesAt (w : World) (b : Nat) : Prop := ∀ j, j < 15 → w.cell? ⟨b, j, none⟩ = some (.int .u64 ((primes15.getD j 0 : Nat) : Int))
end Go.Proofs.YtclmenpclkmfeaaDoor
namespace Go.Proofs.YtclmenpclkmfeaaDoor
open Go.RowKit
/-- The two tables that package modular reads. -/
structure TabW (w : World) : Prop where
  t : TabAt 1 Lib.deBruijn64tab w
  b0 : w.cell? ⟨0, 0, none⟩ = some (.int .u64 2)
  b1 : w.cell? ⟨0, 1, none⟩ = some (.int .u64 3)
  b2 : w.cell? ⟨0, 2, none⟩ = some (.int .u64 5)
  b3 : w.cell? ⟨0, 3, none⟩ = some (.int .u64 7)
/-- Both tables lie below N. -/
def TabN (N : Nat) : Prop := 1 < N ∧ 0 < N
theorem TabN.le {N M : Nat} (h : TabN N) (hM : N ≤ M) : TabN M := ⟨Nat.lt_of_lt_of_le h.1 hM, Nat.lt_of_lt_of_le h.2 hM⟩
theorem TabW.below {w w' : World} {N : Nat} (h : TabW w) (hb : Below N w w') (hN : TabN N) : TabW w' :=
  ⟨fun j hj => (hb.cell (p := ⟨1, j, none⟩) hN.1).trans (h.t j hj),
    (hb.cell (p := ⟨0, 0, none⟩) hN.2).trans h.b0,
    (hb.cell (p := ⟨0, 1, none⟩) hN.2).trans h.b1,
    (hb.cell (p := ⟨0, 2, none⟩) hN.2).trans h.b2,
    (hb.cell (p := ⟨0, 3, none⟩) hN.2).trans h.b3⟩
theorem TabW.drawn {w w' : World} (h : TabW w) (hd : Drawn w w') : TabW w' := h.below (hd.below (1 + 0 + 1)) ⟨by omega, by omega⟩
set_option maxHeartbeats 1000000 in
theorem tz_core (x k idx : Nat) (w : World) (hx0 : ((x : Int) == 0) = false)
    (key : IntKind.u64.wrap (bits BinOp.and IntKind.u64 (x : Int) (IntKind.u64.wrap (-(x : Int))) * 285870213051353865) / 288230376151711744 = (idx : Int))
    (hi : idx < 64) (hk : k < 64) (hcell : w.cell? ⟨1, idx, none⟩ = some (.int .u8 k)) :
    Calls Tryd.prog 103 #[.int .u64 x] w fun e w' => e = .returned (.int .i64 k) ∧ w' = w := by
  go_enter Tryd.func103, Tryd.ntmps103
  go_wp2_with (simp only [key])
  go_ret
  exact ⟨rfl, rfl⟩
theorem tz_any (x : Nat) (w : World) (hx : x < 18446744073709551616) (hx0 : x ≠ 0) (hT : TabW w) :
    Calls Tryd.prog 103 #[.int .u64 x] w fun e w' => e = .returned (.int .i64 (Lib.ctz 64 x : Nat)) ∧ w' = w := by
  obtain ⟨hlow, hk⟩ := Lib.lowest_bit 64 x hx0 hx
  obtain ⟨hi, htab⟩ := Lib.deBruijn64_at _ hk
  have hcell := hT.t _ hi
  rw [htab] at hcell
  exact tz_core x _ _ w (by simp; omega) (tz64_key x _ hx hx0 hlow) hi hk hcell
theorem idx_bases (i : Int) (b : Int) (h : (i = 0 ∧ b = 2) ∨ (i = 1 ∧ b = 3) ∨ (i = 2 ∧ b = 5) ∨ (i = 3 ∧ b = 7)) (w : World) :
    (Instr.index 119 (.agg #[.int .u64 2, .int .u64 3, .int .u64 5, .int .u64 7]) (.int .i64 i)).run Tryd.prog w = .ok (.int .u64 b) w := by
  rcases h with ⟨rfl, rfl⟩ | ⟨rfl, rfl⟩ | ⟨rfl, rfl⟩ | ⟨rfl, rfl⟩ <;> kernel_rfl
/-- The i-th square behind x modulo n. -/
def sqs (n x : Nat) : Nat → Nat
  | 0 => x
  | i + 1 => sqs n x i * sqs n x i % n
/-- n passes the test for the base b. -/
def passB (n b : Nat) : Bool := (b ^ ((n - 1) / 2 ^ Lib.ctz 64 (n - 1)) % n == 1) || (List.range (Lib.ctz 64 (n - 1))).any (fun i => sqs n (b ^ ((n - 1) / 2 ^ Lib.ctz 64 (n - 1)) % n) i == n - 1)
def bases4 : List Nat := [2, 3, 5, 7]
set_option maxRecDepth 20000 in
set_option maxHeartbeats 1000000 in
theorem passes_any (n : Nat) (w : World) (hn : 8 ≤ n) (hnl : n < 2147483648) (hT : TabW w) :
    Calls Tryd.prog 94 #[.int .u64 (n : Int)] w fun e w' => e = .returned (.bool (bases4.all (passB n))) ∧ Drawn w w' := by
  have hw1 : IntKind.u64.wrap ((n : Int) - 1) = ((n - 1 : Nat) : Int) := by rw [IntKind.wrap_u64]; omega
  have HZ := tz_any (n - 1) w (by omega) (by omega) hT
  have hk : Lib.ctz 64 (n - 1) < 64 := (Lib.lowest_bit 64 (n - 1) (by omega) (by omega)).2
  have hpass : ∀ b, passB n b = ((b ^ ((n - 1) / 2 ^ Lib.ctz 64 (n - 1)) % n == 1) || (List.range (Lib.ctz 64 (n - 1))).any (fun i => sqs n (b ^ ((n - 1) / 2 ^ Lib.ctz 64 (n - 1)) % n) i == n - 1)) := fun b => rfl
  generalize Lib.ctz 64 (n - 1) = k at *
  have hdl : (n - 1) / 2 ^ k ≤ n - 1 := Nat.div_le_self _ _
  have hde : ((n - 1 : Nat) : Int) / 2 ^ k = (((n - 1) / 2 ^ k : Nat) : Int) := by rw [Int.natCast_ediv, Int.natCast_pow]; rfl
  generalize (n - 1) / 2 ^ k = d at *
  have HPW := fun b W (hb : b < 4294967296) => mpow_any n b d W (by omega) (by omega) hb (by omega)
  have HMU := fun x W (hx : x < 4294967296) => mmul_any n x x W (by omega) hx hx
  have HZ' := Lib.hid HZ
  have HPW' := Lib.hid HPW
  have HMU' := Lib.hid HMU
  have HP := Lib.hid hpass
  clear HZ HPW HMU hpass
  have ⟨_, b0, b1, b2, b3⟩ := hT
  go_enter Tryd.func94, Tryd.ntmps94
  go_wp2_with fail
  go_step3
  go_wp2_with fail
  refine HZ'.out.mono ?_
  rintro e w1 ⟨rfl, rfl⟩
  go_wp2_with fail
  go_step3
  go_wp2_with fail
  go_loopg [11] 4 (fun g s11 wr => ∃ i : Nat, s11 = .int .i64 (i : Int) ∧ i + g = 4 ∧ Hid (∀ j, j < i → passB n (bases4.getD j 0) = true) ∧ Drawn w1 wr)
  case atStart => exact ⟨0, rfl, by omega, fun j h => absurd h (by omega), Drawn.refl _⟩
  case round =>
    obtain ⟨i, rfl, hi, hI, hd⟩ := hrel
    cases gk with
    | zero =>
      obtain rfl : i = 4 := by omega
      go_wp2_with fail
      go_ret
      refine ⟨congrArg (fun b => Ending.returned (.bool b)) ?_, hd⟩
      have h0 := hI.out 0 (by omega)
      have h1 := hI.out 1 (by omega)
      have h2 := hI.out 2 (by omega)
      have h3 := hI.out 3 (by omega)
      have e0 : bases4.getD 0 0 = 2 := rfl
      have e1 : bases4.getD 1 0 = 3 := rfl
      have e2 : bases4.getD 2 0 = 5 := rfl
      have e3 : bases4.getD 3 0 = 7 := rfl
      rw [e0] at h0
      rw [e1] at h1
      rw [e2] at h2
      rw [e3] at h3
      simp [bases4, h0, h1, h2, h3]
    | succ g =>
      have hi4 : i = 0 ∨ i = 1 ∨ i = 2 ∨ i = 3 := by omega
      have main : ∀ b y, b = bases4.getD i 0 → y = b ^ d % n → b < 4294967296 ∧ y < n ∧ (y = 1 → passB n (bases4.getD i 0) = true) ∧ (∀ j, j < k → sqs n y j = n - 1 → passB n (bases4.getD i 0) = true) ∧ (y ≠ 1 → (∀ j, j < k → sqs n y j ≠ n - 1) → bases4.all (passB n) = false) := by
        rintro b y hb rfl
        have hp := HP.out b
        rw [← hb]
        refine ⟨?_, Nat.mod_lt _ (by omega), fun e => ?_, fun j hj e => ?_, fun e h => ?_⟩
        · rcases hi4 with rfl | rfl | rfl | rfl <;> (rw [hb]; decide)
        · rw [hp, e]; rfl
        · rw [hp]
          have : (List.range k).any (fun i => sqs n (b ^ d % n) i == n - 1) = true := List.any_eq_true.2 ⟨j, List.mem_range.2 hj, by rw [e]; simp⟩
          rw [this, Bool.or_true]
        · have h1 : (List.range k).any (fun i => sqs n (b ^ d % n) i == n - 1) = false := by
            rw [Bool.eq_false_iff]
            intro h2
            obtain ⟨j, hj, h3⟩ := List.any_eq_true.1 h2
            exact h j (List.mem_range.1 hj) (by simpa using h3)
          have h2 : (b ^ d % n == 1) = false := by simpa using e
          rw [h1, h2, Bool.or_false] at hp
          rw [Bool.eq_false_iff]
          intro h3
          have hm : b ∈ bases4 := by rw [hb]; rcases hi4 with rfl | rfl | rfl | rfl <;> decide
          have := List.all_eq_true.1 h3 b hm
          rw [hp] at this
          cases this
      obtain ⟨b, hb⟩ : ∃ b, b = bases4.getD i 0 := ⟨_, rfl⟩
      obtain ⟨y, hy⟩ : ∃ y, y = b ^ d % n := ⟨_, rfl⟩
      obtain ⟨m1, m2, m3, m4, m5⟩ := main b y hb hy
      have CP := HPW'.out b wr m1
      rw [← hy] at CP
      have CP' := Lib.hid CP
      have M3 := Lib.hid m3
      have M4 := Lib.hid m4
      have M5 := Lib.hid m5
      have E := Lib.hid hw1
      clear main CP m3 m4 m5 hy
      have step : ∀ v, v = passB n (bases4.getD i 0) → v = true → ∀ j, j < i + 1 → passB n (bases4.getD j 0) = true := by
        intro v hv h1 j hj
        rcases Nat.lt_or_ge j i with q | q
        · exact hI.out j q
        · obtain rfl : j = i := by omega
          rw [← hv, h1]
      have ST := Lib.hid step
      clear step
      rcases hi4 with rfl | rfl | rfl | rfl
      case' inl => obtain rfl : b = 2 := hb; rw [show ((0 : Nat) : Int) = 0 from rfl]; have hix := idx_bases 0 2 (by decide)
      case' inr.inl => obtain rfl : b = 3 := hb; rw [show ((1 : Nat) : Int) = 1 from rfl]; have hix := idx_bases 1 3 (by decide)
      case' inr.inr.inl => obtain rfl : b = 5 := hb; rw [show ((2 : Nat) : Int) = 2 from rfl]; have hix := idx_bases 2 5 (by decide)
      case' inr.inr.inr => obtain rfl : b = 7 := hb; rw [show ((3 : Nat) : Int) = 3 from rfl]; have hix := idx_bases 3 7 (by decide)
      all_goals (
        skip
        go_wp2_with fail
        refine CP'.out.mono ?_
        rintro e w2 ⟨rfl, hd2⟩
        have D2 := hd.trans hd2
        by_cases y1 : y = 1
        · have HT3 := Lib.hid (M3.out y1)
          subst y1
          go_wp2_with fail
          go_roundg g
          case measure => omega
          case rel => exact ⟨_, by first | rfl | simp, by omega, ST.out _ rfl HT3.out, D2⟩
        · have yb : ((y : Int) == 1) = false := by simp; omega
          go_wp2_with fail
          go_loopg [6, 24] k (fun g2 s6 s24 wy => ∃ j x : Nat, s6 = .int .u64 (x : Int) ∧ s24 = .int .i64 (j : Int) ∧ j + g2 = k ∧ x < n ∧ Hid (x = sqs n y j) ∧ Hid (∀ m, m < j → sqs n y m ≠ n - 1) ∧ Drawn w1 wy)
          case atStart => exact ⟨0, y, rfl, rfl, by omega, m2, rfl, fun m h => absurd h (by omega), D2⟩
          case round =>
            obtain ⟨j, x, rfl, rfl, hj, hx, hs, hall, hd3⟩ := hrel
            cases gk with
            | zero =>
              obtain rfl : j = k := by omega
              have HF := Lib.hid (M5.out y1 hall.out)
              go_wp2_with fail
              try rw [Exit.noGoto_ret]
              go_ret
              exact ⟨by rw [HF.out]; rfl, hd3⟩
            | succ g2 =>
              have hjk : j < k := by omega
              by_cases hxn : x = n - 1
              · have HP2 := Lib.hid (M4.out j hjk (by rw [← hs.out]; exact hxn))
                subst hxn
                go_wp2_with fail
                go_roundg g
                case measure => omega
                case rel => exact ⟨_, by first | rfl | simp, by omega, ST.out _ rfl HP2.out, hd3⟩
              · have xb : ((x : Int) == ((n - 1 : Nat) : Int)) = false := by simp; omega
                go_wp2_with fail
                refine (HMU'.out x _ (by omega)).mono ?_
                rintro e w4 ⟨rfl, hd4⟩
                go_wp2_with fail
                go_roundg g2
                case measure => omega
                case rel =>
                  refine ⟨j + 1, x * x % n, by first | rfl | simp, by first | rfl | simp, by omega, Nat.mod_lt _ (by omega), ?_, ?_, hd3.trans hd4⟩
                  · rw [Hid, hs.out]; rfl
                  · intro m hm
                    rcases Nat.lt_or_ge m j with q | q
                    · exact hall.out m q
                    · obtain rfl : m = j := by omega
                      rw [← hs.out]; exact hxn)
theorem rem_zero (n b : Nat) : ((n : Int) % (b : Int) == 0) = decide (n % b = 0) := by
  rw [Bool.eq_iff_iff, decide_eq_true_iff, beq_iff_eq]; omega
theorem eq_cast (n b : Nat) : ((n : Int) == (b : Int)) = (n == b) := by
  rw [Bool.eq_iff_iff, beq_iff_eq, beq_iff_eq]; omega
/-- Whether n is taken for a prime below 2^31. -/
def primeF (n : Nat) : Bool := if n < 2 ∨ 2147483648 ≤ n then false else if n % 2 = 0 then n == 2 else if n % 3 = 0 then n == 3 else if n % 5 = 0 then n == 5 else if n % 7 = 0 then n == 7 else bases4.all (passB n)
set_option maxRecDepth 20000 in
set_option maxHeartbeats 1000000 in
theorem prime_any (n : Nat) (w : World) (hnl : n < 18446744073709551616) (hT : TabW w) :
    Calls Tryd.prog 66 #[.int .u64 (n : Int)] w fun e w' => e = .returned (.bool (primeF n)) ∧ Drawn w w' := by
  obtain ⟨v, hv⟩ : ∃ v, v = primeF n := ⟨_, rfl⟩
  rw [← hv]
  unfold primeF at hv
  have ⟨_, b0, b1, b2, b3⟩ := hT
  have j0 := idx_bases 0 2 (by decide)
  have j1 := idx_bases 1 3 (by decide)
  have j2 := idx_bases 2 5 (by decide)
  have j3 := idx_bases 3 7 (by decide)
  by_cases h0 : n < 2
  · rw [if_pos (.inl h0)] at hv
    subst hv
    go_enter Tryd.func66, Tryd.ntmps66
    go_wp2_with fail
    go_ret
    exact ⟨rfl, Drawn.refl _⟩
  · by_cases h1 : 2147483648 ≤ n
    · rw [if_pos (.inr h1)] at hv
      subst hv
      go_enter Tryd.func66, Tryd.ntmps66
      go_wp2_with fail
      go_ret
      exact ⟨rfl, Drawn.refl _⟩
    · rw [if_neg (by omega)] at hv
      have k1 : n < 2147483648 := by omega
      have main : ∀ i, i < 4 → (∀ j, j < i → n % bases4.getD j 0 ≠ 0) → n % bases4.getD i 0 = 0 → v = (n == bases4.getD i 0) := by
        intro i hi ha hz
        have a0 : 0 < i → n % 2 ≠ 0 := fun h => ha 0 h
        have a1 : 1 < i → n % 3 ≠ 0 := fun h => ha 1 h
        have a2 : 2 < i → n % 5 ≠ 0 := fun h => ha 2 h
        have hi4 : i = 0 ∨ i = 1 ∨ i = 2 ∨ i = 3 := by omega
        rcases hi4 with rfl | rfl | rfl | rfl
        · rw [hv]; have hz : n % 2 = 0 := hz; rw [if_pos hz]; rfl
        · rw [hv]; have hz : n % 3 = 0 := hz; rw [if_neg (a0 (by omega)), if_pos hz]; rfl
        · rw [hv]; have hz : n % 5 = 0 := hz; rw [if_neg (a0 (by omega)), if_neg (a1 (by omega)), if_pos hz]; rfl
        · rw [hv]; have hz : n % 7 = 0 := hz; rw [if_neg (a0 (by omega)), if_neg (a1 (by omega)), if_neg (a2 (by omega)), if_pos hz]; rfl
      have last : (∀ j, j < 4 → n % bases4.getD j 0 ≠ 0) → 8 ≤ n ∧ v = bases4.all (passB n) := by
        intro ha
        have a0 : n % 2 ≠ 0 := ha 0 (by omega)
        have a1 : n % 3 ≠ 0 := ha 1 (by omega)
        have a2 : n % 5 ≠ 0 := ha 2 (by omega)
        have a3 : n % 7 ≠ 0 := ha 3 (by omega)
        refine ⟨?_, ?_⟩
        · rcases Nat.lt_or_ge n 8 with q | q
          · exfalso
            have hn : n = 2 ∨ n = 3 ∨ n = 4 ∨ n = 5 ∨ n = 6 ∨ n = 7 := by omega
            rcases hn with rfl | rfl | rfl | rfl | rfl | rfl
            · exact a0 rfl
            · exact a1 rfl
            · exact a0 rfl
            · exact a2 rfl
            · exact a0 rfl
            · exact a3 rfl
          · exact q
        rw [hv, if_neg a0, if_neg a1, if_neg a2, if_neg a3]
      have MN := Lib.hid main
      have LS := Lib.hid last
      clear main last hv
      go_enter Tryd.func66, Tryd.ntmps66
      go_wp2_with fail
      go_loopg [12] 4 (fun g s12 wr => ∃ i : Nat, s12 = .int .i64 (i : Int) ∧ i + g = 4 ∧ Hid (∀ j, j < i → n % bases4.getD j 0 ≠ 0) ∧ Drawn w wr)
      case atStart => exact ⟨0, rfl, by omega, fun j h => absurd h (by omega), Drawn.refl _⟩
      case round =>
        obtain ⟨i, rfl, hi, hI, hd⟩ := hrel
        cases gk with
        | zero =>
          obtain rfl : i = 4 := by omega
          obtain ⟨h8, hvp⟩ := LS.out hI.out
          have CP := Lib.hid (passes_any n wr h8 k1 (hT.drawn hd))
          rw [← hvp] at CP
          clear hvp
          go_wp2_with fail
          refine CP.out.mono ?_
          rintro e w2 ⟨rfl, hd2⟩
          go_wp2_with fail
          go_ret
          exact ⟨rfl, hd.trans hd2⟩
        | succ g =>
          have hi4 : i = 0 ∨ i = 1 ∨ i = 2 ∨ i = 3 := by omega
          obtain ⟨b, hb⟩ : ∃ b, b = bases4.getD i 0 := ⟨_, rfl⟩
          have M1 := MN.out i (by omega) hI.out
          rw [← hb] at M1
          have M2 : n % b ≠ 0 → ∀ j, j < i + 1 → n % bases4.getD j 0 ≠ 0 := by
            intro h j hj
            rcases Nat.lt_or_ge j i with q | q
            · exact hI.out j q
            · obtain rfl : j = i := by omega
              rwa [← hb]
          have m1 := Lib.hid M1
          have m2 := Lib.hid M2
          clear M1 M2
          rcases hi4 with rfl | rfl | rfl | rfl
          case' inl =>
            obtain rfl : b = 2 := hb
            rw [show ((0 : Nat) : Int) = 0 from rfl]
            have rz : ((n : Int) % 2 == 0) = decide (n % 2 = 0) := rem_zero n 2
            have ez : ((n : Int) == 2) = (n == 2) := eq_cast n 2
            have m3 := Lib.hid ez
            clear ez
            generalize hq : decide (n % 2 = 0) = q at rz
          case' inr.inl =>
            obtain rfl : b = 3 := hb
            rw [show ((1 : Nat) : Int) = 1 from rfl]
            have rz : ((n : Int) % 3 == 0) = decide (n % 3 = 0) := rem_zero n 3
            have ez : ((n : Int) == 3) = (n == 3) := eq_cast n 3
            have m3 := Lib.hid ez
            clear ez
            generalize hq : decide (n % 3 = 0) = q at rz
          case' inr.inr.inl =>
            obtain rfl : b = 5 := hb
            rw [show ((2 : Nat) : Int) = 2 from rfl]
            have rz : ((n : Int) % 5 == 0) = decide (n % 5 = 0) := rem_zero n 5
            have ez : ((n : Int) == 5) = (n == 5) := eq_cast n 5
            have m3 := Lib.hid ez
            clear ez
            generalize hq : decide (n % 5 = 0) = q at rz
          case' inr.inr.inr =>
            obtain rfl : b = 7 := hb
            rw [show ((3 : Nat) : Int) = 3 from rfl]
            have rz : ((n : Int) % 7 == 0) = decide (n % 7 = 0) := rem_zero n 7
            have ez : ((n : Int) == 7) = (n == 7) := eq_cast n 7
            have m3 := Lib.hid ez
            clear ez
            generalize hq : decide (n % 7 = 0) = q at rz
          all_goals (
            cases q
            case' true => have hv := Lib.hid (m1.out (of_decide_eq_true hq))
            case' false => have hv := Lib.hid (m2.out (of_decide_eq_false hq))
            clear hq)
          case succ.inl.true | succ.inr.inl.true | succ.inr.inr.inl.true | succ.inr.inr.inr.true =>
            go_wp2_with fail
            go_ret
            exact ⟨by rw [hv.out, ← m3.out]; rfl, hd⟩
          case succ.inl.false | succ.inr.inl.false | succ.inr.inr.inl.false | succ.inr.inr.inr.false =>
            go_wp2_with fail
            go_roundg g
            case measure => omega
            case rel => exact ⟨_, by first | rfl | simp, by omega, hv.out, hd⟩
end Go.Proofs.YtclmenpclkmfeaaDoor
namespace Go.Proofs.YtclmenpclkmfeaaDoor
open Go.RowKit Go.Maps
/-- The list of residues L lies in n elements from A on. -/
structure ResL (w : World) (A : Option Addr) (n : Nat) (L : List (Nat × Nat)) : Prop where
  len : L.length = n
  bd : ∀ x ∈ L, x.1 < 18446744073709551616 ∧ x.2 < 18446744073709551616
  rd : 0 < n → ∃ b o, A = some ⟨b, o, none⟩ ∧ b < w.heap.size ∧ ∀ k, k < n → w.cell? ⟨b, o + k * 2, none⟩ = some (.int .u64 ((L.getD k (0, 0)).1 : Int)) ∧ w.cell? ⟨b, o + k * 2 + 1, none⟩ = some (.int .u64 ((L.getD k (0, 0)).2 : Int))
theorem ResL.below {w w' : World} {A : Option Addr} {n : Nat} {L : List (Nat × Nat)} (h : ResL w A n L) (hb : Below w.heap.size w w') : ResL w' A n L :=
  ⟨h.len, h.bd, fun hn => by
    obtain ⟨b, o, e, hl, hc⟩ := h.rd hn
    exact ⟨b, o, e, Nat.lt_of_lt_of_le hl hb.size, fun k hk => ⟨(hb.cell (p := ⟨b, _, none⟩) hl).trans (hc k hk).1, (hb.cell (p := ⟨b, _, none⟩) hl).trans (hc k hk).2⟩⟩⟩
theorem resL_nil (w : World) : ResL w none 0 [] := ⟨rfl, (fun x hx => by cases hx), fun h => absurd h (by omega)⟩
theorem getD_mem {L : List (Nat × Nat)} {k : Nat} (hk : k < L.length) : L.getD k (0, 0) ∈ L := by
  rw [List.getD_eq_getElem?_getD, List.getElem?_eq_getElem hk]; exact List.getElem_mem hk
theorem ResL.bd1 {w : World} {A : Option Addr} {n : Nat} {L : List (Nat × Nat)} (h : ResL w A n L) {k : Nat} (hk : k < n) : (L.getD k (0, 0)).1 < 18446744073709551616 ∧ (L.getD k (0, 0)).2 < 18446744073709551616 :=
  h.bd _ (getD_mem (by rw [h.len]; exact hk))
/-- The map of a list of residues, the last one first. -/
def tabD {H : Type} : List (Nat × Nat) → DataW H
  | [] => .map []
  | x :: l => (tabD l).put (.int .u64 (x.1 : Int)) (.lit (.int .u64 (x.2 : Int)))
theorem tabD_map {H : Type} : ∀ l, IsMap (tabD (H := H) l)
  | [] => isMap_empty
  | _ :: l => (tabD_map l).put _ _
theorem key_ne {p q : Nat} (h : p ≠ q) : (Lit.int .u64 (p : Int)) ≠ Lit.int .u64 (q : Int) := by
  intro e
  injection e with _ e
  omega
theorem tabD_has {H : Type} (p : Nat) : ∀ l, Maps.has (tabD (H := H) l) (.int .u64 (p : Int)) = l.any (fun x => x.1 == p)
  | [] => rfl
  | x :: l => by
    rw [List.any_cons, ← tabD_has p l]
    by_cases h : x.1 = p
    · subst h
      show Maps.has ((tabD l).put _ _) _ = _
      rw [has_put_same (tabD_map l) (show WideAt.IsKeyLit (.int .u64 (x.1 : Int)) from trivial)]
      simp
    · show Maps.has ((tabD l).put _ _) _ = _
      rw [has_put_other (key_ne (Ne.symm h)), show (x.1 == p) = false by simpa using h, Bool.false_or]
theorem tabD_at {H : Type} {p v : Nat} (z : DataW H) : ∀ {l : List (Nat × Nat)}, l.Pairwise (fun x y => x.1 ≠ y.1) → (p, v) ∈ l → (tabD (H := H) l).atKey (.int .u64 (p : Int)) z = .lit (.int .u64 (v : Int))
  | [], _, h => by cases h
  | x :: l, hp, h => by
    show ((tabD l).put _ _).atKey _ _ = _
    rcases List.mem_cons.1 h with h | h
    · subst h
      exact atKey_put_same (tabD_map l) (show WideAt.IsKeyLit (.int .u64 (p : Int)) from trivial) _ _
    · have hne := (List.pairwise_cons.1 hp).1 _ h
      rw [atKey_put_other (key_ne (Ne.symm hne))]
      exact tabD_at z (List.pairwise_cons.1 hp).2 h
theorem take_rev {L : List (Nat × Nat)} {k : Nat} (hk : k < L.length) : (L.take (k + 1)).reverse = L.getD k (0, 0) :: (L.take k).reverse := by
  rw [List.take_add_one, List.getElem?_eq_getElem hk, List.getD_eq_getElem?_getD, List.getElem?_eq_getElem hk]
  simp
theorem take_fst {L : List (Nat × Nat)} {k : Nat} (hk : k < L.length) : (L.take (k + 1)).map Prod.fst = (L.take k).map Prod.fst ++ [(L.getD k (0, 0)).1] := by
  rw [List.take_add_one, List.getElem?_eq_getElem hk, List.getD_eq_getElem?_getD, List.getElem?_eq_getElem hk, List.map_append]
  rfl
/-- The residue with the number k is acceptable behind those before it. -/
def OkAt (L : List (Nat × Nat)) (k : Nat) : Prop := (L.take k).reverse.any (fun x => x.1 == (L.getD k (0, 0)).1) = false ∧ (L.getD k (0, 0)).2 < (L.getD k (0, 0)).1 ∧ primeF (L.getD k (0, 0)).1 = true
/-- The list is acceptable. -/
def OkR (L : List (Nat × Nat)) : Prop := ∀ k, k < L.length → OkAt L k
theorem OkR.pair {L : List (Nat × Nat)} (h : OkR L) : ∀ k, k ≤ L.length → (L.take k).reverse.Pairwise (fun x y => x.1 ≠ y.1)
  | 0, _ => by simp
  | k + 1, hk => by
    rw [take_rev (by omega)]
    refine List.pairwise_cons.2 ⟨fun y hy e => ?_, h.pair k (by omega)⟩
    have h1 := (h k (by omega)).1
    rw [List.any_eq_false] at h1
    exact h1 y hy (by rw [beq_iff_eq]; exact e.symm)
/-- A row of numbers of the call's own. -/
def OwnU (w : World) (base : Nat) (v : Value) (n : Nat) (xs : List Nat) : Prop := w.ownsRow base 39 1 v n (xs.map fun x : Nat => Value.int .u64 (x : Int))
theorem OwnU.form {w : World} {base : Nat} {v : Value} {n : Nat} {xs : List Nat} (h : OwnU w base v n xs) : ∃ A c, v = .slice A n c ∧ xs.length = n ∧ (0 < n → ∃ g, A = some ⟨g, 0, none⟩ ∧ base ≤ g ∧ g < w.heap.size ∧ ∀ k, k < n → w.cell? ⟨g, k, none⟩ = some (.int .u64 ((xs.getD k 0 : Nat) : Int))) := by
  have hl := h.1
  rw [List.length_map, Nat.mul_one] at hl
  rcases h.2 with ⟨rfl, rfl⟩ | ⟨g, cap, cur, rfl, hb, hg, hn, hm, hs, ht⟩
  · exact ⟨none, 0, rfl, hl, fun h => absurd h (by omega)⟩
  · refine ⟨_, _, rfl, hl, fun _ => ⟨g, rfl, hb, (Array.getElem?_eq_some_iff.1 hg).1, fun k hk => ?_⟩⟩
    have hc := World.ownsRow.cells h (g := g) rfl k (.int .u64 ((xs.getD k 0 : Nat) : Int)) (by
      rw [List.getElem?_map, List.getD_eq_getElem?_getD, List.getElem?_eq_getElem (by omega)]; rfl)
    rwa [Addr.add_lit, Nat.zero_add] at hc
theorem OwnU.keep {w w' : World} {base : Nat} {v : Value} {n : Nat} {xs : List Nat} (h : OwnU w base v n xs) (hb : Below w.heap.size w w') : OwnU w' base v n xs := by
  refine ⟨h.1, ?_⟩
  rcases h.2 with hn | ⟨g, cap, cur, rfl, hg, hgg, rest⟩
  · exact .inl hn
  · exact .inr ⟨g, cap, cur, rfl, hg, by rw [hb.block g (Array.getElem?_eq_some_iff.1 hgg).1]; exact hgg, rest⟩
theorem OwnU.far {w : World} {base : Nat} {v : Value} {n : Nat} {xs : List Nat} (h : OwnU w base v n xs) {p : Addr} (hp : p.block < base) (u : Value) : OwnU (w.setCell p u) base v n xs := by
  refine ⟨h.1, ?_⟩
  rcases h.2 with hn | ⟨g, cap, cur, rfl, hg, hgg, rest⟩
  · exact .inl hn
  · exact .inr ⟨g, cap, cur, rfl, hg, (Below.heap_setCell w p u g (by omega)).trans hgg, rest⟩
theorem infoU64 : (Tryd.prog.info? 39).map (fun i => (i.zero, i.size, i.bytes)) = some (some (.int .u64 0), 1, 8) := by kernel_rfl
theorem row_ne {w : World} {base : Nat} {e : TypeId} {size : Nat} {v : Value} {n : Nat} {xs : List Value} (h : w.ownsRow base e size v n xs) {b : Nat} (hb : b < base) : v.ownBlock ≠ some b := fun e1 => by
  have := (h.lt b e1).1
  omega
theorem OwnU.grown {w w' : World} {base : Nat} {v : Value} {n : Nat} {xs : List Nat} (h : OwnU w base v n xs) {b : Nat} (hg : w.grownBy w' (some b)) (hb : b < base) : OwnU w' base v n xs :=
  World.ownsRow.kept h hg (Or.inr (row_ne h hb))
theorem wpList_append_u {ops : Array Oper} {rest : List Oper} {o : Oper} {a : Act} {Q : Exit → Act → World → Prop} (w : World) (hgd : o.guard = none) (s x : Operand)
    (ho : o.op = .call { callee := .builtin .append, args := #[s, x], argTypes := #[53, 53] })
    (base : Nat) (A : Option Addr) (n c : Nat) (xs : List Nat) (hs : a.eval s = .slice A n c) (hown : OwnU w base (.slice A n c) n xs)
    (g p : Nat) (hx : a.eval x = .slice (some ⟨g, 0, none⟩) 1 1) (hp : w.cell? ⟨g, 0, none⟩ = some (.int .u64 (p : Int))) (h63 : n ≤ 1000000) (hbase : base ≤ w.heap.size)
    (h : ∀ A' c' w', OwnU w' base (.slice A' (n + 1) c') (n + 1) (xs ++ [p]) → w.grownBy w' (Value.slice A n c).ownBlock → wpList Tryd.prog ops Q rest (a.put o.dst (.slice A' (n + 1) c')) w') :
    wpList Tryd.prog ops Q (o :: rest) a w := by
  obtain ⟨i0, hi, hz0, hz1, hz2⟩ := info_parts infoU64
  refine wpList_append_own w hgd s x 53 ho base 39 i0 (.int .u64 0) 1 8 Tryd.underlying53 hi hz0 hz1 hz2 rfl (by decide) _ n _ hs hown ⟨g, 0, none⟩ 1 1 [.int .u64 (p : Int)] hx rfl (fun j u hj => ?_) (ints_oneCell .u64 [(p : Int)]) (by unfold maxLen; omega) (by omega) hbase (fun v' w' h1 h2 _ => ?_)
  · match j, hj with
    | 0, hj =>
      simp at hj
      subst hj
      simpa [Addr.add] using hp
  · have h3 : OwnU w' base v' (n + 1) (xs ++ [p]) := by
      unfold OwnU
      rw [List.map_append]
      exact h1
    obtain ⟨A', c', rfl, _, _⟩ := h3.form
    exact h A' c' w' h3 h2
theorem Slot2.set0 {w : World} {g : Nat} {a0 a1 : Value} (h : Slot2 w g a0 a1) (u : Value) : Slot2 (w.setCell ⟨g, 0, none⟩ u) g u a1 := by
  obtain ⟨h0, h1, f0, f1, hl⟩ := h
  refine ⟨World.cell?_setCell_same _ _ _ h0, by rw [World.cell?_setCell_other _ _ _ _ (by simp), h1], ?_, ?_, ?_⟩
  · simp [f0]
  · simp [f1]
  · simp only [World.setCell, Array.size_modify]; exact hl
end Go.Proofs.YtclmenpclkmfeaaDoor
namespace Go.Proofs.YtclmenpclkmfeaaDoor
open Go.RowKit Go.Maps
/-- What tabulate leaves: the table, or nothing. -/
def RetTab (w : World) (n : Nat) (L : List (Nat × Nat)) (e : Ending) (w' : World) : Prop := Below w.heap.size w w' ∧
  ((∃ Ap cp, e = .returned (.tuple #[.agg #[.slice Ap n cp, .map (some (w.heap.size + 1))], .bool true]) ∧ w'.ownsMap Tryd.prog 39 (plainElem (H := Unit) Tryd.prog 39) (w.heap.size + 1) n (tabD L.reverse) ∧ OwnU w' (w.heap.size + 1 + 1 + 1) (.slice Ap n cp) n (L.map Prod.fst) ∧ Hid (OkR L)) ∨
   (e = .returned (.tuple #[.agg #[.slice none 0 0, .map none], .bool false]) ∧ Hid (¬ OkR L)))
theorem make_hint (n : Nat) (w : World) : (Instr.makeMap 73 (some (.int .i64 (n : Int)))).run Tryd.prog w = .ok (.map (some w.heap.size)) (w.alloc (.map #[] 0)) := by
  simp [Instr.makeMap, run_underlying Tryd.underlying73, asInt, asIntOf, Result.andThen]
set_option maxRecDepth 100000 in
set_option maxHeartbeats 2000000 in
theorem tab_z (A : Option Addr) (n c : Nat) (L : List (Nat × Nat)) (w : World) (h : ResL w A n L) (hn : n ≤ 1000) (hT : TabW w) (h5 : TabN w.heap.size) :
    Calls Tryd.prog 41 #[.slice A n c] w (RetTab w n L) := by
  have hmm := make_hint n
  obtain ⟨i0, hi, hz0, hz1, hz2⟩ := info_parts infoU64
  have hlen := h.len
  go_enter Tryd.func41, Tryd.ntmps41
  go_wp2
  go_loopw [15] (fun s15 wr => ∃ k : Nat, k ≤ n ∧ s15 = .int .i64 k ∧ ∃ Av cv, Slot2 wr w.heap.size (.slice none 0 0) (.map none) ∧ Slot2 wr (w.heap.size + 1 + 1) (.slice Av k cv) (.map (some (w.heap.size + 1))) ∧ wr.ownsMap Tryd.prog 39 (plainElem (H := Unit) Tryd.prog 39) (w.heap.size + 1) k (tabD (L.take k).reverse) ∧
      OwnU wr (w.heap.size + 1 + 1 + 1) (.slice Av k cv) k ((L.take k).map Prod.fst) ∧ Below w.heap.size w wr ∧ w.heap.size + 1 + 1 + 1 ≤ wr.heap.size ∧ Hid (∀ i, i < k → OkAt L i)) (fun s15 _ => n - (intOf s15).toNat)
  case atStart =>
    refine ⟨0, Nat.zero_le _, rfl, none, 0, ?_, ?_, ?_, ?_, ?_, ?_, fun i h => absurd h (by omega)⟩
    · exact ((Slot2.new w _ _ _).alloc _).alloc _
    · have := Slot2.new ((w.alloc (.cells #[.slice none 0 0, .map none] 75)).alloc (.map #[] 0)) (.slice none 0 0) (.map (some (w.heap.size + 1))) 75
      simpa only [World.size_alloc] using this
    · have := World.ownsMap_made (w.alloc (.cells #[.slice none 0 0, .map none] 75)) Tryd.prog 39 (plainElem (H := Unit) Tryd.prog 39)
      rw [World.size_alloc] at this
      exact this.alloc _
    · exact World.ownsRow_nil _ _ _ _
    · have b1 := (Below.refl w.heap.size w).alloc (Nat.le_refl _) (.cells #[.slice none 0 0, .map none] 75)
      have b2 := b1.alloc b1.size (.map #[] 0)
      exact b2.alloc b2.size _
    · simp
  case round =>
    obtain ⟨k, hk, rfl, Av, cv, R, T, hown, hrow, hnx, hws, hok⟩ := hrel
    rcases Nat.lt_or_ge k n with hkn | hkn
    · obtain ⟨b, o, rfl, hb, hc⟩ := h.rd (by omega)
      obtain ⟨c0, c1⟩ := hc k hkn
      have hc0 := (hnx.cell (p := ⟨b, o + k * 2, none⟩) hb).trans c0
      have hc1 := (hnx.cell (p := ⟨b, o + k * 2 + 1, none⟩) hb).trans c1
      obtain ⟨p, hp⟩ : ∃ p, p = (L.getD k (0, 0)).1 := ⟨_, rfl⟩
      obtain ⟨q, hq⟩ : ∃ q, q = (L.getD k (0, 0)).2 := ⟨_, rfl⟩
      obtain ⟨bp, bq⟩ := h.bd1 hkn
      rw [← hp] at hc0 bp
      rw [← hq] at hc1 bq
      obtain ⟨D, hD⟩ : ∃ D : DataW Unit, D = tabD (L.take k).reverse := ⟨_, rfl⟩
      rw [← hD] at hown
      obtain ⟨bb, hbb⟩ : ∃ bb, Maps.has D (.int .u64 (p : Int)) = bb := ⟨_, rfl⟩
      have hany := hbb
      rw [hD, tabD_has] at hany
      have HP := Lib.hid hp
      have HQ := Lib.hid hq
      have HD := Lib.hid hD
      have HA := Lib.hid hany
      have hkey : keyOf Tryd.prog 39 (.int .u64 (p : Int)) = some (.int .u64 (p : Int)) := keyOf_int_mk Tryd.underlying39 (by simp [Lit.wf, IntKind.min, IntKind.max, IntKind.signed, IntKind.bits]; omega)
      have T1 := T.alloc (.cells #[.int .u64 (p : Int), .int .u64 (q : Int)] 41)
      have R1 := R.alloc (.cells #[.int .u64 (p : Int), .int .u64 (q : Int)] 41)
      have hown1 := hown.alloc (.cells #[.int .u64 (p : Int), .int .u64 (q : Int)] 41)
      have ⟨t0, t1, t2, t3, _⟩ := T1
      have ⟨r0, r1, r2, r3, _⟩ := R1
      clear hp hq hD hany c0 c1 hc T R
      cases bb with
      | true =>
        go_wp2_with (at_lookup; refine wpList_lookup_own_ok_int _ rfl _ _ 73 rfl 39 39 .u64 lawU Tryd.underlying73 Tryd.underlying39 (zeroU _) (w.heap.size + 1) k _ rfl hown1 _ _ rfl hkey ?_; intro c hat hwc; rw [hbb])
        exact bodyPost_ret (v := .tuple #[.agg #[.slice none 0 0, .map none], .bool false]) (by simp [results, Tryd.results41, go_sem, r0, r1]) rfl ⟨Below.set2 (hnx.alloc hnx.size _) (by omega) _ _, .inr ⟨rfl, fun hall => by
          have := (hall k (by rw [hlen]; exact hkn)).1
          rw [← HP.out, HA.out] at this
          cases this⟩⟩
      | false =>
        rcases Nat.lt_or_ge q p with hqp | hqp
        · have hge : decide (p ≤ q) = false := by simp; omega
          have hT1 : TabW (wr.alloc (.cells #[.int .u64 (p : Int), .int .u64 (q : Int)] 41)) := (hT.below hnx h5).below ((Below.refl _ _).alloc (Nat.le_refl _) _) (h5.le hnx.size)
          go_wp2_with (at_lookup; refine wpList_lookup_own_ok_int _ rfl _ _ 73 rfl 39 39 .u64 lawU Tryd.underlying73 Tryd.underlying39 (zeroU _) (w.heap.size + 1) k _ rfl hown1 _ _ rfl hkey ?_; intro c hat hwc; rw [hbb])
          (with_reducible refine (prime_any p _ bp hT1).mono ?_)
          rintro e w2 ⟨rfl, hd2⟩
          obtain ⟨pf, hpf⟩ : ∃ pf, primeF p = pf := ⟨_, rfl⟩
          have HPF := Lib.hid hpf
          rw [hpf]
          have hbX := hd2.below (wr.alloc (.cells #[.int .u64 (p : Int), .int .u64 (q : Int)] 41)).heap.size
          have T2 := T1.after hbX
          have R2 := R1.after hbX
          have S2 := (Slot2.new wr (.int .u64 (p : Int)) (.int .u64 (q : Int)) 41).after hbX
          have hown2 := ownsMap_below hown1 hbX
          have hrow2 := OwnU.keep (World.ownsRow.alloc hrow (.cells #[.int .u64 (p : Int), .int .u64 (q : Int)] 41)) hbX
          have B2 := (hnx.alloc hnx.size (.cells #[.int .u64 (p : Int), .int .u64 (q : Int)] 41)).trans (hbX.mono (by simp; omega))
          have hw2 := hbX.size
          rw [World.size_alloc] at hw2
          clear t0 t1 t2 t3 r0 r1 r2 r3 hd2 hbX hpf T1 R1 hown1 hT1
          have ⟨t0, t1, t2, t3, _⟩ := T2
          have ⟨r0, r1, r2, r3, _⟩ := R2
          have ⟨s0, s1, s2, s3, _⟩ := S2
          cases pf with
          | false =>
            go_wp2_with fail
            exact bodyPost_ret (v := .tuple #[.agg #[.slice none 0 0, .map none], .bool false]) (by simp [results, Tryd.results41, go_sem, r0, r1]) rfl ⟨Below.set2 B2 (by omega) _ _, .inr ⟨rfl, fun hall => by
              have := (hall k (by rw [hlen]; exact hkn)).2.2
              rw [← HP.out, HPF.out] at this
              cases this⟩⟩
          | true =>
            have hrow3 : OwnU (w2.alloc (.cells #[.int .u64 (p : Int)] 39)) (w.heap.size + 1 + 1 + 1) (.slice Av k cv) k ((L.take k).map Prod.fst) := World.ownsRow.alloc hrow2 _
            have T3 := T2.alloc (.cells #[.int .u64 (p : Int)] 39)
            have R3 := R2.alloc (.cells #[.int .u64 (p : Int)] 39)
            have S3 := S2.alloc (.cells #[.int .u64 (p : Int)] 39)
            have C3 : (w2.alloc (.cells #[.int .u64 (p : Int)] 39)).cell? ⟨w2.heap.size, 0, none⟩ = some (.int .u64 (p : Int)) := by simp
            have E3 : w.heap.size + 1 + 1 + 1 ≤ (w2.alloc (.cells #[.int .u64 (p : Int)] 39)).heap.size := by simp; omega
            go_wp2_with (first
              | (at_builtin; refine wpList_append_u _ rfl (.tmp 43) (.tmp 46) rfl (w.heap.size + 1 + 1 + 1) Av k cv _ rfl hrow3 w2.heap.size p rfl C3 (by omega) E3 ?_; intro A4 c4 w4 ho4 hg4; have T4 := Slot2.grown T3 hg4 (row_ne hrow3 (by omega)).symm; have S4 := Slot2.grown S3 hg4 (fun e => absurd (World.ownsRow.lt hrow _ e.symm).2 (Nat.lt_irrefl _)); have ⟨x0, x1, x2, x3, _⟩ := T4; have ⟨y0, y1, y2, y3, _⟩ := S4; have hown4 := World.ownsMap.kept (hown2.alloc _) hg4 (row_ne hrow3 (by omega)).symm)
              | (at_mapUpdate; refine wpList_mapUpdate_own _ rfl _ _ _ 73 rfl 39 39 lawU Tryd.underlying73 _ (w.heap.size + 1) k _ rfl (ownsMap_set hown4 (by simp) _) (by unfold maxLen; omega) _ _ _ rfl rfl hkey _ [] (plainElem_int Tryd.underlying39 (by simp [Lit.wf, IntKind.min, IntKind.max, IntKind.signed, IntKind.bits]; omega)) ?_; intro w6 hown6 hgrow6))
            have g4 := hg4.size
            have g6 := hgrow6.size
            rw [World.size_alloc] at g4
            have g5 : (w4.setCell ⟨w.heap.size + 1 + 1, 0, none⟩ (.slice A4 (k + 1) c4)).heap.size = w4.heap.size := by simp [World.setCell]
            rw [g5] at g6
            have B4 : Below w.heap.size w w4 := (B2.alloc B2.size _).grown hg4 (by simp; omega) (fun j hj => Nat.le_trans (by omega) (World.ownsRow.lt hrow3 j hj).1)
            have B6 : Below w.heap.size w w6 := (B4.setCell (by simp; omega) _).grown hgrow6 (by rw [g5]; omega) (fun j hj => by cases hj; omega)
            have R6 := ((Slot2.grown R3 hg4 (row_ne hrow3 (by omega)).symm).far (g' := w.heap.size + 1 + 1) (i := 0) (by omega) (.slice A4 (k + 1) c4)).grown hgrow6 (by simp)
            have T6 := (T4.set0 (.slice A4 (k + 1) c4)).grown hgrow6 (by simp)
            have O6 := (ho4.far (p := ⟨w.heap.size + 1 + 1, 0, none⟩) (by simp) (.slice A4 (k + 1) c4)).grown hgrow6 (by omega)
            have hkl : k < L.length := by rw [hlen]; exact hkn
            go_roundw
            case rel =>
              refine ⟨k + 1, by omega, by go_num, A4, c4, R6, T6, ?_, ?_, B6, by omega, ?_⟩
              · rw [take_rev hkl]
                show w6.ownsMap _ _ _ _ _ ((tabD (L.take k).reverse).put _ _)
                rw [← HD.out, ← HP.out, ← HQ.out]
                exact hown6
              · rw [take_fst hkl, ← HP.out]; exact O6
              · intro i hi
                rcases Nat.lt_or_ge i k with h1 | h1
                · exact hok.out i h1
                · obtain rfl : i = k := by omega
                  exact ⟨by rw [← HP.out]; exact HA.out, by rw [← HP.out, ← HQ.out]; exact hqp, by rw [← HP.out]; exact HPF.out⟩
            case measure => simp [intOf]; omega
        · have hge : decide (p ≤ q) = true := by simp; omega
          go_wp2_with (at_lookup; refine wpList_lookup_own_ok_int _ rfl _ _ 73 rfl 39 39 .u64 lawU Tryd.underlying73 Tryd.underlying39 (zeroU _) (w.heap.size + 1) k _ rfl hown1 _ _ rfl hkey ?_; intro c hat hwc; rw [hbb])
          exact bodyPost_ret (v := .tuple #[.agg #[.slice none 0 0, .map none], .bool false]) (by simp [results, Tryd.results41, go_sem, r0, r1]) rfl ⟨Below.set2 (hnx.alloc hnx.size _) (by omega) _ _, .inr ⟨rfl, fun hall => by
            have := (hall k (by rw [hlen]; exact hkn)).2.1
            rw [← HP.out, ← HQ.out] at this
            omega⟩⟩
    · obtain rfl : k = n := by omega
      have ⟨t0, t1, t2, t3, _⟩ := T
      have ⟨r0, r1, r2, r3, _⟩ := R
      have hT0 : L.take k = L := List.take_of_length_le (by omega)
      rw [hT0] at hown hrow
      have HK := Lib.hid (fun i hi => hok.out i (by omega) : OkR L)
      clear hok
      go_wp2_with fail
      exact bodyPost_ret (v := .tuple #[.agg #[.slice Av k cv, .map (some (w.heap.size + 1))], .bool true]) (by simp [results, Tryd.results41, go_sem, r0, r1]) rfl ⟨Below.set2 hnx (Nat.le_refl _) _ _, .inl ⟨Av, cv, rfl, ownsMap_set (ownsMap_set hown (by simp) _) (by simp) _, (hrow.far (by simp; omega) _).far (by simp; omega) _, HK.out⟩⟩
end Go.Proofs.YtclmenpclkmfeaaDoor
