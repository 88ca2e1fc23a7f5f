/- Contract of torsionref01.Bits at valid integers. -/
import Derived.Test.YtclmenpclkmfeaaDoorVG18Sz
import Derived.Shelf.Spec.TrailingZeros
namespace Go.Proofs.YtclmenpclkmfeaaDoor
open Go.RowKit
theorem valI {k : IntKind} {a b : Int} (h : a = b) : Value.int k a = Value.int k b := by rw [h]
theorem getD_last {xs : List Nat} (h : xs ≠ []) : xs.getD (xs.length - 1) 0 = xs.getLast h := by
  rw [List.getLast_eq_getElem, List.getD_eq_getElem?_getD, List.getElem?_eq_getElem]
  rfl
/-- The greatest digit bounds the number. -/
theorem top_digit {v n : Nat} (hn : (digs v).length = n) (h0 : 0 < n) : 0 < (digs v).getD (n - 1) 0 ∧ (digs v).getD (n - 1) 0 < 4294967296 ∧ ∀ k, (digs v).getD (n - 1) 0 < 2 ^ k → v < 2 ^ (32 * (n - 1) + k) := by
  have hne : digs v ≠ [] := by intro e; rw [e] at hn; simp at hn; omega
  have e1 : (digs v).getD (n - 1) 0 = (digs v).getLast hne := by rw [← hn]; exact getD_last hne
  have hL := limbs_digs v
  refine ⟨?_, ?_, fun k hk => ?_⟩
  · rw [e1]; have := digs_last hne; omega
  · rw [e1]; exact hL _ (List.getLast_mem hne)
  · have h1 := val_take_succ (digs v) (n - 1)
    rw [show n - 1 + 1 = n by omega, List.take_of_length_le (by omega), val_digs] at h1
    have h2 := val_lt (limbs_take hL (n - 1))
    rw [List.length_take, show min (n - 1) (digs v).length = n - 1 by omega] at h2
    rw [h1, Nat.pow_add, Nat.pow_mul, show (2 : Nat) ^ 32 = 4294967296 by decide]
    have h3 : 4294967296 ^ (n - 1) * ((digs v).getD (n - 1) 0 + 1) ≤ 4294967296 ^ (n - 1) * 2 ^ k := Nat.mul_le_mul_left _ hk
    rw [Nat.mul_add, Nat.mul_one] at h3
    omega
theorem bit_u32 (x k : Nat) (hx : x < 4294967296) : bits .and .u32 ((x : Int) / 2 ^ k) 1 = ((x / 2 ^ k % 2 : Nat) : Int) := by
  have h := bits_and_u32_nat (x / 2 ^ k) 1 (Nat.lt_of_le_of_lt (Nat.div_le_self _ _) hx) (by decide)
  rw [Nat.and_one_is_mod] at h
  rw [← h, Int.natCast_ediv, Int.natCast_pow]
  rfl
theorem bit_up {x k : Nat} (h : x < 2 ^ (k + 1)) (hb : x / 2 ^ k % 2 = 0) : x < 2 ^ k := by
  have h1 : x / 2 ^ k < 2 := Nat.div_lt_of_lt_mul (by rw [← Nat.pow_succ]; exact h)
  have h2 : x / 2 ^ k = 0 := by
    generalize x / 2 ^ k = q at *
    omega
  rcases Nat.div_eq_zero_iff.1 h2 with h3 | h3
  · have := Nat.two_pow_pos k; omega
  · exact h3
/-- What Bits answers: the absolute value is below the power of two. -/
def RetBits (w : World) (z : Int) (n : Nat) (e : Ending) (w' : World) : Prop := ∃ b : Nat, e = .returned (.int .i64 (b : Int)) ∧ Below w.heap.size w w' ∧ b ≤ 32 * n ∧ Hid (z.natAbs < 2 ^ b)
set_option maxRecDepth 100000 in
set_option maxHeartbeats 2000000 in
theorem rbits_z (ga : Bool) (Aa : Option Addr) (na ca : Nat) {z : Int} (w : World) (ha : IsInt w ga Aa na ca z) (hn : na ≤ 10000) :
    Calls Tryd.prog 92 #[.agg #[.bool ga, .slice Aa na ca]] w (RetBits w z na) := by
  have B0 := (Below.refl w.heap.size w).alloc (Nat.le_refl _) (.cells #[.bool ga, .slice Aa na ca] 28)
  have P0 := Slot2.new w (.bool ga) (.slice Aa na ca) 28
  have I0 := ha.below B0
  have hlen := I0.lim.len
  have ⟨p0, p1, _, _, _⟩ := P0
  clear ha
  rcases Nat.eq_zero_or_pos na with h0 | h0
  · subst h0
    have hz : z.natAbs = 0 := digs_ne.1 (List.eq_nil_of_length_eq_zero hlen)
    have HZ := Lib.hid hz
    clear hz
    go_enter Tryd.func92, Tryd.ntmps92
    go_wp2_with fail
    refine wp_loop_rounds 1 ?_
    rw [rounds_succ]
    go_wp2_with fail
    go_ret
    exact ⟨0, rfl, B0, by omega, (by rw [HZ.out]; decide : z.natAbs < 2 ^ 0)⟩
  · obtain ⟨ad, rfl, hb, hc⟩ := I0.lim.rd h0
    obtain ⟨x, hx⟩ : ∃ x, (digs z.natAbs).getD (na - 1) 0 = x := ⟨_, rfl⟩
    have hcx := hc (na - 1) (by omega)
    rw [hx] at hcx
    have HX : Hid (0 < x ∧ x < 4294967296 ∧ ∀ k, x < 2 ^ k → z.natAbs < 2 ^ (32 * (na - 1) + k)) := by
      have := top_digit hlen h0
      rw [hx] at this
      exact this
    clear hx hc
    go_enter Tryd.func92, Tryd.ntmps92
    go_wp2_with fail
    go_loopw [3, 4] (fun s3 s4 wr => ∃ v : Int, s3 = .int .i64 v ∧ s4 = .int .i64 ((na - 1 : Nat) : Int) ∧ wr = w.alloc (.cells #[.bool ga, .slice (some ad) na ca] 28)) (fun _ _ _ => 0)
    case atStart => exact ⟨_, rfl, valI (by omega), rfl⟩
    case round =>
      obtain ⟨v, rfl, rfl, rfl⟩ := hrel
      go_wp2_with fail
      go_loopw [3, 5] (fun s3 s5 wr => ∃ (v : Int) (k : Nat), s3 = .int .i64 v ∧ s5 = .int .i64 (k : Int) ∧ k ≤ 31 ∧ Hid (x < 2 ^ (k + 1)) ∧ wr = w.alloc (.cells #[.bool ga, .slice (some ad) na ca] 28)) (fun _ s5 _ => (intOf s5).toNat)
      case atStart => exact ⟨v, 31, rfl, rfl, by omega, HX.out.2.1, rfl⟩
      case round =>
        obtain ⟨v, k, rfl, rfl, hk, hlt, rfl⟩ := hrel
        have hb1 := bit_u32 x k HX.out.2.1
        rcases Nat.mod_two_eq_zero_or_one (x / 2 ^ k) with h2 | h2
        · have hbe : (bits .and .u32 ((x : Int) / 2 ^ k) 1 == 1) = false := by rw [hb1, h2]; rfl
          have HU := Lib.hid (bit_up hlt.out h2)
          rcases Nat.eq_zero_or_pos k with hk0 | hk0
          · subst hk0
            have := HU.out
            have := HX.out.1
            omega
          · clear hb1 h2
            go_wp2_with fail
            go_roundw
            case rel => exact ⟨_, k - 1, rfl, valI (by omega), by omega, by rw [show k - 1 + 1 = k by omega]; exact HU.out, trivial⟩
            case measure => simp [intOf]; omega
        · have hbe : (bits .and .u32 ((x : Int) / 2 ^ k) 1 == 1) = true := by rw [hb1, h2]; rfl
          clear hb1 h2
          go_wp2_with fail
          go_ret
          exact ⟨32 * (na - 1) + (k + 1), retI (by omega), B0, by omega, HX.out.2.2 _ hlt.out⟩
end Go.Proofs.YtclmenpclkmfeaaDoor
