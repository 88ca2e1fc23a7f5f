/- Contract of torsionref03.Prime at a prime below 2^31. -/
import Derived.Test.YtclmenpclkmfeaaDoorVG18Sz
namespace Go.Proofs.YtclmenpclkmfeaaDoor
open Go.RowKit
theorem prime_mod {n d : Nat} (h : IsPrime n) (h2 : 2 ≤ d) (hd : d * d ≤ n) : n % d ≠ 0 := by
  intro e
  have hdn : d < n := by
    have := Nat.mul_le_mul_right d h2
    omega
  rcases h.2 d (Nat.dvd_of_mod_eq_zero e) with h3 | h3 <;> omega
set_option maxRecDepth 100000 in
set_option maxHeartbeats 1000000 in
theorem qprime_t (n : Nat) (w : World) (h : IsPrime n) (hn : n < 2147483648) :
    Calls Tryd.prog 65 #[.int .u64 (n : Int)] w fun e w' => e = .returned (.bool true) ∧ Below w.heap.size w w' := by
  have h2 := h.1
  have HP := Lib.hid h
  clear h
  go_enter Tryd.func65, Tryd.ntmps65
  go_wp2_with fail
  go_loopw [3] (fun s3 wr => ∃ d : Nat, s3 = .int .u64 (d : Int) ∧ 2 ≤ d ∧ d ≤ 46342 ∧ Below w.heap.size w wr) (fun s3 _ => 50000 - (intOf s3).toNat)
  case atStart => exact ⟨2, rfl, by omega, by omega, Below.refl _ _⟩
  case round =>
    obtain ⟨d, rfl, hd2, hd, B⟩ := hrel
    have hdd : d * d ≤ 46342 * 46342 := Nat.mul_le_mul hd hd
    have hw : IntKind.u64.wrap ((d : Int) * d) = ((d * d : Nat) : Int) := u64_mul (by omega)
    rcases Nat.lt_or_ge n (d * d) with hlt | hle
    · go_wp2_with fail
      go_ret
      exact ⟨rfl, B⟩
    · have hm := prime_mod HP.out hd2 hle
      have hb1 : ((n : Int) % (d : Int) == 0) = false := by rw [rem_zero]; simpa using hm
      have hb2 : ((d : Int) == 0) = false := by simp; omega
      have hd3 : d ≤ 46340 := by
        rcases Nat.lt_or_ge d 46341 with h | h
        · omega
        · have := Nat.mul_le_mul h h; omega
      go_wp2_with fail
      go_roundw
      case rel => exact ⟨d + 1, by go_num, by omega, by omega, B⟩
      case measure => simp [intOf]; omega
end Go.Proofs.YtclmenpclkmfeaaDoor
