/- Contract of torsionref01.Small. -/
import Derived.Test.YtclmenpclkmfeaaDoorVG0Words
import Derived.Test.YtclmenpclkmfeaaDoorVG15DivModW
namespace Go.Proofs.YtclmenpclkmfeaaDoor
open Go.RowKit
theorem val_drop_lt (xs : List Nat) (hx : ∀ x ∈ xs, x < 4294967296) (hn : xs.length ≤ 2) (k : Nat) : val (xs.drop k) < 18446744073709551616 := by
  have h := val_lt (xs := xs.drop k) (fun x h => hx x (List.mem_of_mem_drop h))
  have h2 : 4294967296 ^ (xs.drop k).length ≤ 4294967296 ^ 2 := Nat.pow_le_pow_right (by omega) (by rw [List.length_drop]; omega)
  omega
set_option maxHeartbeats 1000000 in
theorem rsmall_z (neg : Bool) (A : Option Addr) (n c : Nat) (z : Int) (w : World) (ha : IsInt w neg A n c z) (h1 : -9223372036854775808 ≤ z) (h2 : z ≤ 9223372036854775807) :
    Calls Tryd.prog 55 #[.agg #[.bool neg, .slice A n c]] w fun e w' => e = .returned (.tuple #[.int .i64 z, .bool true]) ∧ Below w.heap.size w w' := by
  have hn : n ≤ 2 := by
    rw [← ha.lim.len]; exact digs_len_le (show z.natAbs < 4294967296 ^ 2 by omega)
  have hz := ha.zOfv
  have P0 := Slot2.new w (.bool neg) (.slice A n c) 28
  have B0 := (Below.refl w.heap.size w).alloc (Nat.le_refl _) (.cells #[.bool neg, .slice A n c] 28)
  have hL := ha.lim.below B0
  have hlen := ha.lim.len
  have hlt := ha.lim.lt
  have hcap := ha.lim.cap
  have hv := val_digs z.natAbs
  have hbig : z.natAbs ≤ 9223372036854775808 := by omega
  have hs := ha.sign
  generalize digs z.natAbs = xs at *
  generalize z.natAbs = v at *
  have ⟨p0, p1, _, _, _⟩ := P0
  have HZ := Lib.hid hz
  have HV := Lib.hid hv
  have HS := Lib.hid hs
  have HN := Lib.hid hlen
  clear ha hz hv hs hlen
  go_enter Tryd.func55, Tryd.ntmps55
  go_wp2_with fail
  go_loopw [4, 5] (fun s4 s5 wr => ∃ (m k : Nat), s4 = .int .u64 (m : Int) ∧ s5 = .int .i64 ((k : Int) - 1) ∧ k ≤ n ∧ m < 18446744073709551616 ∧ Hid (m = val (xs.drop k)) ∧ wr = (w.alloc (.cells #[.bool neg, .slice A n c] 28))) (fun _ s5 _ => (intOf s5 + 1).toNat)
  case atStart => exact ⟨0, n, rfl, rfl, by omega, by omega, by rw [Hid, ← HN.out, List.drop_length]; rfl, rfl⟩
  case round =>
    obtain ⟨m, k, rfl, rfl, hk, hm, hI, rfl⟩ := hrel
    rcases Nat.eq_zero_or_pos k with h0 | h0
    · subst h0
      have hmv : m = v := by rw [hI.out, List.drop_zero, HV.out]
      subst hmv
      cases neg
      · have hzz : z = (m : Int) := HZ.out.symm
        subst hzz
        have w1 : IntKind.i64.wrap (m : Int) = m := by rw [IntKind.wrap_i64]; omega
        go_wp2_with fail
        go_ret2
        exact ⟨rfl, B0⟩
      · have hzz : z = -(m : Int) := HZ.out.symm
        subst hzz
        go_wp2_with fail
        go_ret2
        refine ⟨?_, B0⟩
        have hw : wrap64 (-wrap64 (m : Int)) = -(m : Int) := by unfold wrap64; omega
        have hd : decide ((m : Int) ≤ 9223372036854775808) = true := decide_eq_true (by omega)
        show Ending.returned (.tuple #[.int .i64 (wrap64 (-wrap64 (m : Int))), .bool (decide ((m : Int) ≤ 9223372036854775808))]) = _
        rw [hw, hd]
    · obtain ⟨j, rfl⟩ : ∃ j, k = j + 1 := ⟨k - 1, by omega⟩
      have e1 : ((j + 1 : Nat) : Int) - 1 = (j : Int) := by omega
      rw [e1]
      obtain ⟨ad, rfl, _, x, hx, hxl, hcx⟩ := hL.at_ (k := j) (by omega)
      have hd := val_drop_cons (xs := xs) (k := j) (by rw [HN.out]; omega)
      rw [← hx.out, ← hI.out] at hd
      have hl := val_drop_lt xs hlt (by rw [HN.out]; exact hn) j
      rw [hd] at hl
      have HD := Lib.hid hd
      clear hd
      have w1 : IntKind.u64.wrap ((m : Int) * 4294967296) = m * 4294967296 := by rw [IntKind.wrap_u64]; omega
      have w2 : IntKind.u64.wrap ((m : Int) * 4294967296 + x) = m * 4294967296 + x := by rw [IntKind.wrap_u64]; omega
      go_wp2_with fail
      refine ⟨⟨x + 4294967296 * m, j, (by first | rfl | (congr 1; omega)), rfl, by omega, hl, ?_, by first | rfl | trivial⟩, ?_⟩
      · rw [Hid, HD.out]
      · simp only [intOf]; omega
end Go.Proofs.YtclmenpclkmfeaaDoor
