/- Contracts of package modular and of torsionref03: sums, products, powers. -/
import Derived.Test.YtnlmdjbakcjhbaaDoorVModMath
import Derived.Test.YtnlmdjbakcjhbaaDoorVG14DivModW
namespace Go.Proofs.YtnlmdjbakcjhbaaDoor
open Go.RowKit
theorem u64_mul {a b : Nat} (h : a * b < 18446744073709551616) : IntKind.u64.wrap ((a : Int) * b) = ((a * b : Nat) : Int) := by
  have e : (a : Int) * b = ((a * b : Nat) : Int) := (Int.natCast_mul a b).symm
  rw [e, IntKind.wrap_u64]; omega
theorem u64_nat {n : Nat} (h : n < 18446744073709551616) : IntKind.u64.wrap (n : Int) = (n : Int) := by rw [IntKind.wrap_u64]; omega
theorem retV {k : IntKind} {a b : Int} (h : a = b) : Value.int k a = Value.int k b := by rw [h]
theorem mul_lt_two {a b : Nat} (ha : a < 4294967296) (hb : b < 4294967296) : a * b < 18446744073709551616 := by
  have := Nat.mul_lt_mul'' ha hb
  omega
set_option maxHeartbeats 400000 in
theorem mrem_any (n p : Nat) (w : World) (hp : 0 < p) (hn : n < 18446744073709551616) :
    Calls Tryd.prog 82 #[.int .u64 (n : Int), .int .u64 (p : Int)] w fun e w' => e = .returned (.int .u64 ((n % p : Nat) : Int)) ∧ Drawn w w' := by
  have hb1 : ((p : Int) == 0) = false := by simp; omega
  go_enter Tryd.func82, Tryd.ntmps82
  go_wp2
  go_ret
  exact ⟨retI (by rw [Int.natCast_emod]), Drawn.refl w⟩
set_option maxHeartbeats 400000 in
theorem madd_any (p a b : Nat) (w : World) (hp : p < 2147483648) (ha : a < p) (hb : b < p) :
    Calls Tryd.prog 32 #[.int .u64 (p : Int), .int .u64 (a : Int), .int .u64 (b : Int)] w fun e w' => e = .returned (.int .u64 (((a + b) % p : Nat) : Int)) ∧ Drawn w w' := by
  have hw : IntKind.u64.wrap ((a : Int) + b) = ((a + b : Nat) : Int) := by rw [IntKind.wrap_u64]; omega
  by_cases h : p ≤ a + b
  · have hm : (a + b) % p = a + b - p := by rw [Nat.mod_eq_sub_mod h, Nat.mod_eq_of_lt (by omega)]
    rw [hm]
    have hw2 : IntKind.u64.wrap (((a + b : Nat) : Int) - p) = ((a + b - p : Nat) : Int) := by rw [IntKind.wrap_u64]; omega
    go_enter Tryd.func32, Tryd.ntmps32
    go_wp2
    go_ret
    exact ⟨retI (by omega), Drawn.refl w⟩
  · have hm : (a + b) % p = a + b := Nat.mod_eq_of_lt (by omega)
    rw [hm]
    go_enter Tryd.func32, Tryd.ntmps32
    go_wp2
    go_ret
    exact ⟨retI (by omega), Drawn.refl w⟩
set_option maxHeartbeats 400000 in
theorem msub_any (p a b : Nat) (w : World) (hp : p < 2147483648) (ha : a < p) (hb : b < p) :
    Calls Tryd.prog 34 #[.int .u64 (p : Int), .int .u64 (a : Int), .int .u64 (b : Int)] w fun e w' => e = .returned (.int .u64 (((a + p - b) % p : Nat) : Int)) ∧ Drawn w w' := by
  by_cases h : a < b
  · have hm : (a + p - b) % p = a + p - b := Nat.mod_eq_of_lt (by omega)
    rw [hm]
    go_enter Tryd.func34, Tryd.ntmps34
    go_wp2
    go_ret
    exact ⟨retI (by omega), Drawn.refl w⟩
  · have hm : (a + p - b) % p = a - b := by rw [show a + p - b = a - b + p by omega, Nat.add_mod_right, Nat.mod_eq_of_lt (by omega)]
    rw [hm]
    go_enter Tryd.func34, Tryd.ntmps34
    go_wp2
    go_ret
    exact ⟨retI (by omega), Drawn.refl w⟩
set_option maxHeartbeats 400000 in
theorem mmul_any (p a b : Nat) (w : World) (hp : 0 < p) (ha : a < 4294967296) (hb : b < 4294967296) :
    Calls Tryd.prog 36 #[.int .u64 (p : Int), .int .u64 (a : Int), .int .u64 (b : Int)] w fun e w' => e = .returned (.int .u64 ((a * b % p : Nat) : Int)) ∧ Drawn w w' := by
  have hl := mul_lt_two ha hb
  have hw := u64_mul hl
  have H := fun W => mrem_any (a * b) p W hp hl
  have H' := Lib.hid H
  clear H
  go_enter Tryd.func36, Tryd.ntmps36
  go_wp2_with fail
  refine (H'.out _).mono ?_
  rintro e w1 ⟨rfl, hd1⟩
  go_wp2
  go_ret
  exact ⟨retI rfl, hd1⟩
theorem and_one_u64 (q : Nat) (hq : q < 18446744073709551616) : bits .and .u64 (q : Int) 1 = ((q % 2 : Nat) : Int) := by
  have h := bits_and_u64_nat q 1 hq (by omega)
  rw [Nat.and_one_is_mod] at h
  exact_mod_cast h
set_option maxHeartbeats 400000 in
theorem mpow_any (p a e : Nat) (w : World) (hp : 0 < p) (hpl : p ≤ 4294967296) (ha : a < 4294967296) (he : e < 18446744073709551616) :
    Calls Tryd.prog 38 #[.int .u64 (p : Int), .int .u64 (a : Int), .int .u64 (e : Int)] w fun x w' => x = .returned (.int .u64 ((a ^ e % p : Nat) : Int)) ∧ Drawn w w' := by
  have H1 := fun W => mrem_any 1 p W hp (by decide)
  have HM := fun x y W (hx : x < 4294967296) (hy : y < 4294967296) => mmul_any p x y W hp hx hy
  have hs : (1 % p) * a ^ e % p = a ^ e % p := by rw [Nat.mul_mod, Nat.mod_mod, ← Nat.mul_mod, Nat.one_mul]
  generalize a ^ e % p = V at *
  have hu := Nat.mod_lt 1 hp
  generalize 1 % p = u1 at *
  have H1' := Lib.hid H1
  have HM' := Lib.hid HM
  have HS := Lib.hid hs
  clear H1 HM hs
  go_enter Tryd.func38, Tryd.ntmps38
  go_wp2_with fail
  refine (H1'.out _).mono ?_
  rintro x w1 ⟨rfl, hd1⟩
  go_wp2_with fail
  go_loopw [1, 2, 7] (fun s1 s2 s7 wr => ∃ x k u : Nat, s1 = .int .u64 x ∧ s2 = .int .u64 k ∧ s7 = .int .u64 u ∧ x < 4294967296 ∧ k < 18446744073709551616 ∧ u < p ∧ Hid (u * x ^ k % p = V) ∧ Drawn w wr) (fun _ s2 _ _ => (intOf s2).toNat)
  case atStart => exact ⟨a, e, u1, rfl, rfl, rfl, ha, he, hu, HS.out, hd1⟩
  case round =>
    obtain ⟨x, k, u, rfl, rfl, rfl, hx, hk, hul, hI, hd⟩ := hrel
    rcases Nat.eq_zero_or_pos k with h0 | h0
    · subst h0
      go_wp2_with fail
      go_ret
      refine ⟨retI ?_, hd⟩
      rw [← hI.out, Nat.pow_zero, Nat.mul_one, Nat.mod_eq_of_lt hul]
    · have hA := and_one_u64 k hk
      rcases Nat.mod_two_eq_zero_or_one k with h2 | h2
      · rw [h2] at hA
        go_wp2_with fail
        refine (HM'.out _ _ _ hx hx).mono ?_
        rintro y w2 ⟨rfl, hd2⟩
        go_wp2_with fail
        have e3 : k = 2 * (k / 2) := by omega
        refine ⟨⟨x * x % p, k / 2, u, retV (by simp), retV (by simp), rfl, Nat.lt_of_lt_of_le (Nat.mod_lt _ hp) hpl, by omega, hul, pow_even (by rw [← e3]; exact hI.out), hd.trans hd2⟩, ?_⟩
        simp only [intOf]; omega
      · rw [h2] at hA
        go_wp2_with fail
        refine (HM'.out _ _ _ (by omega) hx).mono ?_
        rintro y w2 ⟨rfl, hd2⟩
        go_wp2_with fail
        refine (HM'.out _ _ _ hx hx).mono ?_
        rintro y w3 ⟨rfl, hd3⟩
        go_wp2_with fail
        have e3 : k = 2 * (k / 2) + 1 := by omega
        refine ⟨⟨x * x % p, k / 2, u * x % p, retV (by simp), retV (by simp), retV (by simp), Nat.lt_of_lt_of_le (Nat.mod_lt _ hp) hpl, by omega, Nat.mod_lt _ hp, pow_odd (by rw [← e3]; exact hI.out), (hd.trans hd2).trans hd3⟩, ?_⟩
        simp only [intOf]; omega
set_option maxHeartbeats 400000 in
theorem qadd_any (p a b : Nat) (w : World) (hp : p < 2147483648) (ha : a < p) (hb : b < p) :
    Calls Tryd.prog 33 #[.int .u64 (p : Int), .int .u64 (a : Int), .int .u64 (b : Int)] w fun e w' => e = .returned (.int .u64 (((a + b) % p : Nat) : Int)) ∧ Drawn w w' := by
  have hp0 : ((p : Int) == 0) = false := by simp; omega
  have hw : IntKind.u64.wrap ((a : Int) + b) = ((a + b : Nat) : Int) := by rw [IntKind.wrap_u64]; omega
  go_enter Tryd.func33, Tryd.ntmps33
  go_wp2
  go_ret
  exact ⟨retI (by simp), Drawn.refl w⟩
set_option maxHeartbeats 400000 in
theorem qsub_any (p a b : Nat) (w : World) (hp : p < 2147483648) (ha : a < p) (hb : b < p) :
    Calls Tryd.prog 35 #[.int .u64 (p : Int), .int .u64 (a : Int), .int .u64 (b : Int)] w fun e w' => e = .returned (.int .u64 (((a + p - b) % p : Nat) : Int)) ∧ Drawn w w' := by
  have hp0 : ((p : Int) == 0) = false := by simp; omega
  have hw : IntKind.u64.wrap ((a : Int) + p) = ((a + p : Nat) : Int) := by rw [IntKind.wrap_u64]; omega
  have hw2 : IntKind.u64.wrap ((a : Int) + p - b) = ((a + p - b : Nat) : Int) := by rw [IntKind.wrap_u64]; omega
  go_enter Tryd.func35, Tryd.ntmps35
  go_wp2
  go_ret
  exact ⟨retI (by omega), Drawn.refl w⟩
set_option maxHeartbeats 400000 in
theorem qmul_any (p a b : Nat) (w : World) (hp : 0 < p) (ha : a < 4294967296) (hb : b < 4294967296) :
    Calls Tryd.prog 37 #[.int .u64 (p : Int), .int .u64 (a : Int), .int .u64 (b : Int)] w fun e w' => e = .returned (.int .u64 ((a * b % p : Nat) : Int)) ∧ Drawn w w' := by
  have hp0 : ((p : Int) == 0) = false := by simp; omega
  have hw := u64_mul (mul_lt_two ha hb)
  go_enter Tryd.func37, Tryd.ntmps37
  go_wp2
  go_ret
  exact ⟨retI (by simp), Drawn.refl w⟩
theorem pow_bit {p a e k : Nat} : (a ^ (e / 2 ^ (k + 1)) % p) * (a ^ (e / 2 ^ (k + 1)) % p) % p = a ^ (2 * (e / 2 ^ (k + 1))) % p := by
  rw [← Nat.mul_mod, ← Nat.pow_add, Nat.two_mul]
theorem div_bit (e k : Nat) : e / 2 ^ (k + 1) = e / 2 ^ k / 2 := by rw [Nat.pow_succ, Nat.div_div_eq_div_mul]
set_option maxHeartbeats 400000 in
theorem qpow_any (p a e : Nat) (w : World) (hp : 0 < p) (hpl : p ≤ 4294967296) (ha : a < 4294967296) (he : e < 18446744073709551616) :
    Calls Tryd.prog 39 #[.int .u64 (p : Int), .int .u64 (a : Int), .int .u64 (e : Int)] w fun x w' => x = .returned (.int .u64 ((a ^ e % p : Nat) : Int)) ∧ Drawn w w' := by
  have HM := fun x y W (hx : x < 4294967296) (hy : y < 4294967296) => qmul_any p x y W hp hx hy
  have hp0 : ((p : Int) == 0) = false := by simp; omega
  have hs : 1 % p = a ^ (e / 2 ^ 64) % p := by rw [Nat.div_eq_of_lt (by omega), Nat.pow_zero]
  have hu := Nat.mod_lt 1 hp
  have h1 : (1 : Int) % (p : Int) = ((1 % p : Nat) : Int) := by simp
  generalize 1 % p = u1 at *
  obtain ⟨V, hV⟩ : ∃ V, V = a ^ e % p := ⟨_, rfl⟩
  rw [← hV]
  have HM' := Lib.hid HM
  have HS := Lib.hid hs
  have HV := Lib.hid hV
  have H1 := Lib.hid h1
  clear HM hs hV h1
  go_enter Tryd.func39, Tryd.ntmps39
  go_wp2_with fail
  go_loopw [7, 8] (fun s4 s5 wr => ∃ u k : Nat, s4 = .int .u64 u ∧ s5 = .int .i64 ((k : Int) - 1) ∧ k ≤ 64 ∧ u < p ∧ Hid (u = a ^ (e / 2 ^ k) % p) ∧ Drawn w wr) (fun _ s5 _ => (intOf s5 + 1).toNat)
  case atStart => exact ⟨u1, 64, retV H1.out, rfl, by omega, hu, HS.out, Drawn.refl w⟩
  case round =>
    obtain ⟨u, k, rfl, rfl, hk, hul, hI, hd⟩ := hrel
    rcases Nat.eq_zero_or_pos k with h0 | h0
    · subst h0
      go_wp2_with fail
      go_ret
      refine ⟨retI ?_, hd⟩
      rw [HV.out, hI.out, Nat.pow_zero, Nat.div_one]
    · obtain ⟨j, rfl⟩ : ∃ j, k = j + 1 := ⟨k - 1, by omega⟩
      have e1 : ((j + 1 : Nat) : Int) - 1 = (j : Int) := by omega
      rw [e1]
      have hq : e / 2 ^ j < 18446744073709551616 := Nat.lt_of_le_of_lt (Nat.div_le_self _ _) he
      have hA := and_one_u64 (e / 2 ^ j) hq
      have hsh : ((e / 2 ^ j : Nat) : Int) = (e : Int) / 2 ^ j := by rw [Int.natCast_ediv, Int.natCast_pow]; rfl
      rw [hsh] at hA
      have hu2 : u * u % p = a ^ (2 * (e / 2 ^ (j + 1))) % p := by rw [hI.out]; exact pow_bit
      have hdv := div_bit e j
      have hm2 := Nat.mod_lt (u * u) hp
      have hu3 : (u * u % p) * a % p = a ^ (2 * (e / 2 ^ (j + 1)) + 1) % p := by rw [hu2, Nat.mod_mul_mod, ← Nat.pow_succ]
      have e3 : (((u * u % p : Nat)) : Int) = (u : Int) * u % p := by simp
      have K2 := Lib.hid e3
      clear e3 hsh
      generalize u * u % p = u2 at *
      have HDV := Lib.hid hdv
      have HU2 := Lib.hid hu2
      have HU3 := Lib.hid hu3
      rcases Nat.mod_two_eq_zero_or_one (e / 2 ^ j) with h2 | h2
      · rw [h2] at hA
        have HU : Hid (u2 = a ^ (e / 2 ^ j) % p) := by
          rw [Hid, hu2, hdv]; congr 2; omega
        clear hdv hu2 hu3 h2
        go_wp2_with fail
        refine (HM'.out _ _ _ (by omega) (by omega)).mono ?_
        rintro x w2 ⟨rfl, hd2⟩
        go_wp2_with fail
        refine ⟨⟨u2, j, retV K2.out.symm, rfl, by omega, hm2, HU, hd.trans hd2⟩, ?_⟩
        simp only [intOf]; omega
      · rw [h2] at hA
        have HU : Hid (u2 * a % p = a ^ (e / 2 ^ j) % p) := by
          rw [Hid, hu3, hdv]; congr 2; omega
        clear hdv hu2 hu3 h2
        go_wp2_with fail
        refine (HM'.out _ _ _ (by omega) (by omega)).mono ?_
        rintro x w2 ⟨rfl, hd2⟩
        go_wp2_with fail
        rw [← K2.out]
        refine (HM'.out u2 a _ (by omega) ha).mono ?_
        rintro x w3 ⟨rfl, hd3⟩
        go_wp2_with fail
        refine ⟨⟨u2 * a % p, j, retV (by simp), rfl, by omega, Nat.mod_lt _ hp, HU, (hd.trans hd2).trans hd3⟩, ?_⟩
        simp only [intOf]; omega
end Go.Proofs.YtnlmdjbakcjhbaaDoor
