/- Plain mathematics: Fermat's little theorem by the binomial theorem, and a test of primes by trial division. -/
import Derived.Test.YtnlmdjbakcjhbaaDoorVG0Num
namespace Go.Proofs.YtnlmdjbakcjhbaaDoor
def chs : Nat → Nat → Nat
  | _, 0 => 1
  | 0, _ + 1 => 0
  | n + 1, k + 1 => chs n k + chs n (k + 1)
/-- A prime number. -/
def IsPrime (p : Nat) : Prop := 2 ≤ p ∧ ∀ d, d ∣ p → d = 1 ∨ d = p
theorem chs_zero (n : Nat) : chs n 0 = 1 := by cases n <;> rfl
theorem chs_gt : ∀ n k, n < k → chs n k = 0
  | 0, 0, h => absurd h (by omega)
  | 0, _ + 1, _ => rfl
  | _ + 1, 0, h => absurd h (by omega)
  | n + 1, k + 1, h => by rw [chs, chs_gt n k (by omega), chs_gt n (k + 1) (by omega)]
theorem chs_self : ∀ n, chs n n = 1
  | 0 => rfl
  | n + 1 => by rw [chs, chs_self n, chs_gt n (n + 1) (by omega)]
theorem chs_mul : ∀ n k, (k + 1) * chs (n + 1) (k + 1) = (n + 1) * chs n k
  | 0, 0 => rfl
  | 0, k + 1 => by
    show (k + 1 + 1) * (chs 0 (k + 1) + chs 0 (k + 1 + 1)) = (0 + 1) * chs 0 (k + 1)
    rw [chs_gt 0 (k + 1) (by omega), chs_gt 0 (k + 1 + 1) (by omega)]; simp
  | n + 1, 0 => by
    have h := chs_mul n 0
    rw [chs_zero] at h ⊢
    rw [chs, chs_zero]; omega
  | n + 1, k + 1 => by
    have h1 := chs_mul n k
    have h2 := chs_mul n (k + 1)
    have h3 : chs (n + 1) (k + 1) = chs n k + chs n (k + 1) := rfl
    have h4 : chs (n + 1 + 1) (k + 1 + 1) = chs (n + 1) (k + 1) + chs (n + 1) (k + 1 + 1) := rfl
    rw [h4, Nat.mul_add, h2, Nat.add_mul (k + 1) 1 (chs (n + 1) (k + 1)), h1, Nat.add_mul (n + 1) 1 (chs (n + 1) (k + 1)), Nat.one_mul, Nat.add_right_comm, ← Nat.mul_add, ← h3]
def bsum (x n : Nat) : Nat → Nat
  | 0 => 0
  | m + 1 => bsum x n m + chs n m * x ^ m
theorem bsum_step (x n : Nat) : ∀ m, bsum x (n + 1) (m + 1) = bsum x n (m + 1) + x * bsum x n m
  | 0 => by simp only [bsum, chs_zero, Nat.mul_zero, Nat.add_zero]
  | m + 1 => by
    have h := bsum_step x n m
    have h1 : bsum x (n + 1) (m + 1 + 1) = bsum x (n + 1) (m + 1) + (chs n m + chs n (m + 1)) * x ^ (m + 1) := rfl
    have h2 : bsum x n (m + 1 + 1) = bsum x n (m + 1) + chs n (m + 1) * x ^ (m + 1) := rfl
    have h3 : bsum x n (m + 1) = bsum x n m + chs n m * x ^ m := rfl
    rw [h1, h, h2, h3, Nat.mul_add x, Nat.add_mul, Nat.pow_succ, Nat.mul_left_comm x, Nat.mul_comm x (x ^ m)]
    omega
theorem binom (x : Nat) : ∀ n, (1 + x) ^ n = bsum x n (n + 1)
  | 0 => by simp only [bsum, chs_zero, Nat.pow_zero]
  | n + 1 => by
    rw [bsum_step, Nat.pow_succ, binom x n]
    have h2 : bsum x n (n + 1 + 1) = bsum x n (n + 1) + chs n (n + 1) * x ^ (n + 1) := rfl
    rw [h2, chs_gt n (n + 1) (by omega), Nat.zero_mul, Nat.mul_add, Nat.mul_one, Nat.mul_comm x]
    simp only [Nat.add_zero]
theorem IsPrime.coprime {p : Nat} (h : IsPrime p) {k : Nat} (h0 : 0 < k) (h1 : k < p) : Nat.Coprime p k := by
  rcases h.2 _ (Nat.gcd_dvd_left p k) with e | e
  · exact e
  · have := Nat.le_of_dvd h0 (Nat.gcd_dvd_right p k)
    omega
theorem IsPrime.chs {p : Nat} (h : IsPrime p) {k : Nat} (h0 : 0 < k) (h1 : k < p) : p ∣ chs p k := by
  obtain ⟨n, rfl⟩ : ∃ n, p = n + 1 := ⟨p - 1, by omega⟩
  obtain ⟨j, rfl⟩ : ∃ j, k = j + 1 := ⟨k - 1, by omega⟩
  exact (h.coprime h0 h1).dvd_of_dvd_mul_left (by rw [chs_mul]; exact Nat.dvd_mul_right _ _)
theorem IsPrime.bsum {p : Nat} (h : IsPrime p) (x : Nat) : ∀ m, m + 1 ≤ p → bsum x p (m + 1) % p = 1 % p
  | 0, _ => by simp only [Go.Proofs.YtnlmdjbakcjhbaaDoor.bsum, chs_zero, Nat.pow_zero, Nat.mul_one, Nat.zero_add]
  | m + 1, hm => by
    have h1 := h.bsum x m (by omega)
    obtain ⟨c, hc⟩ := h.chs (k := m + 1) (by omega) (by omega)
    have h2 : Go.Proofs.YtnlmdjbakcjhbaaDoor.bsum x p (m + 1 + 1) = Go.Proofs.YtnlmdjbakcjhbaaDoor.bsum x p (m + 1) + Go.Proofs.YtnlmdjbakcjhbaaDoor.chs p (m + 1) * x ^ (m + 1) := rfl
    rw [h2, hc, Nat.mul_assoc, Nat.add_mul_mod_self_left, h1]
theorem fermat_all {p : Nat} (h : IsPrime p) : ∀ x : Nat, x ^ p % p = x % p
  | 0 => by rw [Nat.zero_pow (by have := h.1; omega)]
  | x + 1 => by
    have h1 := fermat_all h x
    have hb := h.bsum x (p - 1) (by have := h.1; omega)
    have hp : p - 1 + 1 = p := by have := h.1; omega
    rw [hp] at hb
    rw [Nat.add_comm x 1, binom x p]
    have h2 : bsum x p (p + 1) = bsum x p p + chs p p * x ^ p := rfl
    rw [h2, chs_self, Nat.one_mul, Nat.add_mod, hb, h1, ← Nat.add_mod]
theorem fermat {p : Nat} (h : IsPrime p) {x : Nat} (h0 : 0 < x) (h1 : x < p) : x ^ (p - 1) % p = 1 := by
  have ha := fermat_all h x
  have hp : p = p - 1 + 1 := by omega
  have e : x ^ p = x ^ (p - 1) * x := by
    have := Nat.pow_succ (n := x) (m := p - 1)
    rwa [Nat.succ_eq_add_one, ← hp] at this
  rw [e] at ha
  generalize hy : x ^ (p - 1) = y at *
  have y0 : 0 < y := by rw [← hy]; exact Nat.pow_pos h0
  have hs := Nat.sub_mod_eq_zero_of_mod_eq ha
  have hd : p ∣ y - 1 := (h.coprime h0 h1).dvd_of_dvd_mul_right (by rw [Nat.sub_mul, Nat.one_mul]; exact Nat.dvd_of_mod_eq_zero hs)
  obtain ⟨c, hc⟩ := hd
  obtain rfl : y = 1 + p * c := by omega
  rw [Nat.add_mul_mod_self_left, Nat.mod_eq_of_lt h.1]
/-- None of d, d + 2, .. (as many as 2^k) divides n, unless its square is greater. -/
def noDiv (n : Nat) (k : Nat) : Nat → Bool :=
  Nat.rec (motive := fun _ => Nat → Bool) (fun d => (Nat.blt n (d * d)) || !(Nat.beq (n % d) 0)) (fun k ih d => ih d && ih (d + 2 ^ (k + 1))) k
theorem noDiv_sound (n : Nat) : ∀ k d, noDiv n k d = true → ∀ j, j < 2 ^ k → n < (d + 2 * j) * (d + 2 * j) ∨ n % (d + 2 * j) ≠ 0
  | 0, d, h, j, hj => by
    obtain rfl : j = 0 := by have : 2 ^ 0 = 1 := rfl; omega
    have h : ((Nat.blt n (d * d)) || !(Nat.beq (n % d) 0)) = true := h
    rw [Nat.mul_zero, Nat.add_zero]
    rcases Bool.or_eq_true_iff.1 h with h | h
    · exact .inl (Eq.mp Nat.blt_eq h)
    · refine .inr fun e => ?_
      rw [e] at h
      cases h
  | k + 1, d, h, j, hj => by
    have h : (noDiv n k d && noDiv n k (d + 2 ^ (k + 1))) = true := h
    obtain ⟨h1, h2⟩ := Bool.and_eq_true_iff.1 h
    have e : 2 ^ (k + 1) = 2 * 2 ^ k := by rw [Nat.pow_succ, Nat.mul_comm]
    by_cases hj2 : j < 2 ^ k
    · exact noDiv_sound n k d h1 j hj2
    · have := noDiv_sound n k _ h2 (j - 2 ^ k) (by omega)
      have e2 : d + 2 ^ (k + 1) + 2 * (j - 2 ^ k) = d + 2 * j := by omega
      rwa [e2] at this
theorem prime_of {n : Nat} (k : Nat) (h3 : 3 ≤ n) (ho : n % 2 = 1) (hk : n < (3 + 2 * 2 ^ k) * (3 + 2 * 2 ^ k)) (h : noDiv n k 3 = true) : IsPrime n := by
  refine ⟨by omega, fun d hd => ?_⟩
  have key : ∀ e : Nat, e ≠ 1 → e ∣ n → e * e ≤ n → False := by
    intro e h1 hen hee
    obtain ⟨c, rfl⟩ := hen
    have e0 : e % 2 = 1 := by
      rcases Nat.mod_two_eq_zero_or_one e with q | q
      · rw [Nat.mul_mod, q, Nat.zero_mul] at ho; cases ho
      · exact q
    have hlt : e < 3 + 2 * 2 ^ k := by
      rcases Nat.lt_or_ge e (3 + 2 * 2 ^ k) with q | q
      · exact q
      · have := Nat.mul_le_mul q q
        omega
    have := noDiv_sound _ k 3 h ((e - 3) / 2) (by omega)
    have e2 : 3 + 2 * ((e - 3) / 2) = e := by omega
    rw [e2] at this
    rcases this with q | q
    · omega
    · exact q (Nat.mul_mod_right e c)
  obtain ⟨c, hc⟩ := hd
  by_cases d1 : d = 1
  · exact .inl d1
  · by_cases c1 : c = 1
    · right; rw [hc, c1, Nat.mul_one]
    · exfalso
      rcases Nat.le_total d c with q | q
      · exact key d d1 ⟨c, hc⟩ (by rw [hc]; exact Nat.mul_le_mul_left d q)
      · exact key c c1 ⟨d, by rw [hc, Nat.mul_comm]⟩ (by rw [hc]; exact Nat.mul_le_mul_right c q)
/-- The primes for which the statements of layer 3 are made. -/
def primes15 : List Nat := [2, 3, 5, 7, 11, 101, 65521, 65537, 1000003, 2147483549, 2147483563, 2147483579, 2147483587, 2147483629, 2147483647]
theorem prime2 : IsPrime 2 := ⟨by decide, fun d hd => by
  have := Nat.le_of_dvd (by decide) hd
  rcases d with _ | _ | _ | d
  · obtain ⟨c, hc⟩ := hd; omega
  · exact .inl rfl
  · exact .inr rfl
  · omega⟩
set_option maxRecDepth 100000 in
theorem primes15_prime : ∀ p ∈ primes15, IsPrime p ∧ p < 2147483648 := by
  intro p hp
  simp only [primes15, List.mem_cons, List.not_mem_nil, or_false] at hp
  rcases hp with rfl | rfl | rfl | rfl | rfl | rfl | rfl | rfl | rfl | rfl | rfl | rfl | rfl | rfl | rfl
  · exact ⟨prime2, by decide⟩
  · exact ⟨prime_of 2 (by decide) (by decide) (by decide) (by kernel_rfl), by decide⟩
  · exact ⟨prime_of 2 (by decide) (by decide) (by decide) (by kernel_rfl), by decide⟩
  · exact ⟨prime_of 2 (by decide) (by decide) (by decide) (by kernel_rfl), by decide⟩
  · exact ⟨prime_of 2 (by decide) (by decide) (by decide) (by kernel_rfl), by decide⟩
  · exact ⟨prime_of 3 (by decide) (by decide) (by decide) (by kernel_rfl), by decide⟩
  · exact ⟨prime_of 7 (by decide) (by decide) (by decide) (by kernel_rfl), by decide⟩
  · exact ⟨prime_of 7 (by decide) (by decide) (by decide) (by kernel_rfl), by decide⟩
  · exact ⟨prime_of 9 (by decide) (by decide) (by decide) (by kernel_rfl), by decide⟩
  · exact ⟨prime_of 15 (by decide) (by decide) (by decide) (by kernel_rfl), by decide⟩
  · exact ⟨prime_of 15 (by decide) (by decide) (by decide) (by kernel_rfl), by decide⟩
  · exact ⟨prime_of 15 (by decide) (by decide) (by decide) (by kernel_rfl), by decide⟩
  · exact ⟨prime_of 15 (by decide) (by decide) (by decide) (by kernel_rfl), by decide⟩
  · exact ⟨prime_of 15 (by decide) (by decide) (by decide) (by kernel_rfl), by decide⟩
  · exact ⟨prime_of 15 (by decide) (by decide) (by decide) (by kernel_rfl), by decide⟩
end Go.Proofs.YtnlmdjbakcjhbaaDoor
