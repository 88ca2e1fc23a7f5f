/- Contracts of modular with named results; algebra of residues. -/
import Derived.Test.YtnlmdjbakcjhbaaDoorVSanM
namespace Go.Proofs.YtnlmdjbakcjhbaaDoor
open Go.RowKit
/-- A word comes back that is v, and is less than p. -/
def RetW (w : World) (p v : Nat) (e : Ending) (w' : World) : Prop := ∃ r : Nat, e = .returned (.int .u64 (r : Int)) ∧ Hid (r = v) ∧ r < p ∧ Below w.heap.size w w'
theorem retW_of {w : World} {p v : Nat} {e : Ending} {w' : World} (h : e = .returned (.int .u64 ((v : Nat) : Int)) ∧ Drawn w w') (hv : v < p) : RetW w p v e w' := ⟨v, h.1, rfl, hv, h.2.below _⟩
theorem lt32 {a p : Nat} (ha : a < p) (hp : p < 2147483648) : a < 4294967296 := by omega
theorem mmul_r (p a b : Nat) (w : World) (h0 : 0 < p) (hp : p < 2147483648) (ha : a < p) (hb : b < p) : Calls Tryd.prog 36 #[.int .u64 (p : Int), .int .u64 (a : Int), .int .u64 (b : Int)] w (RetW w p (a * b % p)) :=
  (mmul_any p a b w h0 (lt32 ha hp) (lt32 hb hp)).mono (fun _ _ h => retW_of h (Nat.mod_lt _ h0))
theorem madd_r (p a b : Nat) (w : World) (h0 : 0 < p) (hp : p < 2147483648) (ha : a < p) (hb : b < p) : Calls Tryd.prog 32 #[.int .u64 (p : Int), .int .u64 (a : Int), .int .u64 (b : Int)] w (RetW w p ((a + b) % p)) :=
  (madd_any p a b w hp ha hb).mono (fun _ _ h => retW_of h (Nat.mod_lt _ h0))
theorem msub_r (p a b : Nat) (w : World) (h0 : 0 < p) (hp : p < 2147483648) (ha : a < p) (hb : b < p) : Calls Tryd.prog 34 #[.int .u64 (p : Int), .int .u64 (a : Int), .int .u64 (b : Int)] w (RetW w p ((a + p - b) % p)) :=
  (msub_any p a b w hp ha hb).mono (fun _ _ h => retW_of h (Nat.mod_lt _ h0))
theorem mpow_r (p a e : Nat) (w : World) (h0 : 0 < p) (hp : p < 2147483648) (ha : a < p) (he : e < 18446744073709551616) : Calls Tryd.prog 38 #[.int .u64 (p : Int), .int .u64 (a : Int), .int .u64 (e : Int)] w (RetW w p (a ^ e % p)) :=
  (mpow_any p a e w h0 (by omega) (lt32 ha hp) he).mono (fun _ _ h => retW_of h (Nat.mod_lt _ h0))
theorem qmul_r (p a b : Nat) (w : World) (h0 : 0 < p) (hp : p < 2147483648) (ha : a < p) (hb : b < p) : Calls Tryd.prog 37 #[.int .u64 (p : Int), .int .u64 (a : Int), .int .u64 (b : Int)] w (RetW w p (a * b % p)) :=
  (qmul_any p a b w h0 (lt32 ha hp) (lt32 hb hp)).mono (fun _ _ h => retW_of h (Nat.mod_lt _ h0))
theorem qadd_r (p a b : Nat) (w : World) (h0 : 0 < p) (hp : p < 2147483648) (ha : a < p) (hb : b < p) : Calls Tryd.prog 33 #[.int .u64 (p : Int), .int .u64 (a : Int), .int .u64 (b : Int)] w (RetW w p ((a + b) % p)) :=
  (qadd_any p a b w hp ha hb).mono (fun _ _ h => retW_of h (Nat.mod_lt _ h0))
theorem qsub_r (p a b : Nat) (w : World) (h0 : 0 < p) (hp : p < 2147483648) (ha : a < p) (hb : b < p) : Calls Tryd.prog 35 #[.int .u64 (p : Int), .int .u64 (a : Int), .int .u64 (b : Int)] w (RetW w p ((a + p - b) % p)) :=
  (qsub_any p a b w hp ha hb).mono (fun _ _ h => retW_of h (Nat.mod_lt _ h0))
theorem qpow_r (p a e : Nat) (w : World) (h0 : 0 < p) (hp : p < 2147483648) (ha : a < p) (he : e < 18446744073709551616) : Calls Tryd.prog 39 #[.int .u64 (p : Int), .int .u64 (a : Int), .int .u64 (e : Int)] w (RetW w p (a ^ e % p)) :=
  (qpow_any p a e w h0 (by omega) (lt32 ha hp) he).mono (fun _ _ h => retW_of h (Nat.mod_lt _ h0))
theorem retW_v {w : World} {p v : Nat} {e : Ending} {w' : World} (h : RetW w p v e w') (r : Nat) (hr : Hid (r = v)) : e = .returned (.int .u64 (r : Int)) ∧ Below w.heap.size w w' := by
  obtain ⟨r', rfl, h1, _, hB⟩ := h
  exact ⟨by rw [h1.out, hr.out], hB⟩
theorem qmul_v (p a b r : Nat) (w : World) (h0 : 0 < p) (hp : p < 2147483648) (ha : a < p) (hb : b < p) (hr : Hid (r = a * b % p)) : Calls Tryd.prog 37 #[.int .u64 (p : Int), .int .u64 (a : Int), .int .u64 (b : Int)] w fun e w' => e = .returned (.int .u64 (r : Int)) ∧ Below w.heap.size w w' := (qmul_r p a b w h0 hp ha hb).mono (fun _ _ h => retW_v h r hr)
theorem qadd_v (p a b r : Nat) (w : World) (h0 : 0 < p) (hp : p < 2147483648) (ha : a < p) (hb : b < p) (hr : Hid (r = (a + b) % p)) : Calls Tryd.prog 33 #[.int .u64 (p : Int), .int .u64 (a : Int), .int .u64 (b : Int)] w fun e w' => e = .returned (.int .u64 (r : Int)) ∧ Below w.heap.size w w' := (qadd_r p a b w h0 hp ha hb).mono (fun _ _ h => retW_v h r hr)
theorem qsub_v (p a b r : Nat) (w : World) (h0 : 0 < p) (hp : p < 2147483648) (ha : a < p) (hb : b < p) (hr : Hid (r = (a + p - b) % p)) : Calls Tryd.prog 35 #[.int .u64 (p : Int), .int .u64 (a : Int), .int .u64 (b : Int)] w fun e w' => e = .returned (.int .u64 (r : Int)) ∧ Below w.heap.size w w' := (qsub_r p a b w h0 hp ha hb).mono (fun _ _ h => retW_v h r hr)
theorem qpow_v (p a x r : Nat) (w : World) (h0 : 0 < p) (hp : p < 2147483648) (ha : a < p) (hx : x < 18446744073709551616) (hr : Hid (r = a ^ x % p)) : Calls Tryd.prog 39 #[.int .u64 (p : Int), .int .u64 (a : Int), .int .u64 (x : Int)] w fun e w' => e = .returned (.int .u64 (r : Int)) ∧ Below w.heap.size w w' := (qpow_r p a x w h0 hp ha hx).mono (fun _ _ h => retW_v h r hr)
theorem minv_z (p a : Nat) (w : World) (hp : 2 ≤ p) (h : a = 0) : Calls Tryd.prog 30 #[.int .u64 (p : Int), .int .u64 (a : Int)] w fun x w' => x = .returned (.tuple #[.int .u64 0, .int .i64 30]) ∧ Below w.heap.size w w' := by
  subst h
  exact (minv_zero p w hp).mono (fun _ _ h => ⟨h.1, h.2.below _⟩)
theorem qinv_z (p a : Nat) (w : World) (hp : 2 ≤ p) (h : a = 0) : Calls Tryd.prog 31 #[.int .u64 (p : Int), .int .u64 (a : Int)] w fun x w' => x = .returned (.tuple #[.int .u64 0, .int .i64 30]) ∧ Below w.heap.size w w' := by
  subst h
  exact (qinv_zero p w (by omega)).mono (fun _ _ h => ⟨h.1, h.2.below _⟩)
theorem minv_r (p a : Nat) (w : World) (hp : IsPrime p) (hpl : p < 2147483648) (ha : a < p) (h0 : 0 < a) : Calls Tryd.prog 30 #[.int .u64 (p : Int), .int .u64 (a : Int)] w fun x w' => ∃ d : Nat, x = .returned (.tuple #[.int .u64 (d : Int), .int .i64 0]) ∧ Hid (InvOk p a d) ∧ 0 < d ∧ d < p ∧ Below w.heap.size w w' := by
  refine (minv_any p a w hp hpl ha h0).mono ?_
  rintro e w' ⟨d, rfl, hd, hw⟩
  exact ⟨d, rfl, hd, hd.1, hd.2.1, hw.below _⟩
theorem qinv_r (p a : Nat) (w : World) (hp : IsPrime p) (hpl : p < 2147483648) (ha : a < p) (h0 : 0 < a) : Calls Tryd.prog 31 #[.int .u64 (p : Int), .int .u64 (a : Int)] w fun x w' => ∃ d : Nat, x = .returned (.tuple #[.int .u64 (d : Int), .int .i64 0]) ∧ Hid (InvOk p a d) ∧ 0 < d ∧ d < p ∧ Below w.heap.size w w' := by
  refine (qinv_any p a w hp.1 (by omega) ha h0).mono ?_
  rintro e w' ⟨rfl, hw⟩
  have hd := InvOk.fermat hp h0 ha
  exact ⟨_, rfl, hd, hd.1, hd.2.1, hw.below _⟩
theorem l_assoc (p a b c : Nat) : a * (b * c % p) % p = (a * b % p) * c % p := by rw [Nat.mul_mod_mod, Nat.mod_mul_mod, Nat.mul_assoc]
theorem l_dist (p a b c : Nat) : (a * c % p + b * c % p) % p = ((a + b) % p) * c % p := by rw [Nat.mod_mul_mod, Nat.add_mul, Nat.add_mod (a * c)]
theorem l_sub (p a b : Nat) (ha : a < p) (hb : b < p) : ((a + b) % p + p - b) % p = a := by
  rcases Nat.lt_or_ge (a + b) p with h | h
  · rw [Nat.mod_eq_of_lt h, show a + b + p - b = a + p by omega, Nat.add_mod_right, Nat.mod_eq_of_lt ha]
  · rw [Nat.mod_eq_sub_mod h, Nat.mod_eq_of_lt (show a + b - p < p by omega), show a + b - p + p - b = a by omega, Nat.mod_eq_of_lt ha]
theorem l_one (p a : Nat) (ha : a < p) : a * 1 % p = a := by rw [Nat.mul_one, Nat.mod_eq_of_lt ha]
theorem l_pow (p a i j : Nat) : a ^ (i + j) % p = (a ^ i % p) * (a ^ j % p) % p := by rw [← Nat.mul_mod, ← Nat.pow_add]
/-- Three cells of a block. -/
def Arr3 (w : World) (g : Nat) (a b c : Value) : Prop := w.cell? ⟨g, 0, none⟩ = some a ∧ w.cell? ⟨g, 1, none⟩ = some b ∧ w.cell? ⟨g, 2, none⟩ = some c ∧ g < w.heap.size
theorem Arr3.new (w : World) (a b c : Value) (t : TypeId) : Arr3 (w.alloc (.cells #[a, b, c] t)) w.heap.size a b c := by
  refine ⟨?_, ?_, ?_, ?_⟩ <;> simp
theorem Arr3.after {w w1 : World} {g : Nat} {a b c : Value} (h : Arr3 w g a b c) (hb : Below w.heap.size w w1) : Arr3 w1 g a b c :=
  ⟨(hb.cell (p := ⟨g, 0, none⟩) h.2.2.2).trans h.1, (hb.cell (p := ⟨g, 1, none⟩) h.2.2.2).trans h.2.1, (hb.cell (p := ⟨g, 2, none⟩) h.2.2.2).trans h.2.2.1, Nat.lt_of_lt_of_le h.2.2.2 hb.size⟩
theorem pmade_r (k : Nat) (w : World) (hk : k < 256) : Calls Tryd.prog 29 #[.int .u8 (k : Int)] w fun e w' => ∃ p : Nat, e = .returned (.int .u64 (p : Int)) ∧ Hid (IsPrime p) ∧ p < 2147483648 ∧ 2 ≤ p ∧ Below w.heap.size w w' := by
  refine (pmade_any k w hk).mono ?_
  rintro e w' ⟨p, rfl, hp, hB⟩
  obtain ⟨h1, h2⟩ := primes15_prime p hp
  exact ⟨p, rfl, h1, h2, h1.1, hB⟩
end Go.Proofs.YtnlmdjbakcjhbaaDoor
