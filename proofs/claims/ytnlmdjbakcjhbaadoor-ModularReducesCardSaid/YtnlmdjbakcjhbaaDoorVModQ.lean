/- What Prime, Next and Before answer at some numbers; Inv of 0; remainders of integers. -/
import Derived.Test.YtnlmdjbakcjhbaaDoorVModR
import Derived.Test.YtnlmdjbakcjhbaaDoorVG24Sz
namespace Go.Proofs.YtnlmdjbakcjhbaaDoor
open Go.RowKit
def pmod (p : Nat) : Nat → Nat → Nat → Nat
  | 0, _, _ => 1 % p
  | f + 1, a, e => if e % 2 = 1 then a * pmod p f (a * a % p) (e / 2) % p else pmod p f (a * a % p) (e / 2)
theorem pmod_eq (p : Nat) : ∀ f a e, e < 2 ^ f → pmod p f a e = a ^ e % p
  | 0, a, e, h => by
    obtain rfl : e = 0 := by have : 2 ^ 0 = 1 := rfl; omega
    rw [Nat.pow_zero]; rfl
  | f + 1, a, e, h => by
    have h2 : e / 2 < 2 ^ f := by rw [Nat.pow_succ] at h; omega
    have ih := pmod_eq p f (a * a % p) (e / 2) h2
    have ev : (a * a % p) ^ (e / 2) % p = a ^ (2 * (e / 2)) % p := by rw [← Nat.pow_mod, Nat.pow_mul, Nat.pow_two]
    unfold pmod
    rw [ih, ev]
    split
    · rename_i h1
      rw [Nat.mul_mod, Nat.mod_mod, ← Nat.mul_mod, Nat.mul_comm, ← Nat.pow_succ]
      congr 2; omega
    · congr 2; omega
def passQ (n b : Nat) : Bool := (pmod n 31 b ((n - 1) / 2 ^ Lib.ctz 64 (n - 1)) == 1) || (List.range (Lib.ctz 64 (n - 1))).any (fun i => sqs n (pmod n 31 b ((n - 1) / 2 ^ Lib.ctz 64 (n - 1))) i == n - 1)
theorem passB_eq (n b : Nat) (h : n < 2147483648) : passB n b = passQ n b := by
  have : (n - 1) / 2 ^ Lib.ctz 64 (n - 1) < 2 ^ 31 := Nat.lt_of_le_of_lt (Nat.div_le_self _ _) (by have : (2 : Nat) ^ 31 = 2147483648 := rfl; omega)
  unfold passQ passB
  rw [pmod_eq n 31 b _ this]
def primeQ (n : Nat) : Bool := if n < 2 ∨ 2147483648 ≤ n then false else if n % 2 = 0 then n == 2 else if n % 3 = 0 then n == 3 else if n % 5 = 0 then n == 5 else if n % 7 = 0 then n == 7 else passQ n 2 && (passQ n 3 && (passQ n 5 && (passQ n 7 && true)))
theorem primeF_eq (n : Nat) : primeF n = primeQ n := by
  unfold primeF primeQ
  split
  · rfl
  · rename_i h
    have hn : n < 2147483648 := by omega
    rw [← passB_eq n 2 hn, ← passB_eq n 3 hn, ← passB_eq n 5 hn, ← passB_eq n 7 hn]
    rfl
theorem pf_1 : primeF 1 = false := by rw [primeF_eq]; kernel_rfl
theorem pf_2 : primeF 2 = true := by rw [primeF_eq]; kernel_rfl
theorem pf_big1 : primeF 2147483659 = false := by rw [primeF_eq]; kernel_rfl
theorem pf_big2 : primeF 3215031751 = false := by rw [primeF_eq]; kernel_rfl
theorem pf_M : primeF 2147483647 = true := by rw [primeF_eq]; kernel_rfl
theorem pf_L : primeF 2147483629 = true := by rw [primeF_eq]; kernel_rfl
theorem pf_2047 : primeF 2047 = false := by rw [primeF_eq]; kernel_rfl
theorem upto_take (f : Nat → Nat) {m c : Nat} (h : m ≤ c) : (upto f c).take m = upto f m := by
  unfold upto
  rw [← List.map_take, List.take_range, Nat.min_eq_left h]
theorem upto_mem {f : Nat → Nat} {c y : Nat} : y ∈ upto f c ↔ ∃ i, i < c ∧ f i = y := by
  unfold upto
  rw [List.mem_map]
  exact ⟨fun ⟨i, h1, h2⟩ => ⟨i, List.mem_range.1 h1, h2⟩, fun ⟨i, h1, h2⟩ => ⟨i, List.mem_range.2 h1, h2⟩⟩
theorem FirstIn.found {f : Nat → Nat} {c r j : Nat} (h : FirstIn (upto f c) r) (hj : j < c) (hb : ∀ i, i < j → primeF (wr64 (f i)) = false) (hp : primeF (wr64 (f j)) = true) : r = wr64 (f j) := by
  rcases h with ⟨_, h0⟩ | ⟨pre, x, hpre, h1, h2, h3⟩
  · rw [h0 (f j) (upto_mem.2 ⟨j, hj, rfl⟩)] at hp; cases hp
  · have he := List.prefix_iff_eq_take.1 hpre
    have hlen : (pre ++ [x]).length ≤ c := by have := hpre.length_le; rwa [upto_len] at this
    rw [upto_take f hlen, List.length_append, List.length_singleton, upto_succ] at he
    obtain ⟨e1, e2⟩ := List.append_inj' he rfl
    obtain rfl : x = f pre.length := by simpa using e2
    rcases Nat.lt_trichotomy pre.length j with q | q | q
    · rw [hb _ q] at h2; cases h2
    · rw [h3, q]
    · have := h1 (f j) (by rw [e1]; exact upto_mem.2 ⟨j, q, rfl⟩)
      rw [hp] at this; cases this
theorem FirstIn.none {f : Nat → Nat} {c r : Nat} (h : FirstIn (upto f c) r) (hb : ∀ i, i < c → primeF (wr64 (f i)) = false) : r = 0 := by
  rcases h with ⟨h0, _⟩ | ⟨pre, x, hpre, h1, h2, h3⟩
  · exact h0
  · obtain ⟨i, hi, rfl⟩ := upto_mem.1 (hpre.subset (List.mem_append.2 (.inr (List.mem_singleton.2 rfl))))
    rw [hb i hi] at h2; cases h2
/-- What a call of Next or Before answers. -/
def AnsU (w : World) (r : Int) (e : Ending) (w' : World) : Prop := e = .returned (.int .u64 r) ∧ Below w.heap.size w w'
theorem next_at (n r : Nat) (j : Nat) (w : World) (hT : TabW w) (h5 : TabN w.heap.size) (hj : j < 2147483648 - (min n 2147483648 + 1)) (hb : ∀ i, i < j → primeF (wr64 (min n 2147483648 + 1 + i)) = false) (hp : primeF (wr64 (min n 2147483648 + 1 + j)) = true) (hr : wr64 (min n 2147483648 + 1 + j) = r) :
    Calls Tryd.prog 78 #[.int .u64 (n : Int)] w (AnsU w (r : Int)) := by
  refine (next_any n w hT h5).mono ?_
  rintro e w' ⟨r', rfl, hf, hB⟩
  obtain rfl := hf.found (f := fun k => min n 2147483648 + 1 + k) hj hb hp
  exact ⟨by rw [← hr], hB⟩
theorem next_no (n : Nat) (w : World) (hT : TabW w) (h5 : TabN w.heap.size) (hb : ∀ i, i < 2147483648 - (min n 2147483648 + 1) → primeF (wr64 (min n 2147483648 + 1 + i)) = false) :
    Calls Tryd.prog 78 #[.int .u64 (n : Int)] w (AnsU w 0) := by
  refine (next_any n w hT h5).mono ?_
  rintro e w' ⟨r', rfl, hf, hB⟩
  obtain rfl := hf.none (f := fun k => min n 2147483648 + 1 + k) hb
  exact ⟨rfl, hB⟩
theorem before_at (n r : Nat) (j : Nat) (w : World) (hT : TabW w) (h5 : TabN w.heap.size) (hj : j < min n 2147483648 - 1) (hb : ∀ i, i < j → primeF (wr64 (min n 2147483648 - 1 - i)) = false) (hp : primeF (wr64 (min n 2147483648 - 1 - j)) = true) (hr : wr64 (min n 2147483648 - 1 - j) = r) :
    Calls Tryd.prog 79 #[.int .u64 (n : Int)] w (AnsU w (r : Int)) := by
  refine (before_any n w hT h5).mono ?_
  rintro e w' ⟨r', rfl, hf, hB⟩
  obtain rfl := hf.found (f := fun k => min n 2147483648 - 1 - k) hj hb hp
  exact ⟨by rw [← hr], hB⟩
theorem before_no (n : Nat) (w : World) (hT : TabW w) (h5 : TabN w.heap.size) (hb : ∀ i, i < min n 2147483648 - 1 → primeF (wr64 (min n 2147483648 - 1 - i)) = false) :
    Calls Tryd.prog 79 #[.int .u64 (n : Int)] w (AnsU w 0) := by
  refine (before_any n w hT h5).mono ?_
  rintro e w' ⟨r', rfl, hf, hB⟩
  obtain rfl := hf.none (f := fun k => min n 2147483648 - 1 - k) hb
  exact ⟨rfl, hB⟩
theorem lt_zero {P : Nat → Prop} : ∀ i, i < 0 → P i := fun _ h => absurd h (by omega)
theorem lt_one {P : Nat → Prop} (h0 : P 0) : ∀ i, i < 1 → P i := fun i h => by obtain rfl : i = 0 := by omega
                                                                               exact h0
set_option maxHeartbeats 400000 in
theorem minv_zero (p : Nat) (w : World) (hp : 2 ≤ p) :
    Calls Tryd.prog 30 #[.int .u64 (p : Int), .int .u64 0] w fun x w' => x = .returned (.tuple #[.int .u64 0, .int .i64 30]) ∧ Drawn w w' := by
  have h1 : ((p : Int) != 1) = true := by simp; omega
  have h2 : ((p : Int) == 1) = false := by simp; omega
  go_enter Tryd.func30, Tryd.ntmps30
  go_wp2_with fail
  go_loopw [6, 7] (fun s6 s7 wr => s6 = .int .u64 (p : Int) ∧ s7 = .int .u64 0 ∧ Drawn w wr) (fun _ _ _ => 0)
  case atStart => exact ⟨rfl, rfl, Drawn.refl _⟩
  case round =>
    obtain ⟨rfl, rfl, hd⟩ := hrel
    go_wp2_with fail
    go_ret2
    exact ⟨rfl, hd⟩
theorem redV_z (neg : Bool) (p v : Nat) (z : Int) (hp : 0 < p) (h : zOf neg v = z) : ((redV neg p v : Nat) : Int) = z % (p : Int) := by
  subst h
  have hd := Nat.div_add_mod v p
  have hm := Nat.mod_lt v hp
  cases neg
  · show ((v % p : Nat) : Int) = (v : Int) % p
    exact Int.natCast_emod v p
  · show (((0 + p - v % p) % p : Nat) : Int) = (-(v : Int)) % p
    have e : -(v : Int) = ((0 + p - v % p : Nat) : Int) + (p : Int) * -(((v / p : Nat) : Int) + 1) := by
      rw [Int.mul_neg, Int.mul_add, Int.mul_one]
      have : (p : Int) * ((v / p : Nat) : Int) = ((p * (v / p) : Nat) : Int) := (Int.natCast_mul _ _).symm
      rw [this]
      generalize p * (v / p) = t at *
      generalize v % p = u at *
      omega
    rw [e, Int.add_mul_emod_self_left]
    exact Int.natCast_emod _ p
theorem mred_z {neg : Bool} {A : Option Addr} {n c : Nat} {z : Int} {w : World} (p : Nat) (hp0 : 0 < p) (hp : p < 2147483648) (ha : IsInt w neg A n c z) :
    Calls Tryd.prog 43 #[.int .u64 (p : Int), .agg #[.bool neg, .slice A n c]] w (AnsU w (z % (p : Int))) := by
  refine (mred_any p neg A n c (digs z.natAbs) w hp0 hp ha.lim).mono ?_
  rintro e w' ⟨rfl, hB⟩
  refine ⟨?_, hB⟩
  rw [redV_z neg p _ z hp0 (by rw [val_digs, ha.sign]; exact zOf_self z)]
end Go.Proofs.YtnlmdjbakcjhbaaDoor
