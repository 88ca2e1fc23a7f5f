/- Contracts in the form that the laws' walks use: sizes by a bound on the limbs, answers by facts on the integers. What Prime, Next and Before answer at some numbers; Inv of 0; remainders of integers. Mathematics of a round of interpolation; the contracts of package modular in the words of interpolation. Contracts of torsionref01.Sub and Cmp. Contract of torsionref01.Mul. Contract of torsionref01.Pow. More contracts in the form that the laws' walks use: division, and the reference's operations. Contract of torsionref01.short. Contract of torsionref01.divide for a divisor of one limb. -/
import Derived.Test.YtclmenpclkmfeaaDoorVG1CrtMap
import Derived.Test.YtclmenpclkmfeaaDoorVMul
import Derived.Test.YtclmenpclkmfeaaDoorVAdd
import Derived.Test.YtclmenpclkmfeaaDoorVG2Prod
import Derived.Test.YtclmenpclkmfeaaDoorVCmp
import Derived.Test.YtclmenpclkmfeaaDoorVG3Num2
import Derived.Test.YtclmenpclkmfeaaDoorVG16ModI
import Derived.Test.YtclmenpclkmfeaaDoorVG15DivModW
import Derived.Test.YtclmenpclkmfeaaDoorVG4DlOnce
import Derived.Test.YtclmenpclkmfeaaDoorVG7AddB
import Derived.Test.YtclmenpclkmfeaaDoorVG10DivMod
namespace Go.Proofs.YtclmenpclkmfeaaDoor
open Go.RowKit
/-- z has at most k limbs, and k is small. -/
structure Sz (k : Nat) (z : Int) : Prop where
  le : k ≤ 10000
  len : (digs z.natAbs).length ≤ k
theorem Sz.of {k : Nat} {z : Int} (h : z.natAbs < 4294967296 ^ k) (hk : k ≤ 10000) : Sz k z := ⟨hk, digs_len_le h⟩
theorem Sz.lt {k : Nat} {z : Int} (h : Sz k z) : z.natAbs < 4294967296 ^ k := Nat.lt_of_lt_of_le (lt_digs_len _) (Nat.pow_le_pow_right (by decide) h.len)
theorem Sz.mono {k l : Nat} {z : Int} (h : Sz k z) (hkl : k ≤ l) (hl : l ≤ 10000) : Sz l z := ⟨hl, Nat.le_trans h.len hkl⟩
theorem Sz.mul {k l : Nat} {a b : Int} (ha : Sz k a) (hb : Sz l b) (hk : k + l ≤ 10000) : Sz (k + l) (a * b) := by
  refine Sz.of ?_ hk
  rw [Int.natAbs_mul, Nat.pow_add]
  exact Nat.mul_lt_mul_of_lt_of_le ha.lt (Nat.le_of_lt hb.lt) (Nat.pow_pos (by decide))
theorem Sz.add {k : Nat} {a b : Int} (ha : Sz k a) (hb : Sz k b) (hk : k + 1 ≤ 10000) : Sz (k + 1) (a + b) := by
  refine Sz.of ?_ hk
  have h1 := ha.lt
  have h2 := hb.lt
  have h3 := Int.natAbs_add_le a b
  rw [Nat.pow_succ]
  omega
theorem Sz.neg {k : Nat} {a : Int} (ha : Sz k a) : Sz k (-a) := ⟨ha.le, by rw [Int.natAbs_neg]; exact ha.len⟩
theorem Sz.sub {k : Nat} {a b : Int} (ha : Sz k a) (hb : Sz k b) (hk : k + 1 ≤ 10000) : Sz (k + 1) (a - b) := by
  rw [Int.sub_eq_add_neg]; exact ha.add hb.neg hk
theorem Sz.raw (neg : Bool) (xs : List Nat) (k : Nat) (h : ∀ x ∈ xs, x < 4294967296) (hk : k ≤ 10000) : Sz k (zOf neg (val (xs.take k))) := by
  refine Sz.of ?_ hk
  rw [zOf_natAbs]
  have h1 := val_lt (limbs_take h k)
  exact Nat.lt_of_lt_of_le h1 (Nat.pow_le_pow_right (by decide) (by rw [List.length_take]; exact Nat.min_le_left _ _))
theorem IsInt.sz {w : World} {neg : Bool} {A : Option Addr} {n c k : Nat} {z : Int} (h : IsInt w neg A n c z) (s : Sz k z) : n ≤ 10000 := by
  rw [← h.lim.len]; exact Nat.le_trans s.len s.le
section
variable (neg neg' : Bool) (A A' : Option Addr) (n c m d : Nat) {k l : Nat} {a b : Int} (w : World)
theorem add_z (ha : IsInt w neg A n c a) (hb : IsInt w neg' A' m d b) (sa : Sz k a) (sb : Sz l b) : Calls Tryd.prog 45 #[.agg #[.bool neg, .slice A n c], .agg #[.bool neg', .slice A' m d]] w (RetInt w (a + b)) :=
  add_any neg neg' A A' n c m d a b w ha hb (Nat.le_trans (ha.sz sa) (by decide)) (Nat.le_trans (hb.sz sb) (by decide))
theorem sub_z (ha : IsInt w neg A n c a) (hb : IsInt w neg' A' m d b) (sa : Sz k a) (sb : Sz l b) : Calls Tryd.prog 46 #[.agg #[.bool neg, .slice A n c], .agg #[.bool neg', .slice A' m d]] w (RetInt w (a - b)) :=
  sub_any neg neg' A A' n c m d a b w ha hb (Nat.le_trans (ha.sz sa) (by decide)) (Nat.le_trans (hb.sz sb) (by decide))
theorem mul_z' (ha : IsInt w neg A n c a) (hb : IsInt w neg' A' m d b) (sa : Sz k a) (sb : Sz l b) : Calls Tryd.prog 64 #[.agg #[.bool neg, .slice A n c], .agg #[.bool neg', .slice A' m d]] w (RetInt w (a * b)) :=
  mul_any neg neg' A A' n c m d a b w ha hb (Nat.le_trans (ha.sz sa) (by decide)) (Nat.le_trans (hb.sz sb) (by decide))
theorem neg_z (ha : IsInt w neg A n c a) (sa : Sz k a) : Calls Tryd.prog 90 #[.agg #[.bool neg, .slice A n c]] w (RetInt w (-a)) :=
  neg_any neg A n c a w ha (Nat.le_trans (ha.sz sa) (by decide))
theorem same_z (ha : IsInt w neg A n c a) (hb : IsInt w neg' A' m d b) (h : a = b) : Calls Tryd.prog 19 #[.agg #[.bool neg, .slice A n c], .agg #[.bool neg', .slice A' m d]] w fun e w' => e = .returned (.bool true) ∧ Below w.heap.size w w' :=
  (same_any neg neg' A A' n c m d a b w ha hb).mono (by rintro e w' ⟨rfl, h2⟩; exact ⟨by rw [decide_eq_true h], h2⟩)
theorem same_v (v : Bool) (ha : IsInt w neg A n c a) (hb : IsInt w neg' A' m d b) (h : v = decide (a = b)) : Calls Tryd.prog 19 #[.agg #[.bool neg, .slice A n c], .agg #[.bool neg', .slice A' m d]] w fun e w' => e = .returned (.bool v) ∧ Below w.heap.size w w' := by
  subst h; exact same_any neg neg' A A' n c m d a b w ha hb
theorem sign_z (s : Int) (ha : IsInt w neg A n c a) (h : sgn a = s) : Calls Tryd.prog 88 #[.agg #[.bool neg, .slice A n c]] w fun e w' => e = .returned (.int .i64 s) ∧ Below w.heap.size w w' := by
  subst h; exact sign_any neg A n c a w ha
theorem cmp_z (s : Int) (ha : IsInt w neg A n c a) (hb : IsInt w neg' A' m d b) (h : cmpN a b = s) : Calls Tryd.prog 44 #[.agg #[.bool neg, .slice A n c], .agg #[.bool neg', .slice A' m d]] w fun e w' => e = .returned (.int .i64 s) ∧ Below w.heap.size w w' := by
  subst h; exact cmp_any neg neg' A A' n c m d a b w ha hb
end
theorem sgn_zero {z : Int} (h : z = 0) : sgn z = 0 := by subst h; rfl
end Go.Proofs.YtclmenpclkmfeaaDoor
namespace Go.Proofs.YtclmenpclkmfeaaDoor
open Go.RowKit
def pmod (p : Nat) : Nat → Nat → Nat → Nat
  | 0, _, _ => 1 % p
  | f + 1, a, e => if e % 2 = 1 then a * pmod p f (a * a % p) (e / 2) % p else pmod p f (a * a % p) (e / 2)
theorem pmod_eq (p : Nat) : ∀ f a e, e < 2 ^ f → pmod p f a e = a ^ e % p
  | 0, a, e, h => by
    obtain rfl : e = 0 := by have : 2 ^ 0 = 1 := rfl; omega
    rw [Nat.pow_zero]; rfl
  | f + 1, a, e, h => by
    have h2 : e / 2 < 2 ^ f := by rw [Nat.pow_succ] at h; omega
    have ih := pmod_eq p f (a * a % p) (e / 2) h2
    have ev : (a * a % p) ^ (e / 2) % p = a ^ (2 * (e / 2)) % p := by rw [← Nat.pow_mod, Nat.pow_mul, Nat.pow_two]
    unfold pmod
    rw [ih, ev]
    split
    · rename_i h1
      rw [Nat.mul_mod, Nat.mod_mod, ← Nat.mul_mod, Nat.mul_comm, ← Nat.pow_succ]
      congr 2; omega
    · congr 2; omega
def passQ (n b : Nat) : Bool := (pmod n 31 b ((n - 1) / 2 ^ Lib.ctz 64 (n - 1)) == 1) || (List.range (Lib.ctz 64 (n - 1))).any (fun i => sqs n (pmod n 31 b ((n - 1) / 2 ^ Lib.ctz 64 (n - 1))) i == n - 1)
theorem passB_eq (n b : Nat) (h : n < 2147483648) : passB n b = passQ n b := by
  have : (n - 1) / 2 ^ Lib.ctz 64 (n - 1) < 2 ^ 31 := Nat.lt_of_le_of_lt (Nat.div_le_self _ _) (by have : (2 : Nat) ^ 31 = 2147483648 := rfl; omega)
  unfold passQ passB
  rw [pmod_eq n 31 b _ this]
def primeQ (n : Nat) : Bool := if n < 2 ∨ 2147483648 ≤ n then false else if n % 2 = 0 then n == 2 else if n % 3 = 0 then n == 3 else if n % 5 = 0 then n == 5 else if n % 7 = 0 then n == 7 else passQ n 2 && (passQ n 3 && (passQ n 5 && (passQ n 7 && true)))
theorem primeF_eq (n : Nat) : primeF n = primeQ n := by
  unfold primeF primeQ
  split
  · rfl
  · rename_i h
    have hn : n < 2147483648 := by omega
    rw [← passB_eq n 2 hn, ← passB_eq n 3 hn, ← passB_eq n 5 hn, ← passB_eq n 7 hn]
    rfl
theorem pf_1 : primeF 1 = false := by rw [primeF_eq]; kernel_rfl
theorem pf_2 : primeF 2 = true := by rw [primeF_eq]; kernel_rfl
theorem pf_big1 : primeF 2147483659 = false := by rw [primeF_eq]; kernel_rfl
theorem pf_big2 : primeF 3215031751 = false := by rw [primeF_eq]; kernel_rfl
theorem pf_M : primeF 2147483647 = true := by rw [primeF_eq]; kernel_rfl
theorem pf_L : primeF 2147483629 = true := by rw [primeF_eq]; kernel_rfl
theorem pf_2047 : primeF 2047 = false := by rw [primeF_eq]; kernel_rfl
theorem upto_take (f : Nat → Nat) {m c : Nat} (h : m ≤ c) : (upto f c).take m = upto f m := by
  unfold upto
  rw [← List.map_take, List.take_range, Nat.min_eq_left h]
theorem upto_mem {f : Nat → Nat} {c y : Nat} : y ∈ upto f c ↔ ∃ i, i < c ∧ f i = y := by
  unfold upto
  rw [List.mem_map]
  exact ⟨fun ⟨i, h1, h2⟩ => ⟨i, List.mem_range.1 h1, h2⟩, fun ⟨i, h1, h2⟩ => ⟨i, List.mem_range.2 h1, h2⟩⟩
theorem FirstIn.found {f : Nat → Nat} {c r j : Nat} (h : FirstIn (upto f c) r) (hj : j < c) (hb : ∀ i, i < j → primeF (wr64 (f i)) = false) (hp : primeF (wr64 (f j)) = true) : r = wr64 (f j) := by
  rcases h with ⟨_, h0⟩ | ⟨pre, x, hpre, h1, h2, h3⟩
  · rw [h0 (f j) (upto_mem.2 ⟨j, hj, rfl⟩)] at hp; cases hp
  · have he := List.prefix_iff_eq_take.1 hpre
    have hlen : (pre ++ [x]).length ≤ c := by have := hpre.length_le; rwa [upto_len] at this
    rw [upto_take f hlen, List.length_append, List.length_singleton, upto_succ] at he
    obtain ⟨e1, e2⟩ := List.append_inj' he rfl
    obtain rfl : x = f pre.length := by simpa using e2
    rcases Nat.lt_trichotomy pre.length j with q | q | q
    · rw [hb _ q] at h2; cases h2
    · rw [h3, q]
    · have := h1 (f j) (by rw [e1]; exact upto_mem.2 ⟨j, q, rfl⟩)
      rw [hp] at this; cases this
theorem FirstIn.none {f : Nat → Nat} {c r : Nat} (h : FirstIn (upto f c) r) (hb : ∀ i, i < c → primeF (wr64 (f i)) = false) : r = 0 := by
  rcases h with ⟨h0, _⟩ | ⟨pre, x, hpre, h1, h2, h3⟩
  · exact h0
  · obtain ⟨i, hi, rfl⟩ := upto_mem.1 (hpre.subset (List.mem_append.2 (.inr (List.mem_singleton.2 rfl))))
    rw [hb i hi] at h2; cases h2
/-- What a call of Next or Before answers. -/
def AnsU (w : World) (r : Int) (e : Ending) (w' : World) : Prop := e = .returned (.int .u64 r) ∧ Below w.heap.size w w'
theorem lt_zero {P : Nat → Prop} : ∀ i, i < 0 → P i := fun _ h => absurd h (by omega)
theorem lt_one {P : Nat → Prop} (h0 : P 0) : ∀ i, i < 1 → P i := fun i h => by obtain rfl : i = 0 := by omega
                                                                               exact h0
set_option maxHeartbeats 400000 in
theorem minv_zero (p : Nat) (w : World) (hp : 2 ≤ p) :
    Calls Tryd.prog 68 #[.int .u64 (p : Int), .int .u64 0] w fun x w' => x = .returned (.tuple #[.int .u64 0, .int .i64 30]) ∧ Drawn w w' := by
  have h1 : ((p : Int) != 1) = true := by simp; omega
  have h2 : ((p : Int) == 1) = false := by simp; omega
  go_enter Tryd.func68, Tryd.ntmps68
  go_wp2_with fail
  go_loopw [6, 7] (fun s6 s7 wr => s6 = .int .u64 (p : Int) ∧ s7 = .int .u64 0 ∧ Drawn w wr) (fun _ _ _ => 0)
  case atStart => exact ⟨rfl, rfl, Drawn.refl _⟩
  case round =>
    obtain ⟨rfl, rfl, hd⟩ := hrel
    go_wp2_with fail
    go_ret2
    exact ⟨rfl, hd⟩
theorem redV_z (neg : Bool) (p v : Nat) (z : Int) (hp : 0 < p) (h : zOf neg v = z) : ((redV neg p v : Nat) : Int) = z % (p : Int) := by
  subst h
  have hd := Nat.div_add_mod v p
  have hm := Nat.mod_lt v hp
  cases neg
  · show ((v % p : Nat) : Int) = (v : Int) % p
    exact Int.natCast_emod v p
  · show (((0 + p - v % p) % p : Nat) : Int) = (-(v : Int)) % p
    have e : -(v : Int) = ((0 + p - v % p : Nat) : Int) + (p : Int) * -(((v / p : Nat) : Int) + 1) := by
      rw [Int.mul_neg, Int.mul_add, Int.mul_one]
      have : (p : Int) * ((v / p : Nat) : Int) = ((p * (v / p) : Nat) : Int) := (Int.natCast_mul _ _).symm
      rw [this]
      generalize p * (v / p) = t at *
      generalize v % p = u at *
      omega
    rw [e, Int.add_mul_emod_self_left]
    exact Int.natCast_emod _ p
theorem mred_z {neg : Bool} {A : Option Addr} {n c : Nat} {z : Int} {w : World} (p : Nat) (hp0 : 0 < p) (hp : p < 2147483648) (ha : IsInt w neg A n c z) :
    Calls Tryd.prog 53 #[.int .u64 (p : Int), .agg #[.bool neg, .slice A n c]] w (AnsU w (z % (p : Int))) := by
  refine (mred_any p neg A n c (digs z.natAbs) w hp0 hp ha.lim).mono ?_
  rintro e w' ⟨rfl, hB⟩
  refine ⟨?_, hB⟩
  rw [redV_z neg p _ z hp0 (by rw [val_digs, ha.sign]; exact zOf_self z)]
end Go.Proofs.YtclmenpclkmfeaaDoor
namespace Go.Proofs.YtclmenpclkmfeaaDoor
open Go.RowKit Go.Maps
theorem primeF_lt {n : Nat} (h : primeF n = true) : n < 2147483648 ∧ 2 ≤ n := by
  unfold primeF at h
  by_cases h0 : n < 2 ∨ 2147483648 ≤ n
  · rw [if_pos h0] at h; cases h
  · omega
theorem prime_cop {p q : Nat} (hp : IsPrime p) (hq : IsPrime q) (hne : p ≠ q) : Nat.gcd p q = 1 := by
  rcases hp.2 _ (Nat.gcd_dvd_left p q) with h | h
  · exact h
  · have h1 : p ∣ q := by rw [← h]; exact Nat.gcd_dvd_right p q
    rcases hq.2 _ h1 with h2 | h2
    · have := hp.1; omega
    · exact absurd h2 hne
theorem mem_take_rev {L : List (Nat × Nat)} {k : Nat} {x : Nat × Nat} (h : x ∈ L.take k) : x ∈ L := List.mem_of_mem_take h
/-- Different primes are coprime in pairs. -/
theorem OkR.cop {L : List (Nat × Nat)} (h : OkR L) (hpr : ∀ x ∈ L, IsPrime x.1) {k : Nat} (hk : k < L.length) : Nat.gcd (L.getD k (0, 0)).1 (prodP (L.take k)) = 1 := by
  refine cop_prod fun x hx => prime_cop (hpr _ (getD_mem hk)) (hpr x (mem_take_rev hx)) fun e => ?_
  have h1 := (h k hk).1
  rw [List.any_eq_false] at h1
  exact h1 x (List.mem_reverse.2 hx) (by rw [beq_iff_eq]; exact e.symm)
theorem prodP_le : ∀ {l : List (Nat × Nat)}, (∀ x ∈ l, x.1 ≤ 4294967296) → prodP l ≤ 4294967296 ^ l.length
  | [], _ => by simp [prodP]
  | x :: l, h => by
    have h1 := prodP_le fun y hy => h y (List.mem_cons_of_mem _ hy)
    have h2 := h x List.mem_cons_self
    show x.1 * prodP l ≤ 4294967296 ^ (l.length + 1)
    rw [Nat.pow_succ, Nat.mul_comm]
    exact Nat.mul_le_mul h1 h2
theorem CInv.sz {l : List (Nat × Nat)} {a m : Nat} (h : CInv l a m) (hp : ∀ x ∈ l, x.1 ≤ 4294967296) (hl : l.length ≤ 1000) : Sz (l.length + 1) (a : Int) ∧ Sz (l.length + 1) (m : Int) := by
  have h1 : m ≤ 4294967296 ^ l.length := by rw [h.prod]; exact prodP_le hp
  have h2 := h.lt
  have h3 : 4294967296 ^ l.length < 4294967296 ^ (l.length + 1) := Nat.pow_lt_pow_right (by decide) (by omega)
  exact ⟨Sz.of (by rw [Int.natAbs_natCast]; omega) (by omega), Sz.of (by rw [Int.natAbs_natCast]; omega) (by omega)⟩
theorem OkR.bound {L : List (Nat × Nat)} (h : OkR L) : ∀ x ∈ L, x.2 < x.1 ∧ x.1 < 2147483648 ∧ primeF x.1 = true := by
  intro x hx
  obtain ⟨k, hk, rfl⟩ := List.getElem_of_mem hx
  have h1 := h k hk
  have e : L.getD k (0, 0) = L[k] := by rw [List.getD_eq_getElem?_getD, List.getElem?_eq_getElem hk]; rfl
  unfold OkAt at h1
  rw [e] at h1
  exact ⟨h1.2.1, (primeF_lt h1.2.2).1, h1.2.2⟩
/-- What a round of interpolation rests on. -/
structure RndI (L : List (Nat × Nat)) (k a m p v : Nat) : Prop where
  p2 : 2 ≤ p
  pl : p < 2147483648
  pr : IsPrime p
  vp : v < p
  mp : 0 < m % p
  sa : Sz (k + 1) (a : Int)
  sm : Sz (k + 1) (m : Int)
  next : ∀ d, InvOk p (m % p) d → CInv (L.take (k + 1)) (a + m * ((v + (p - a % p)) % p * d % p)) (m * p)
theorem round_math {L : List (Nat × Nat)} (hok : OkR L) (hpr : ∀ x ∈ L, IsPrime x.1) {k : Nat} (hk : k < L.length) (hl : L.length ≤ 1000) {a m p v : Nat} (h : CInv (L.take k) a m) (hp : (L.getD k (0, 0)).1 = p) (hv : (L.getD k (0, 0)).2 = v) : RndI L k a m p v := by
  have hm := getD_mem hk
  have hb := hok.bound _ hm
  have hq := hpr _ hm
  have hc := hok.cop hpr hk
  rw [hp, hv] at hb
  rw [hp] at hq hc
  rw [← h.prod] at hc
  have hlen : (L.take k).length = k := by rw [List.length_take]; omega
  have hs := h.sz (fun x hx => by have := (hok.bound x (mem_take_rev hx)).2.1; omega) (by omega)
  rw [hlen] at hs
  have h2 := hq.1
  have hmp : 0 < m % p := by
    rcases Nat.eq_zero_or_pos (m % p) with h0 | h0
    · have h1 : p ∣ m := Nat.dvd_of_mod_eq_zero h0
      rw [Nat.gcd_eq_left h1] at hc; omega
    · exact h0
  refine ⟨h2, hb.2.1, hq, hb.1, hmp, hs.1, hs.2, fun d hd => ?_⟩
  have e : L.take (k + 1) = L.take k ++ [(p, v)] := by
    rw [List.take_add_one, List.getElem?_eq_getElem hk]
    have e1 : L.getD k (0, 0) = L[k] := by rw [List.getD_eq_getElem?_getD, List.getElem?_eq_getElem hk]; rfl
    rw [← e1, ← hp, ← hv]
    rfl
  rw [e]
  refine h.step hb.1 ?_
  have := hd.2.2
  rw [Nat.mod_mul_mod] at this
  rw [this, Nat.mod_eq_of_lt (by omega)]
/-- The table has the residue. -/
theorem OkR.at {H : Type} {L : List (Nat × Nat)} (h : OkR L) {k p v : Nat} (hk : k < L.length) (hp : (L.getD k (0, 0)).1 = p) (hv : (L.getD k (0, 0)).2 = v) (z : DataW H) : (tabD L.reverse).atKey (.int .u64 (p : Int)) z = .lit (.int .u64 (v : Int)) := by
  have h1 := h.pair L.length (Nat.le_refl _)
  rw [List.take_length] at h1
  refine tabD_at z h1 (List.mem_reverse.2 ?_)
  rw [← hp, ← hv]
  exact getD_mem hk
theorem mred_n {neg : Bool} {A : Option Addr} {n c a : Nat} {w : World} (p r : Nat) (hp0 : 2 ≤ p) (hp : p < 2147483648) (ha : IsInt w neg A n c (a : Int)) (hr : a % p = r) :
    Calls Tryd.prog 53 #[.int .u64 (p : Int), .agg #[.bool neg, .slice A n c]] w (fun e w' => e = .returned (.int .u64 (r : Int)) ∧ Below w.heap.size w w') :=
  (mred_z p (by omega) hp ha).mono (by rintro e w' ⟨rfl, hb⟩; exact ⟨by rw [← hr, Int.natCast_emod], hb⟩)
theorem mred_r {neg : Bool} {A : Option Addr} {n c : Nat} {z : Int} {w : World} (p r : Nat) (hp0 : 2 ≤ p) (hp : p < 2147483648) (ha : IsInt w neg A n c z) (hr : z % (p : Int) = (r : Int)) :
    Calls Tryd.prog 53 #[.int .u64 (p : Int), .agg #[.bool neg, .slice A n c]] w (fun e w' => e = .returned (.int .u64 (r : Int)) ∧ Below w.heap.size w w') :=
  (mred_z p (by omega) hp ha).mono (by rintro e w' ⟨rfl, hb⟩; exact ⟨by rw [hr], hb⟩)
theorem msub_b (p v r s : Nat) (w : World) (hp : p < 2147483648) (hv : v < p) (hr : r < p) (hs : (v + (p - r)) % p = s) :
    Calls Tryd.prog 67 #[.int .u64 (p : Int), .int .u64 (v : Int), .int .u64 (r : Int)] w (fun e w' => e = .returned (.int .u64 (s : Int)) ∧ Below w.heap.size w w') :=
  (msub_any p v r w hp hv hr).mono (by rintro e w' ⟨rfl, hd⟩; exact ⟨by rw [← hs, show v + p - r = v + (p - r) by omega], hd.below _⟩)
theorem minv_b (p r : Nat) (w : World) (hp : IsPrime p) (hpl : p < 2147483648) (h0 : 0 < r) (hr : r < p) :
    Calls Tryd.prog 68 #[.int .u64 (p : Int), .int .u64 (r : Int)] w (fun e w' => ∃ d : Nat, e = .returned (.tuple #[.int .u64 (d : Int), .int .i64 0]) ∧ InvOk p r d ∧ Below w.heap.size w w') :=
  (minv_any p r w hp hpl hr h0).mono (by rintro e w' ⟨d, rfl, h1, hd⟩; exact ⟨d, rfl, h1, hd.below _⟩)
theorem mmul_b (p a b : Nat) (w : World) (hp0 : 0 < p) (hp : p < 2147483648) (ha : a < p) (hb : b < p) :
    Calls Tryd.prog 69 #[.int .u64 (p : Int), .int .u64 (a : Int), .int .u64 (b : Int)] w (fun e w' => ∃ t : Nat, e = .returned (.int .u64 (t : Int)) ∧ a * b % p = t ∧ Below w.heap.size w w') :=
  (mmul_any p a b w hp0 (by omega) (by omega)).mono (by rintro e w' ⟨rfl, hd⟩; exact ⟨_, rfl, rfl, hd.below _⟩)
end Go.Proofs.YtclmenpclkmfeaaDoor
namespace Go.Proofs.YtclmenpclkmfeaaDoor
open Go.RowKit
theorem IsInt.len_eq {w w' : World} {neg neg' : Bool} {A A' : Option Addr} {n c m d : Nat} {z z' : Int} (h : IsInt w neg A n c z) (k : IsInt w' neg' A' m d z') (e : z.natAbs = z'.natAbs) : n = m := by
  rw [← h.lim.len, ← k.lim.len, e]
set_option maxHeartbeats 1000000 in
theorem rsub_any (neg neg' : Bool) (A A' : Option Addr) (n c m d : Nat) (a b : Int) (w : World) (ha : IsInt w neg A n c a) (hb : IsInt w neg' A' m d b) (hn : n ≤ 100000) (hm : m ≤ 100000) :
    Calls Tryd.prog 23 #[.agg #[.bool neg, .slice A n c], .agg #[.bool neg', .slice A' m d]] w (RetInt w (a - b)) := by
  have H1 := fun W (hW : Below w.heap.size w W) => rneg_any neg' A' m d b W (hb.below hW) (by omega)
  have H2 := fun (W W1 : World) (g1 : Bool) (A1 : Option Addr) (n1 c1 : Nat) (h1 : IsInt W1 g1 A1 n1 c1 (-b)) (hW : Below w.heap.size w W) (hW1 : Below W.heap.size W W1) =>
    radd_any neg g1 A A1 n c n1 c1 a (-b) W1 (ha.below (hW.trans (hW1.mono hW.size))) h1 hn (by rw [h1.len_eq hb (by simp)]; exact hm)
  rw [← Int.sub_eq_add_neg] at H2
  have H1' := Lib.hid H1
  have H2' := Lib.hid H2
  clear H1 H2
  obtain ⟨HB, P0, P1, R0⟩ := frame21 w (.bool neg) (.slice A n c) (.bool neg') (.slice A' m d)
  have HS : Hid (∀ W, Below (w.heap.size + 1 + 1) (((w.alloc (.cells #[.bool neg, .slice A n c] 28)).alloc (.cells #[.bool neg', .slice A' m d] 28)).alloc (.cells #[.bool false, .slice none 0 0] 28)) W → W.cell? ⟨w.heap.size, 0, none⟩ = some (.bool neg) ∧ W.cell? ⟨w.heap.size, 1, none⟩ = some (.slice A n c) ∧ W.cell? ⟨w.heap.size + 1, 0, none⟩ = some (.bool neg') ∧ W.cell? ⟨w.heap.size + 1, 1, none⟩ = some (.slice A' m d)) :=
    fun W hW => ⟨(P0.below hW (by omega)).1, (P0.below hW (by omega)).2.1, (P1.below hW (by omega)).1, (P1.below hW (by omega)).2.1⟩
  go_enter Tryd.func23, Tryd.ntmps23
  go_wp2_with fail
  go_region_held3 (fun W => W.cell? ⟨w.heap.size, 0, none⟩ = some (.bool neg) ∧ W.cell? ⟨w.heap.size, 1, none⟩ = some (.slice A n c) ∧ W.cell? ⟨w.heap.size + 1, 0, none⟩ = some (.bool neg') ∧ W.cell? ⟨w.heap.size + 1, 1, none⟩ = some (.slice A' m d)) (exact HS.out _ (by first | exact Below.refl _ _ | exact (Below.refl _ _).drew | exact Below.drewN' (Below.refl _ _) _ | exact (Below.drewN' (Below.refl _ _) _).drew | exact D1.mono (by omega) | exact D2.mono (by omega) | exact ((D2.mono (by omega)).setCell (by simp) _).setCell (by simp) _))
    (first
      | (go_at_call 18; refine (H1'.out _ (by first | exact HB | exact HB.drew | exact Below.drewN' HB _ | exact (Below.drewN' HB _).drew)).mono ?_; rintro e w1 ⟨neg1, A1, n1, c1, rfl, hi1, hb1⟩; have D1 := Below.trans (by first | exact Below.refl _ _ | exact (Below.refl _ _).drew | exact Below.drewN' (Below.refl _ _) _ | exact (Below.drewN' (Below.refl _ _) _).drew : Below (w.heap.size + 1 + 1 + 1) (((w.alloc (.cells #[.bool neg, .slice A n c] 28)).alloc (.cells #[.bool neg', .slice A' m d] 28)).alloc (.cells #[.bool false, .slice none 0 0] 28)) _) (hb1.mono (by simp)))
      | (go_at_call 15; refine (H2'.out _ _ _ _ _ _ hi1 HB (D1.mono (by simp))).mono ?_; rintro e w2 ⟨neg2, A2, n2, c2, rfl, hi2, hb2⟩; have D2 := D1.trans (hb2.mono (by have := D1.size; simp at this; omega)); obtain ⟨k0, k1, f0, f1, _⟩ := R0.below D2 (by omega)))
  go_wp2
  exact bodyPost_ret (v := .agg #[.bool neg2, .slice A2 n2 c2]) (by simp [results, Tryd.results23, go_sem, k0, k1]) rfl
    (RetInt.stored hi2 (HB.trans (D1.mono (by omega))) (hb2.mono (by omega)) (by omega) k0 k1 rfl rfl)
set_option maxHeartbeats 1000000 in
theorem rcmp_any (neg neg' : Bool) (A A' : Option Addr) (n c m d : Nat) (a b : Int) (w : World) (ha : IsInt w neg A n c a) (hb : IsInt w neg' A' m d b) (hn : n ≤ 100000) (hm : m ≤ 100000) :
    Calls Tryd.prog 17 #[.agg #[.bool neg, .slice A n c], .agg #[.bool neg', .slice A' m d]] w fun e w' => e = .returned (.int .i64 (cmpN a b)) ∧ Below w.heap.size w w' := by
  have H1 := fun W (hW : Below w.heap.size w W) => rsub_any neg neg' A A' n c m d a b W (ha.below hW) (hb.below hW) hn hm
  have H1' := Lib.hid H1
  have HZ := Lib.hid (show sgn (a - b) = cmpN a b by unfold sgn cmpN; split <;> split <;> first | rfl | omega | (split <;> first | rfl | omega))
  clear H1 ha hb
  obtain ⟨HB, P0, P1⟩ := frame20 w (.bool neg) (.slice A n c) (.bool neg') (.slice A' m d)
  go_enter Tryd.func17, Tryd.ntmps17
  go_wp2_with fail
  refine (H1'.out _ HB).mono ?_
  rintro e w1 ⟨neg1, A1, n1, c1, rfl, hi1, hb1⟩
  go_wp2_with fail
  refine (rsign_any _ _ _ _ _ _ hi1).mono ?_
  rintro e w2 ⟨rfl, hb2⟩
  go_wp2
  go_ret
  exact ⟨retI HZ.out, (HB.trans (hb1.mono HB.size)).trans (hb2.mono (HB.trans (hb1.mono HB.size)).size)⟩
end Go.Proofs.YtclmenpclkmfeaaDoor
namespace Go.Proofs.YtclmenpclkmfeaaDoor
open Go.RowKit
/-- The world in which the loops of Mul start. -/
def Wm (w : World) (a0 a1 b0 b1 : Value) : World := ((w.alloc (.cells #[a0, a1] 28)).alloc (.cells #[b0, b1] 28)).alloc (.cells #[.bool false, .slice none 0 0] 28)
theorem size_Wm (w : World) (a0 a1 b0 b1 : Value) : (Wm w a0 a1 b0 b1).heap.size = w.heap.size + 1 + 1 + 1 := by unfold Wm; simp
/-- What holds of the product at the outer loop's head. -/
structure MulOut (W : World) (g n m : Nat) (xs ys : List Nat) (wr : World) (k : Nat) (R : List Nat) : Prop where
  row : Row wr g R
  lim : Limbs R
  len : R.length = n + m + 1
  zero : ∀ j, k + m ≤ j → R.getD j 0 = 0
  eqn : val R = val (xs.take k) * val ys
  bel : Below g W wr
/-- What holds of it at the inner loop's head. -/
structure MulIn (W : World) (g n m k x : Nat) (ys R : List Nat) (wr : World) (l q : Nat) (S : List Nat) : Prop where
  row : Row wr g S
  lim : Limbs S
  len : S.length = n + m + 1
  zero : ∀ j, k + m + 1 ≤ j → S.getD j 0 = 0
  top : l ≤ m → S.getD (k + m) 0 = 0
  eqn : val S + q * (4294967296 ^ k * 4294967296 ^ l) = val R + x * val (ys.take l) * 4294967296 ^ k
  end_ : l = m + 1 → q = 0
  bel : Below g W wr
theorem MulIn.step {W : World} {g n m k x y r : Nat} {ys R : List Nat} {wr : World} {l q : Nat} {S : List Nat} (h : MulIn W g n m k x ys R wr l q S) (hk : k < n) (hl : l ≤ m) (hy : y = ys.getD l 0) (hr : r = S.getD (k + l) 0) (p : Nat) (hp : p = x * y) (hm : l = m → q < 4294967296 ∧ p = 0) (nn : Nat) :
    MulIn W g n m k x ys R ((wr.drewN nn).setCell ⟨g, k + l, none⟩ (.int .u32 (((q + r + p) % 4294967296 : Nat) : Int))) (l + 1) ((q + r + p) / 4294967296) (S.set (k + l) ((q + r + p) % 4294967296)) := by
  refine ⟨(Row.drewN h.row _).set _ _, limbs_set h.lim _ (by omega), by rw [List.length_set]; exact h.len, fun j hj => ?_, fun hj => ?_, ?_, fun e => ?_, (Below.drewN' h.bel _).setCell (by simp) _⟩
  · rw [getD_set_ne _ _ (by omega)]; exact h.zero j hj
  · rw [getD_set_ne _ _ (by omega)]; exact h.top hl
  · have h1 := val_set S (k + l) ((q + r + p) % 4294967296) (by rw [h.len]; omega)
    rw [← hr, Nat.pow_add] at h1
    rw [val_take_succ ys, ← hy, Nat.pow_succ]
    have e : q + r + p = p + r + q := by omega
    rw [e] at h1 ⊢
    exact prod_step h.eqn (by rw [hp]) h1
  · obtain ⟨h1, h2⟩ := hm (by omega)
    have e2 : r = 0 := by rw [hr]; have : l = m := by omega
                          subst this; exact h.top (Nat.le_refl _)
    rw [h2, e2]; omega
set_option maxHeartbeats 2000000 in
theorem rmul_any (neg neg' : Bool) (A A' : Option Addr) (n c m d : Nat) (a b : Int) (w : World) (ha : IsInt w neg A n c a) (hb : IsInt w neg' A' m d b) (hn : n ≤ 100000) (hm : m ≤ 100000) :
    Calls Tryd.prog 33 #[.agg #[.bool neg, .slice A n c], .agg #[.bool neg', .slice A' m d]] w (RetInt w (a * b)) := by
  have hmk : ∀ W : World, (Instr.makeSlice 26 (.int .i64 ((n : Int) + m + 1)) (.int .i64 ((n : Int) + m + 1))).run Tryd.prog W =
    .ok (.slice (some ⟨W.heap.size, 0, none⟩) (n + m + 1) (n + m + 1)) (W.alloc (.cells (madeCells #[.int .u32 0] (n + m + 1)) 69)) := fun W => make_u32 (n + m + 1) (by omega) W
  have H2 := fun A2 n2 c2 zs (W : World) (hz : Lim W W.heap.size A2 n2 c2 zs) (hl : zs.length ≤ 300000) (hv : val zs = val (digs a.natAbs) * val (digs b.natAbs)) => made_val (neg != neg') A2 n2 c2 (a.natAbs * b.natAbs) (a * b) zs W hz (by omega) (by rw [hv, val_digs, val_digs]) (mul_z neg neg' a b ha.sign hb.sign)
  have H2' := Lib.hid H2
  clear H2
  obtain ⟨HB, P0, P1, R0⟩ := frame21 w (.bool neg) (.slice A n c) (.bool neg') (.slice A' m d)
  have hla := ha.lim
  have hlb := hb.lim
  clear ha hb
  have hcn := hla.cap
  have hcm := hlb.cap
  generalize digs a.natAbs = xs at *
  generalize digs b.natAbs = ys at *
  have HLx := Lib.hid hla.len
  have HLy := Lib.hid hlb.len
  have ⟨p0, p1, _, _, _⟩ := P0
  have ⟨q0, q1, _, _, _⟩ := P1
  go_enter Tryd.func33, Tryd.ntmps33
  go_wp2
  clear p0 p1 q0 q1
  have HW : Hid (((w.alloc (.cells #[.bool neg, .slice A n c] 28)).alloc (.cells #[.bool neg', .slice A' m d] 28)).alloc (.cells #[.bool false, .slice none 0 0] 28) = Wm w (.bool neg) (.slice A n c) (.bool neg') (.slice A' m d)) := rfl
  have HWs := Lib.hid (size_Wm w (.bool neg) (.slice A n c) (.bool neg') (.slice A' m d))
  rw [HW.out] at HB P0 P1 R0 ⊢
  generalize Wm w (.bool neg) (.slice A n c) (.bool neg') (.slice A' m d) = W at *
  clear HW
  have hs := HWs.out
  go_loopw [6] (fun i wr => ∃ (k : Nat) (R : List Nat), k ≤ n ∧ i = .int .i64 k ∧ MulOut W (w.heap.size + 1 + 1 + 1) n m xs ys wr k R) (fun i _ => n - (intOf i).toNat)
  case atStart =>
    refine ⟨0, List.replicate (n + m + 1) 0, by omega, rfl, ?_, limbs_zeros _, by simp, fun j hj => (getD_zeros (k := 0 + m) _).out j hj, by simp [val, val_zeros], ?_⟩
    · rw [← hs]; exact Row.made W (n + m + 1)
    · rw [← hs]; exact (Below.refl _ _).alloc (Nat.le_refl _) _
  case round =>
    obtain ⟨k, R, hk, rfl, HO⟩ := hrel
    obtain ⟨p0, p1, _, _, _⟩ := P0.below HO.bel (by omega)
    obtain ⟨q0, q1, _, _, _⟩ := P1.below HO.bel (by omega)
    by_cases hkn : k < n
    · obtain ⟨ad, rfl, _, x, hx, hxl, hcx⟩ := ((hla.below HB).below (HO.bel.mono (by omega))).at_ hkn
      go_wp2
      obtain ⟨wo, rfl⟩ : ∃ wo : World, wo = wr := ⟨_, rfl⟩
      clear p0 p1 q0 q1 hcx
      go_loopw [7, 8] (fun cr i wi => ∃ (l q : Nat) (S : List Nat), l ≤ m + 1 ∧ i = .int .i64 l ∧ cr = .int .u64 q ∧ q < 4294967296 ∧ MulIn W (w.heap.size + 1 + 1 + 1) n m k x ys R wi l q S) (fun _ i _ => m + 1 - (intOf i).toNat)
      case atStart => exact ⟨0, 0, R, by omega, rfl, rfl, by omega, HO.row, HO.lim, HO.len, fun j hj => HO.zero j (by omega), fun _ => HO.zero _ (Nat.le_refl _), by simp [val], fun _ => rfl, HO.bel⟩
      case round =>
        obtain ⟨l, q, S, hl, rfl, rfl, hq, HI⟩ := hrel
        obtain ⟨p0, p1, _, _, _⟩ := P0.below HI.bel (by omega)
        obtain ⟨q0, q1, _, _, _⟩ := P1.below HI.bel (by omega)
        by_cases hlm : l < m
        · have hl' : l ≤ m := by omega
          obtain ⟨ad', rfl, _, y, hy, hyl, hcy⟩ := ((hlb.below HB).below (HI.bel.mono (by omega))).at_ hlm
          obtain ⟨_, e, _, x', hx', _, hcx⟩ := ((hla.below HB).below (HI.bel.mono (by omega))).at_ hkn
          obtain rfl := Option.some.inj e
          obtain rfl : x' = x := hx'.out.trans hx.out.symm
          have hcr := HI.row.cell (k := k + l) (by rw [HI.len]; omega)
          have hfr := HI.row.frozen (k + l)
          obtain ⟨r, hr⟩ : ∃ r, r = S.getD (k + l) 0 := ⟨_, rfl⟩
          have hrl : r < 4294967296 := by
            subst hr
            rw [List.getD_eq_getElem?_getD, List.getElem?_eq_getElem (by rw [HI.len]; omega)]
            exact HI.lim _ (List.getElem_mem _)
          rw [← hr] at hcr
          have HR := Lib.hid hr
          clear hr
          obtain ⟨p, hp⟩ : ∃ p : Nat, p = x' * y := ⟨_, rfl⟩
          have hpl : p ≤ 18446744065119617025 := by
            subst hp
            exact Nat.mul_le_mul (show x' ≤ 4294967295 by omega) (show y ≤ 4294967295 by omega)
          have hxy : (x' : Int) * (y : Int) = (p : Int) := by rw [hp]; exact (Int.natCast_mul x' y).symm
          have HP := Lib.hid hp
          clear hp
          have i0 : (0 : Int) ≤ (k : Int) + l := by omega
          have i1 : (k : Int) + l < (n : Int) + m + 1 := by omega
          have i2 : ((k : Int) + l).toNat = k + l := by omega
          have i3 : (l : Int) < m := by omega
          have i4 : (0 : Int) ≤ l := by omega
          have w0 : IntKind.i64.wrap ((k : Int) + l) = (k : Int) + l := by rw [IntKind.wrap_i64]; omega
          have w1 : IntKind.u64.wrap (p : Int) = (p : Int) := by rw [IntKind.wrap_u64]; omega
          have w2 : IntKind.u64.wrap ((q : Int) + r) = (q : Int) + r := by rw [IntKind.wrap_u64]; omega
          have w3 : IntKind.u64.wrap ((q : Int) + r + p) = (q : Int) + r + p := by rw [IntKind.wrap_u64]; omega
          go_wp2
          go_quiet (fail)
          go_wp2
          go_roundw
          case rel =>
            have e1 : (((q + r + p) % 4294967296 : Nat) : Int) = ((q : Int) + r + p) % 4294967296 := by omega
            have e2 : (((q + r + p) / 4294967296 : Nat) : Int) = ((q : Int) + r + p) / 4294967296 := by omega
            rw [← e1, ← e2]
            exact ⟨l + 1, (q + r + p) / 4294967296, _, by omega, by go_num, rfl, by omega, HI.step hkn hl' hy.out HR.out p HP.out (fun e => absurd hlm (by omega)) _⟩
          case measure => simp [intOf] <;> omega
        · rcases Nat.eq_zero_or_pos q with rfl | hq0
          · go_wp2
            go_roundw
            case rel =>
              refine ⟨k + 1, S, by omega, by go_num, HI.row, HI.lim, HI.len, fun j hj => HI.zero j (by omega), ?_, HI.bel⟩
              have h1 := HI.eqn
              rw [List.take_of_length_le (l := ys) (by rw [HLy.out]; omega), Nat.zero_mul, Nat.add_zero, HO.eqn] at h1
              rw [h1, val_take_succ xs, ← hx.out, Nat.add_mul, Nat.mul_comm (4294967296 ^ k) x, Nat.mul_right_comm x (4294967296 ^ k)]
            case measure => simp [intOf] <;> omega
          · obtain rfl : l = m := by
              rcases Nat.lt_or_ge m l with h | h
              · have := HI.end_ (by omega); omega
              · omega
            have hcr := HI.row.cell (k := k + l) (by rw [HI.len]; omega)
            have hfr := HI.row.frozen (k + l)
            rw [HI.top (Nat.le_refl _)] at hcr
            have i0 : (0 : Int) ≤ (k : Int) + l := by omega
            have i1 : (k : Int) + l < (n : Int) + l + 1 := by omega
            have i2 : ((k : Int) + l).toNat = k + l := by omega
            go_wp2
            go_roundw
            case rel =>
              have e1 : (((q + 0 + 0) % 4294967296 : Nat) : Int) = (q : Int) := by omega
              have e2 : (q + 0 + 0) / 4294967296 = 0 := by omega
              have hst := HI.step (y := 0) (r := 0) hkn (Nat.le_refl _) (take_none (by rw [HLy.out]; exact Nat.le_refl _)).symm (HI.top (Nat.le_refl _)).symm 0 (by simp) (fun _ => ⟨hq, rfl⟩) 0
              rw [e1, e2] at hst
              refine ⟨l + 1, 0, _, by omega, by go_num, ?_, by omega, hst⟩
              congr 1
              omega
            case measure => simp [intOf] <;> omega
    · obtain rfl : k = n := by omega
      go_wp2_with fail
      refine (H2'.out _ _ _ R _ ((HO.row.len_lim HO.lim _ HO.len (by omega))) (by rw [HO.len]; omega) ?_).mono ?_
      · rw [HO.eqn, List.take_of_length_le (by rw [HLx.out]; exact Nat.le_refl _)]
      rintro e w2 ⟨neg2, A2, n2, c2, rfl, hi2, hb2⟩
      have B2 := HO.bel.trans (hb2.mono (by have := HO.bel.size; omega))
      obtain ⟨k0, k1, f0, f1, _⟩ := R0.below B2 (by omega)
      go_wp2
      exact bodyPost_ret (v := .agg #[.bool neg2, .slice A2 n2 c2]) (by simp [results, Tryd.results33, go_sem, k0, k1]) rfl
        (RetInt.stored hi2 (HB.trans (HO.bel.mono (by omega))) hb2 (by omega) k0 k1 rfl rfl)
end Go.Proofs.YtclmenpclkmfeaaDoor
namespace Go.Proofs.YtclmenpclkmfeaaDoor
open Go.RowKit
end Go.Proofs.YtclmenpclkmfeaaDoor
namespace Go.Proofs.YtclmenpclkmfeaaDoor
open Go.RowKit
section
variable (neg neg' : Bool) (A A' : Option Addr) (n c m d : Nat) {k l : Nat} {a b : Int} (w : World)
theorem dm_z (ha : IsInt w neg A n c a) (hb : IsInt w neg' A' m d b) (sa : Sz k a) (sb : Sz l b) (hb0 : b ≠ 0) : Calls Tryd.prog 57 #[.agg #[.bool neg, .slice A n c], .agg #[.bool neg', .slice A' m d]] w (RetDM w (a / b) (a % b)) :=
  dm_any neg neg' A A' n c m d a b w ha hb hb0 (Nat.le_trans (hb.sz sb) (by decide)) fun W hW =>
    divOk_all 10000 (by decide) A A' n n m m a.natAbs b.natAbs W ((ha.lim.tight.below hW).more hW.size) ((hb.lim.tight.below hW).more hW.size) (ha.sz sa) (hb.sz sb) (by omega)
theorem gcd_z (ha : IsInt w neg A n c a) (hb : IsInt w neg' A' m d b) (sa : Sz k a) (sb : Sz l b) : Calls Tryd.prog 89 #[.agg #[.bool neg, .slice A n c], .agg #[.bool neg', .slice A' m d]] w (RetInt w ((Nat.gcd a.natAbs b.natAbs : Nat) : Int)) :=
  gcd_of 10000 (divOk_all 10000 (by decide)) (by decide) neg neg' A A' n c m d a b w ha hb (ha.sz sa) (hb.sz sb)
theorem radd_z (ha : IsInt w neg A n c a) (hb : IsInt w neg' A' m d b) (sa : Sz k a) (sb : Sz l b) : Calls Tryd.prog 15 #[.agg #[.bool neg, .slice A n c], .agg #[.bool neg', .slice A' m d]] w (RetInt w (a + b)) :=
  radd_any neg neg' A A' n c m d a b w ha hb (Nat.le_trans (ha.sz sa) (by decide)) (Nat.le_trans (hb.sz sb) (by decide))
theorem rsub_z (ha : IsInt w neg A n c a) (hb : IsInt w neg' A' m d b) (sa : Sz k a) (sb : Sz l b) : Calls Tryd.prog 23 #[.agg #[.bool neg, .slice A n c], .agg #[.bool neg', .slice A' m d]] w (RetInt w (a - b)) :=
  rsub_any neg neg' A A' n c m d a b w ha hb (Nat.le_trans (ha.sz sa) (by decide)) (Nat.le_trans (hb.sz sb) (by decide))
theorem rmul_z (ha : IsInt w neg A n c a) (hb : IsInt w neg' A' m d b) (sa : Sz k a) (sb : Sz l b) : Calls Tryd.prog 33 #[.agg #[.bool neg, .slice A n c], .agg #[.bool neg', .slice A' m d]] w (RetInt w (a * b)) :=
  rmul_any neg neg' A A' n c m d a b w ha hb (Nat.le_trans (ha.sz sa) (by decide)) (Nat.le_trans (hb.sz sb) (by decide))
theorem rsign_z (s : Int) (ha : IsInt w neg A n c a) (h : sgn a = s) : Calls Tryd.prog 25 #[.agg #[.bool neg, .slice A n c]] w fun e w' => e = .returned (.int .i64 s) ∧ Below w.heap.size w w' := by
  subst h; exact rsign_any neg A n c a w ha
theorem rcmp_z (s : Int) (ha : IsInt w neg A n c a) (hb : IsInt w neg' A' m d b) (sa : Sz k a) (sb : Sz l b) (h : cmpN a b = s) : Calls Tryd.prog 17 #[.agg #[.bool neg, .slice A n c], .agg #[.bool neg', .slice A' m d]] w fun e w' => e = .returned (.int .i64 s) ∧ Below w.heap.size w w' := by
  subst h; exact rcmp_any neg neg' A A' n c m d a b w ha hb (Nat.le_trans (ha.sz sa) (by decide)) (Nat.le_trans (hb.sz sb) (by decide))
theorem rmadeAbs_z (ha : IsInt w neg A n c a) (sa : Sz k a) : Calls Tryd.prog 48 #[.slice A n c, .bool false] w (RetInt w ((a.natAbs : Nat) : Int)) := by
  have := Made_any false A n c w.heap.size _ w ha.lim (Nat.le_refl _) (Nat.le_trans (ha.sz sa) (by decide))
  rwa [val_digs] at this
theorem rabs_z (ha : IsInt w neg A n c a) (sa : Sz k a) : Calls Tryd.prog 30 #[.agg #[.bool neg, .slice A n c]] w (RetInt w ((a.natAbs : Nat) : Int)) :=
  rabs_any neg A n c a w ha (Nat.le_trans (ha.sz sa) (by decide))
set_option maxHeartbeats 400000 in
theorem rvalid_z (ha : IsInt w neg A n c a) : Calls Tryd.prog 13 #[.agg #[.bool neg, .slice A n c]] w fun e w' => e = .returned (.bool true) ∧ Below w.heap.size w w' := by
  have HB := (Below.refl w.heap.size w).alloc (Nat.le_refl _) (.cells #[.bool neg, .slice A n c] 28)
  obtain ⟨k0, k1, _, _, _⟩ := Slot2.new w (.bool neg) (.slice A n c) 28
  rcases Nat.eq_zero_or_pos n with h0 | h0
  · have hn : neg = false := by
      have h1 : a = 0 := (len_of ha).1 h0
      rw [ha.sign, h1]; rfl
    subst h0 hn
    go_enter Tryd.func13, Tryd.ntmps13
    go_wp2
    go_ret
    exact ⟨rfl, HB⟩
  · obtain ⟨ad, rfl, _, x, hx, hxl, hcx⟩ := (ha.lim.below HB).at_ (k := n - 1) (by omega)
    have hx0 : x ≠ 0 := by
      have hne : digs a.natAbs ≠ [] := by intro e; have := ha.lim.len; rw [e] at this; simp at this; omega
      have h3 := digs_last (n := a.natAbs) hne
      rw [List.getLast_eq_getElem] at h3
      rw [hx.out, List.getD_eq_getElem?_getD, List.getElem?_eq_getElem (by rw [ha.lim.len]; omega)]
      simp only [ha.lim.len] at h3
      simpa using h3
    have b1 : ((n : Int) == 0) = false := by simp; omega
    have hnl := ha.lim.cap
    have i1 : IntKind.i64.wrap ((n : Int) - 1) = (n : Int) - 1 := by rw [IntKind.wrap_i64]; omega
    have b2 : ((x : Int) != 0) = true := by simp; omega
    clear ha hx
    go_enter Tryd.func13, Tryd.ntmps13
    go_wp2
    go_ret
    exact ⟨retB (by simp), HB⟩
end
theorem Sz.div {k : Nat} {a b : Int} (ha : Sz k a) (hk : k + 1 ≤ 10000) : Sz (k + 1) (a / b) := by
  refine Sz.of ?_ hk
  have h1 := ha.lt
  have h2 : (a / b).natAbs ≤ a.natAbs + 1 := by
    have := Int.natAbs_ediv_le_natAbs a b
    omega
  rw [Nat.pow_succ]
  have : 0 < 4294967296 ^ k := Nat.pow_pos (by decide)
  omega
theorem Sz.mod {k : Nat} {a b : Int} (hb : Sz k b) (h0 : b ≠ 0) : Sz k (a % b) := by
  refine ⟨hb.le, Nat.le_trans (digs_len_mono ?_) hb.len⟩
  have h1 := Int.emod_nonneg a h0
  have h2 := Int.emod_lt a h0
  omega
theorem Sz.abs {k : Nat} {a : Int} (ha : Sz k a) : Sz k ((a.natAbs : Nat) : Int) := ⟨ha.le, by rw [Int.natAbs_natCast]; exact ha.len⟩
end Go.Proofs.YtclmenpclkmfeaaDoor
namespace Go.Proofs.YtclmenpclkmfeaaDoor
open Go.RowKit
/-- What holds of a short division at a round's head: the limbs from place k + 1 on are done. -/
structure ShInv (w : World) (n d : Nat) (xs : List Nat) (wr : World) (k r : Nat) (ys : List Nat) : Prop where
  row : Row wr w.heap.size ys
  lim : Limbs ys
  len : ys.length = n
  eqn : val (xs.drop k) = val (ys.drop k) * d + r
  bel : Below w.heap.size w wr
theorem ShInv.step {w : World} {n d : Nat} {xs : List Nat} {wr : World} {k r x : Nat} {ys : List Nat} (h : ShInv w n d xs wr (k + 1) r ys) (hk : k < n) (hl : xs.length = n) (hd : 0 < d) (hx : x = xs.getD k 0) (hr : r < d) (hxl : x < 4294967296) :
    (r * 4294967296 + x) / d < 4294967296 ∧ ShInv w n d xs (wr.setCell ⟨w.heap.size, k, none⟩ (.int .u32 (((r * 4294967296 + x) / d : Nat) : Int))) k ((r * 4294967296 + x) % d) (ys.set k ((r * 4294967296 + x) / d)) := by
  have hv1 : (r * 4294967296 + x) / d < 4294967296 := by
    rw [Nat.div_lt_iff_lt_mul hd]
    have : 4294967296 * (r + 1) ≤ 4294967296 * d := Nat.mul_le_mul_left _ hr
    omega
  refine ⟨hv1, h.row.set _ _, limbs_set h.lim _ hv1, by rw [List.length_set]; exact h.len, ?_, h.bel.setCell (by simp) _⟩
  have htd := Nat.div_add_mod (r * 4294967296 + x) d
  rw [val_set_drop (by rw [h.len]; exact hk), val_drop_cons (xs := xs) (k := k) (by omega), h.eqn, ← hx]
  generalize (r * 4294967296 + x) / d = v at *
  generalize (r * 4294967296 + x) % d = r' at *
  rw [Nat.add_mul, Nat.mul_add, ← Nat.mul_assoc]
  rw [Nat.mul_comm d v] at htd
  omega
theorem retT2 {k : IntKind} {a b : Int} {v : Value} (h : a = b) : Ending.returned (.tuple #[v, .int k a]) = .returned (.tuple #[v, .int k b]) := by rw [h]
set_option maxHeartbeats 1000000 in
theorem short_any (A : Option Addr) (n c B d : Nat) (xs : List Nat) (w : World) (ha : Lim w B A n c xs) (hB : B ≤ w.heap.size) (hn : n ≤ 1000000) (hd : 0 < d) (hdl : d < 4294967296) :
    Calls Tryd.prog 75 #[.slice A n c, .int .u32 (d : Int)] w fun e w' => ∃ A1 zs, e = .returned (.tuple #[.slice A1 n n, .int .u32 ((val xs % d : Nat) : Int)]) ∧ Lim w' w'.heap.size A1 n n zs ∧ val zs = val xs / d ∧ Below w.heap.size w w' := by
  have hmk : ∀ W : World, (Instr.makeSlice 26 (.int .i64 (n : Int)) (.int .i64 (n : Int))).run Tryd.prog W =
    .ok (.slice (some ⟨W.heap.size, 0, none⟩) n n) (W.alloc (.cells (madeCells #[.int .u32 0] n) 69)) := fun W => make_u32 n (by omega) W
  have b1 : ((d : Int) == 0) = false := by simp; omega
  have HL := Lib.hid ha.len
  go_enter Tryd.func75, Tryd.ntmps75
  go_wp2
  go_loopw [7, 8] (fun re i wr => ∃ (k r : Nat) (ys : List Nat), k ≤ n ∧ i = .int .i64 ((k : Int) - 1) ∧ re = .int .u64 r ∧ r < d ∧ ShInv w n d xs wr k r ys) (fun _ i _ => (intOf i + 1).toNat)
  case atStart =>
    refine ⟨n, 0, _, by omega, rfl, rfl, hd, Row.made w n, limbs_zeros _, by simp, ?_, (Below.refl _ _).alloc (Nat.le_refl _) _⟩
    rw [List.drop_of_length_le (by rw [HL.out]; exact Nat.le_refl _), List.drop_of_length_le (by simp)]; simp [val]
  case round =>
    obtain ⟨k, r, ys, hk, rfl, rfl, hr, HI⟩ := hrel
    rcases Nat.eq_zero_or_pos k with rfl | h0
    · go_wp2
      go_ret2
      have hv' := HI.eqn
      rw [List.drop_zero, List.drop_zero] at hv'
      refine ⟨_, ys, ?_, HI.row.len_lim HI.lim n HI.len (by omega), ?_, HI.bel⟩
      · exact retT2 (by rw [hv', Nat.mul_comm, Nat.mul_add_mod, Nat.mod_eq_of_lt hr])
      · rw [hv', Nat.mul_comm, Nat.mul_add_div hd, Nat.div_eq_of_lt hr, Nat.add_zero]
    · obtain ⟨k, rfl⟩ : ∃ j, k = j + 1 := ⟨k - 1, by omega⟩
      obtain ⟨ad, rfl, _, x, hx, hxl, hcx⟩ := (ha.below (HI.bel.mono hB)).at_ (show k < n by omega)
      have hc := HI.row.cell (k := k) (by rw [HI.len]; omega)
      have hf := HI.row.frozen k
      obtain ⟨hv1, HJ⟩ := HI.step (by omega) HL.out hd hx.out hr hxl
      have hm := Nat.mod_lt (r * 4294967296 + x) hd
      have i0 : ((k + 1 : Nat) : Int) - 1 = (k : Int) := by omega
      rw [i0]
      have e2 : ((r : Int) * 4294967296 + x) % (d : Int) = (((r * 4294967296 + x) % d : Nat) : Int) := by rw [Int.natCast_emod, Int.natCast_add, Int.natCast_mul]; rfl
      have e3 : ((r : Int) * 4294967296 + x) / (d : Int) % 4294967296 = (((r * 4294967296 + x) / d : Nat) : Int) := by
        have h : ((r : Int) * 4294967296 + x) / (d : Int) = (((r * 4294967296 + x) / d : Nat) : Int) := by rw [Int.natCast_ediv, Int.natCast_add, Int.natCast_mul]; rfl
        rw [h]; exact Int.emod_eq_of_lt (Int.natCast_nonneg _) (Int.ofNat_lt.2 hv1)
      have E2 := Lib.hid e2
      have E3 := Lib.hid e3
      clear e2 e3 i0
      go_wp2
      rw [E2.out, E3.out]
      exact ⟨⟨k, _, _, by omega, rfl, rfl, hm, HJ⟩, by simp [intOf] <;> omega⟩
end Go.Proofs.YtclmenpclkmfeaaDoor
namespace Go.Proofs.YtclmenpclkmfeaaDoor
open Go.RowKit
/-- Two integers come back. -/
def RetII (w : World) (x y : Int) (e : Ending) (w' : World) : Prop := ∃ g1 A1 n1 c1 g2 A2 n2 c2, e = .returned (.tuple #[.agg #[.bool g1, .slice A1 n1 c1], .agg #[.bool g2, .slice A2 n2 c2]]) ∧ IsInt w' g1 A1 n1 c1 x ∧ IsInt w' g2 A2 n2 c2 y ∧ Below w.heap.size w w'
/-- Both results, stored into two new structs of the call's own. -/
theorem RetII.stored {w W w1 w2 : World} {q r : Int} {g1 g2 : Bool} {A1 A2 : Option Addr} {n1 c1 n2 c2 g : Nat} (hi1 : IsInt w1 g1 A1 n1 c1 q) (hi2 : IsInt w2 g2 A2 n2 c2 r) (hb2 : Below w1.heap.size w1 w2) (hB : Below w.heap.size w W) (hW : Below W.heap.size W w1) (hg : w.heap.size ≤ g)
    (S0 : Slot2 w2 g (.bool false) (.slice none 0 0)) (S1 : Slot2 w2 (g + 1) (.bool false) (.slice none 0 0)) :
    RetII w q r (.returned (.tuple #[.agg #[.bool g1, .slice A1 n1 c1], .agg #[.bool g2, .slice A2 n2 c2]])) ((((w2.setCell ⟨g, 0, none⟩ (.bool g1)).setCell ⟨g, 1, none⟩ (.slice A1 n1 c1)).setCell ⟨g + 1, 0, none⟩ (.bool g2)).setCell ⟨g + 1, 1, none⟩ (.slice A2 n2 c2)) := by
  obtain ⟨k0, k1, _, _, _⟩ := S0
  obtain ⟨l0, l1, _, _, _⟩ := S1.far2 (g' := g) (by omega) (.bool g1) (.slice A1 n1 c1)
  have B2 : Below w.heap.size w w2 := (hB.trans (hW.mono hB.size)).trans (hb2.mono (Nat.le_trans hB.size hW.size))
  exact ⟨_, _, _, _, _, _, _, _, rfl, ((hi1.below hb2).stored k0 k1 rfl rfl _ _).stored l0 l1 rfl rfl _ _, (hi2.stored k0 k1 rfl rfl _ _).stored l0 l1 rfl rfl _ _, (((B2.setCell hg _).setCell hg _).setCell (Nat.le_succ_of_le hg) _).setCell (Nat.le_succ_of_le hg) _⟩
theorem frame02 (w : World) : Below w.heap.size w ((w.alloc (.cells #[.bool false, .slice none 0 0] 28)).alloc (.cells #[.bool false, .slice none 0 0] 28)) ∧
    Slot2 ((w.alloc (.cells #[.bool false, .slice none 0 0] 28)).alloc (.cells #[.bool false, .slice none 0 0] 28)) w.heap.size (.bool false) (.slice none 0 0) ∧
    Slot2 ((w.alloc (.cells #[.bool false, .slice none 0 0] 28)).alloc (.cells #[.bool false, .slice none 0 0] 28)) (w.heap.size + 1) (.bool false) (.slice none 0 0) := by
  refine ⟨((Below.refl _ _).alloc (Nat.le_refl _) _).alloc (by simp) _, (Slot2.new w _ _ _).alloc _, ?_⟩
  have := Slot2.new (w.alloc (.cells #[.bool false, .slice none 0 0] 28)) (.bool false) (.slice none 0 0) 28
  rwa [World.size_alloc] at this
theorem val_one (r : Nat) : val [r] = r := by simp [val]
set_option maxHeartbeats 1000000 in
theorem rdiv_one (A A' : Option Addr) (n c d a b : Nat) (w : World) (ha : Lim w w.heap.size A n c (digs a)) (hb : Lim w w.heap.size A' 1 d (digs b)) (hn : n ≤ 100000) :
    Calls Tryd.prog 54 #[.slice A n c, .slice A' 1 d] w (RetII w ((a / b : Nat) : Int) ((a % b : Nat) : Int)) := by
  have hb0 : 0 < b := by
    rcases Nat.eq_zero_or_pos b with h | h
    · have := hb.len; rw [h, digs_zero] at this; simp at this
    · exact h
  have hb1 : digs b = [b] := by
    have h1 := digs_pos hb0
    have h2 := hb.len
    rw [h1] at h2
    have h3 : digs (b / 4294967296) = [] := by simpa using h2
    have h4 : b / 4294967296 = 0 := digs_ne.1 h3
    rw [h1, h3, Nat.mod_eq_of_lt (by omega)]
  have hbl : b < 4294967296 := by
    have := limbs_digs b; rw [hb1] at this; exact this b (by simp)
  have HC : ∀ W, Below w.heap.size w W → ∃ ad : Addr, A' = some ad ∧ W.cell? ad = some (.int .u32 (b : Int)) := fun W hW => by
    obtain ⟨ad, e, _, x, hx, _, hc⟩ := (hb.below hW).at_ (k := 0) (by omega)
    rw [hb1] at hx
    have hx' := hx.out
    simp at hx'
    subst hx'
    refine ⟨ad, e, ?_⟩
    rwa [show ad.add 0 = ad by unfold Addr.add; simp] at hc
  have H1 := fun W (hW : Below w.heap.size w W) => short_any A n c w.heap.size b (digs a) W (ha.below hW) hW.size (by omega) hb0 hbl
  have H2 := fun A2 n2 c2 zs (W : World) (v : Nat) (hz : Lim W W.heap.size A2 n2 c2 zs) (hl : zs.length ≤ 1000000) (hv : val zs = v) => made_val false A2 n2 c2 v (v : Int) zs W hz hl hv rfl
  rw [val_digs] at H1
  obtain ⟨HB, P0, P1⟩ := frame02 w
  obtain ⟨ad, rfl, hcb⟩ := HC _ HB
  have H1' := Lib.hid H1
  have H2' := Lib.hid H2
  have HM := Lib.hid (Nat.mod_lt a hb0)
  clear H1 H2 HC hb1
  go_enter Tryd.func54, Tryd.ntmps54
  go_wp2_with fail
  refine (H1'.out _ HB).mono ?_
  rintro e w1 ⟨A1, zs, rfl, hl1, hv1, hb1⟩
  have HV1 := Lib.hid hv1
  clear hv1 hcb
  go_wp2_with fail
  refine (H2'.out _ _ _ zs w1 _ hl1 (by rw [hl1.len]; omega) HV1.out).mono ?_
  rintro e w2 ⟨g2, A2, n2, c2, rfl, hi2, hb2⟩
  have hl3 := (row_new w2 [a % b] #[.int .u32 ((a : Int) % (b : Int))] (by simp [ints])).len_lim (by intro z hz; have := HM.out; simp at hz; omega) 1 rfl (by omega)
  have D3 : Below w2.heap.size w2 (w2.alloc (.cells #[.int .u32 ((a : Int) % (b : Int))] 69)) := (Below.refl _ _).alloc (Nat.le_refl _) _
  go_wp2_with fail
  refine (H2'.out _ _ _ [a % b] _ _ hl3 (by simp) (val_one _)).mono ?_
  rintro e w4 ⟨g4, A4, n4, c4, rfl, hi4, hb4⟩
  have E1 := Below.trans hb1 (hb2.mono hb1.size)
  have E2 := Below.trans D3 (hb4.mono D3.size)
  have S0 := ((P0.after hb1).after hb2).after E2
  have S1 := ((P1.after hb1).after hb2).after E2
  have ⟨k0, k1, k2, k3, _⟩ := S0
  have ⟨m0, m1, m2, m3, _⟩ := S1
  go_wp2
  exact bodyPost_ret (v := .tuple #[.agg #[.bool g2, .slice A2 n2 c2], .agg #[.bool g4, .slice A4 n4 c4]]) (by simp [results, Tryd.results54, go_sem, k0, k1, m0, m1]) rfl
    (RetII.stored (hi2) hi4 E2 HB E1 (Nat.le_refl _) S0 S1)
end Go.Proofs.YtclmenpclkmfeaaDoor
