/- Words and mathematics for the law IntegerRoots. -/
import Derived.Test.YtclmenpclkmfeaaDoorVLawKit
import Derived.Test.YtclmenpclkmfeaaDoorVG7AddB
namespace Go.Proofs.YtclmenpclkmfeaaDoor
open Go.RowKit
theorem IsBits.uniq {v B C : Nat} (h : IsBits v B) (k : IsBits v C) : B = C := by
  rcases Nat.eq_zero_or_pos v with h0 | h0
  · rw [h.2.1 h0, k.2.1 h0]
  · obtain ⟨a1, a2⟩ := h.2.2 h0
    obtain ⟨b1, b2⟩ := k.2.2 h0
    have l1 := h.1
    have l2 := k.1
    rcases Nat.lt_trichotomy B C with e | e | e
    · exfalso
      have : 2 ^ B ≤ 2 ^ (C - 1) := Nat.pow_le_pow_right (by omega) (by omega)
      omega
    · exact e
    · exfalso
      have : 2 ^ C ≤ 2 ^ (B - 1) := Nat.pow_le_pow_right (by omega) (by omega)
      omega
theorem IsBits.shift {v B : Nat} (h : IsBits v B) (k : Nat) (h0 : 0 < v) : IsBits (v * 2 ^ k) (B + k) := by
  obtain ⟨a1, a2⟩ := h.2.2 h0
  have hp := Nat.two_pow_pos k
  have hm : 0 < v * 2 ^ k := Nat.mul_pos h0 hp
  refine ⟨by rw [Nat.pow_add]; exact Nat.mul_lt_mul_of_pos_right h.1 hp, fun e => by omega, fun _ => ⟨?_, by omega⟩⟩
  rw [show B + k - 1 = (B - 1) + k by omega, Nat.pow_add]
  exact Nat.mul_le_mul_right _ a1
theorem IsBits.le {v B : Nat} (h : IsBits v B) (h384 : v < 4294967296 ^ 12) : B ≤ 384 := by
  rcases Nat.lt_or_ge 384 B with h1 | h1
  · exfalso
    rcases Nat.eq_zero_or_pos v with h0 | h0
    · have := h.2.1 h0; omega
    · have h2 := (h.2.2 h0).1
      obtain ⟨K, hK⟩ : ∃ K, K = 12 := ⟨_, rfl⟩
      rw [← hK] at h384
      have h3 : 2 ^ (32 * K) ≤ 2 ^ (B - 1) := Nat.pow_le_pow_right (by omega) (by omega)
      have h4 : 4294967296 ^ K = 2 ^ (32 * K) := by rw [Nat.pow_mul]
      omega
  · exact h1
theorem sq_root {v s : Nat} (h1 : s * s ≤ v * v) (h2 : v * v < (s + 1) * (s + 1)) : s = v := by
  rcases Nat.lt_trichotomy s v with e | e | e
  · exfalso
    have : (s + 1) * (s + 1) ≤ v * v := Nat.mul_le_mul e e
    omega
  · exact e
  · exfalso
    have : (v + 1) * (v + 1) ≤ s * s := Nat.mul_le_mul e e
    simp only [Nat.add_mul, Nat.mul_add] at this
    omega
section
variable (neg : Bool) (A : Option Addr) (n c : Nat) {k : Nat} {a : Int} (w : World)
theorem root_z (v : Nat) (ha : IsInt w neg A n c (v : Int)) (sa : Sz k (v : Int)) : Calls Tryd.prog 58 #[.agg #[.bool neg, .slice A n c]] w fun e w' => ∃ r : Nat, RetIE w (r : Int) 0 e w' ∧ r * r ≤ v ∧ v < (r + 1) * (r + 1) := by
  have hn : neg = false := by rw [ha.sign]; simp
  subst hn
  exact root_of 10001 (divOk_all 10001 (by decide)) (by decide) A n c v w ha (by have := ha.sz sa; omega)
theorem root_bad (ha : IsInt w neg A n c a) (h : a < 0) : Calls Tryd.prog 58 #[.agg #[.bool neg, .slice A n c]] w (RetIE w 0 1) := by
  have hn : neg = true := by rw [ha.sign]; simpa using h
  subst hn
  exact root_neg A n c a w ha
theorem bits_z (B : Nat) (ha : IsInt w neg A n c a) (sa : Sz k a) (h : IsBits a.natAbs B) : Calls Tryd.prog 84 #[.agg #[.bool neg, .slice A n c]] w fun e w' => e = .returned (.int .i64 (B : Int)) ∧ Below w.heap.size w w' :=
  (bits_any neg A n c a w ha (Nat.le_trans (ha.sz sa) (by decide))).mono fun _ _ ⟨C, ⟨h1, h2⟩, h3⟩ => ⟨by rw [h1, h2.uniq h], h3⟩
theorem abs_z (ha : IsInt w neg A n c a) (sa : Sz k a) : Calls Tryd.prog 61 #[.agg #[.bool neg, .slice A n c]] w (RetInt w (a.natAbs : Int)) :=
  abs_any neg A n c a w ha (Nat.le_trans (ha.sz sa) (by decide))
end
theorem isBits_ex (v : Nat) : ∃ B, IsBits v B := by
  induction v using Nat.strongRecOn with
  | ind v ih =>
    rcases Nat.eq_zero_or_pos v with h0 | h0
    · exact ⟨0, by rw [h0]; decide, fun _ => rfl, fun h => by omega⟩
    · obtain ⟨B, h1, h2, h3⟩ := ih (v / 2) (by omega)
      refine ⟨B + 1, by rw [Nat.pow_succ]; omega, fun h => by omega, fun _ => ⟨?_, by omega⟩⟩
      rw [Nat.add_sub_cancel]
      rcases Nat.eq_zero_or_pos (v / 2) with h4 | h4
      · rw [h2 h4]; omega
      · obtain ⟨h5, h6⟩ := h3 h4
        have e : 2 ^ B = 2 ^ (B - 1) * 2 := by rw [← Nat.pow_succ]; congr 1; omega
        omega
section
variable (neg neg' : Bool) (A A' : Option Addr) (n c m d : Nat) {k l : Nat} {a b : Int} (w : World)
theorem rabs_v (v : Nat) (ha : IsInt w neg A n c a) (sa : Sz k a) (h : a.natAbs = v) : Calls Tryd.prog 30 #[.agg #[.bool neg, .slice A n c]] w (RetInt w (v : Int)) := by
  subst h; exact rabs_z neg A n c w ha sa
theorem abs_v (v : Nat) (ha : IsInt w neg A n c a) (sa : Sz k a) (h : a.natAbs = v) : Calls Tryd.prog 61 #[.agg #[.bool neg, .slice A n c]] w (RetInt w (v : Int)) := by
  subst h; exact abs_z neg A n c w ha sa
theorem rmul_e (z : Int) (ha : IsInt w neg A n c a) (hb : IsInt w neg' A' m d b) (sa : Sz k a) (sb : Sz l b) (h : a * b = z) : Calls Tryd.prog 33 #[.agg #[.bool neg, .slice A n c], .agg #[.bool neg', .slice A' m d]] w (RetInt w z) := by
  subst h; exact rmul_z neg neg' A A' n c m d w ha hb sa sb
/-- Root of any integer: its code tells whether the integer is negative. -/
theorem root_any_z (ha : IsInt w neg A n c a) (sa : Sz k a) : Calls Tryd.prog 58 #[.agg #[.bool neg, .slice A n c]] w fun e w' => ∃ z code : Int, RetIE w z code e w' ∧ (code == 1) = decide (a < 0) := by
  rcases Int.lt_or_le a 0 with h | h
  · refine (root_bad neg A n c w ha h).mono fun e w' h2 => ⟨0, 1, h2, ?_⟩
    rw [decide_eq_true h]; rfl
  · obtain ⟨v, rfl⟩ := Int.eq_ofNat_of_zero_le h
    refine (root_z neg A n c w v ha sa).mono fun e w' ⟨r, h2, _⟩ => ⟨r, 0, h2, ?_⟩
    rw [decide_eq_false (by omega)]; rfl
end
theorem Sz.pow2 {m : Nat} {z : Int} (h : Sz 1 z) (hm : m ≤ 256) : Sz 300 (z ^ m) := by
  refine ⟨by decide, ?_⟩
  rw [Int.natAbs_pow]
  have h1 := digs_len_pow z.natAbs m
  have h2 : m * (digs z.natAbs).length ≤ m * 1 := Nat.mul_le_mul_left _ h.len
  omega
theorem Sz.nat {k v : Nat} (h : v < 4294967296 ^ k) (hk : k ≤ 10000) : Sz k (v : Int) := Sz.of (by rwa [Int.natAbs_natCast]) hk
theorem IntAt.lt {w : World} {g : Nat} {z : Int} (h : IntAt w g z) : g < w.heap.size := by
  obtain ⟨_, _, _, _, h1, _⟩ := h
  exact h1.2.2.2.2
/-- A store into another struct leaves a bag. -/
theorem Bag.far2 {w : World} {l : List (Nat × Int)} (h : Bag w l) {g : Nat} (hne : ∀ p ∈ l, p.1 ≠ g) {a0 a1 : Value} (hs : Slot2 w g a0 a1) (n0 : noLimb a0 = true) (n1 : noLimb a1 = true) (u0 u1 : Value) : Bag ((w.setCell ⟨g, 0, none⟩ u0).setCell ⟨g, 1, none⟩ u1) l :=
  fun p hp => (h p hp).far2 (hne p hp) hs n0 n1 u0 u1
theorem Bag.sub {w : World} {l m : List (Nat × Int)} (h : Bag w l) (hs : ∀ p ∈ m, p ∈ l) : Bag w m := fun p hp => h p (hs p hp)
end Go.Proofs.YtclmenpclkmfeaaDoor
