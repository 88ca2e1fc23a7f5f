/- Plain mathematics of residues: inverses by Euclid's algorithm, powers by squaring. -/
import Derived.Test.YtnlmdjbakcjhbaaDoorVFermat
namespace Go.Proofs.YtnlmdjbakcjhbaaDoor
/-- d is the inverse of a modulo p. -/
def InvOk (p a d : Nat) : Prop := 0 < d ∧ d < p ∧ a * d % p = 1
theorem InvOk.unique {p a d d' : Nat} (h : InvOk p a d) (h' : InvOk p a d') : d = d' := by
  have e1 : d' * (a * d) % p = d' % p := by rw [Nat.mul_mod, h.2.2, Nat.mul_one, Nat.mod_mod]
  have e2 : d * (a * d') % p = d % p := by rw [Nat.mul_mod, h'.2.2, Nat.mul_one, Nat.mod_mod]
  have e3 : d' * (a * d) = d * (a * d') := by rw [Nat.mul_left_comm, Nat.mul_comm d' d, Nat.mul_left_comm]
  rw [e3, e2, Nat.mod_eq_of_lt h.2.1, Nat.mod_eq_of_lt h'.2.1] at e1
  exact e1
theorem InvOk.fermat {p a : Nat} (hp : IsPrime p) (h0 : 0 < a) (h1 : a < p) : InvOk p a (a ^ (p - 2) % p) := by
  have hm : a * (a ^ (p - 2) % p) % p = 1 := by
    rw [Nat.mul_mod, Nat.mod_mod, ← Nat.mul_mod, Nat.mul_comm, ← Nat.pow_succ]
    have e : p - 2 + 1 = p - 1 := by have := hp.1; omega
    show a ^ (p - 2 + 1) % p = 1
    rw [e]
    exact Go.Proofs.YtnlmdjbakcjhbaaDoor.fermat hp h0 h1
  refine ⟨?_, Nat.mod_lt _ (by have := hp.1; omega), hm⟩
  rcases Nat.eq_zero_or_pos (a ^ (p - 2) % p) with e | e
  · rw [e, Nat.mul_zero, Nat.zero_mod] at hm
    cases hm
  · exact e
theorem ExtInv.inv {p a g : Nat} {s s' t t' : Int} (hp : IsPrime p) (h0 : 0 < a) (h1 : a < p) (h : ExtInv p a g 0 s s' t t') :
    g = 1 ∧ 0 < (if t < 0 then t + p else t) ∧ (if t < 0 then t + p else t) < p ∧ InvOk p a (if t < 0 then t + p else t).toNat := by
  have hg : g = 1 := by
    have := h.gc
    rw [Nat.gcd_zero_right] at this
    rw [this]
    exact hp.coprime h0 h1
  subst hg
  have hp2 := hp.1
  have e1 := h.e1
  have a2 := h.a2
  have o2 := h.o2
  have ht : t ≠ 0 := by
    rintro rfl
    rw [Int.zero_mul, Int.add_zero] at e1
    have hd : (p : Int) ∣ 1 := ⟨s, by rw [Int.mul_comm]; exact e1.symm⟩
    have := Int.le_of_dvd (by decide) hd
    omega
  have hb : t.natAbs < p := by omega
  have hd : 0 < (if t < 0 then t + p else t) ∧ (if t < 0 then t + p else t) < (p : Int) := by
    split <;> omega
  have hm : ((if t < 0 then t + p else t) * a) % (p : Int) = 1 := by
    have e2 : t * a = 1 + (p : Int) * -s := by
      rw [Int.mul_neg, Int.mul_comm (p : Int) s]; omega
    split
    · rw [Int.add_mul, e2, Int.add_assoc, ← Int.mul_add, Int.add_mul_emod_self_left]
      exact Int.emod_eq_of_lt (by decide) (by omega)
    · rw [e2, Int.add_mul_emod_self_left]
      exact Int.emod_eq_of_lt (by decide) (by omega)
  generalize (if t < 0 then t + p else t) = d at *
  obtain ⟨D, rfl⟩ := Int.eq_ofNat_of_zero_le (show 0 ≤ d by omega)
  refine ⟨rfl, hd.1, hd.2, ?_, ?_, ?_⟩
  · have := hd.1; simp only [Int.toNat_natCast]; omega
  · have := hd.2; simp only [Int.toNat_natCast]; omega
  · simp only [Int.toNat_natCast]
    rw [Nat.mul_comm]
    exact_mod_cast hm
theorem ExtInv.small {p a g r : Nat} {s s' t t' : Int} (h : ExtInv p a g r s s' t t') : (0 < g → t'.natAbs ≤ p ∧ (r : Nat) * t.natAbs ≤ p) ∧ (0 < r → t.natAbs ≤ p) := by
  have a2 := h.a2
  have e : t.natAbs * r = r * t.natAbs := Nat.mul_comm _ _
  refine ⟨fun hg => ⟨?_, by omega⟩, fun hr => ?_⟩
  · have := Nat.le_mul_of_pos_right t'.natAbs hg
    omega
  · have := Nat.le_mul_of_pos_right t.natAbs hr
    omega
theorem pow_even {p W w a e : Nat} (h : w * a ^ (2 * e) % p = W) : w * (a * a % p) ^ e % p = W := by
  rw [← h, Nat.pow_mul, Nat.pow_two, Nat.mul_mod, ← Nat.pow_mod, ← Nat.mul_mod]
theorem pow_odd {p W w a e : Nat} (h : w * a ^ (2 * e + 1) % p = W) : (w * a % p) * (a * a % p) ^ e % p = W := by
  rw [← h, Nat.pow_succ, Nat.pow_mul, Nat.pow_two, Nat.mul_mod (w * a % p), ← Nat.pow_mod, Nat.mod_mod, ← Nat.mul_mod, Nat.mul_assoc, Nat.mul_comm a]
end Go.Proofs.YtnlmdjbakcjhbaaDoor
