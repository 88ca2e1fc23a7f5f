/- The mathematics of the reference's rational reconstruction: all denominators are tried. -/
import Derived.Test.YtclmenpclkmfeaaDoorVG5MadeL
namespace Go.Proofs.YtclmenpclkmfeaaDoor
theorem idvd {a b c : Int} (h : a ∣ b * c) (hc : Int.gcd a b = 1) : a ∣ c := Int.natAbs_dvd_natAbs.1 (Nat.Coprime.dvd_of_dvd_mul_left (show Nat.gcd a.natAbs b.natAbs = 1 from hc) (by rw [← Int.natAbs_mul]; exact Int.natAbs_dvd_natAbs.2 h))
theorem Bnd.le {m r r' : Int} (h : Bnd m r) (h' : Bnd m r') : r ≤ r' := by
  rcases Int.lt_or_le r' r with h1 | h1
  · have h2 : (r' + 1) * (r' + 1) ≤ r * r := Int.mul_le_mul (by omega) (by omega) (by have := h'.nn; omega) (by have := h.nn; omega)
    have := h.lo
    have := h'.hi
    omega
  · exact h1
theorem Bnd.eq {m r r' : Int} (h : Bnd m r) (h' : Bnd m r') : r = r' := Int.le_antisymm (h.le h') (h'.le h)
theorem Bnd.small {m r : Int} (h : Bnd m r) (hm : m ≤ 1000000) : r ≤ 707 := by
  rcases Int.lt_or_le 707 r with h1 | h1
  · have h2 : (708 : Int) * 708 ≤ r * r := Int.mul_le_mul (by omega) (by omega) (by decide) (by omega)
    have := h.lo
    omega
  · exact h1
/-- The remainder that is nearest to 0, by the bound. -/
def nearR (u r m : Int) : Int := if r < u then u - m else u
theorem nearR_gt {u r m : Int} (h : r < u) : nearR u r m = u - m := if_pos h
theorem nearR_le {u r m : Int} (h : u ≤ r) : nearR u r m = u := if_neg (by omega)
theorem nearR_dvd (u r m : Int) : m ∣ nearR u r m - u := by
  unfold nearR
  split
  · exact ⟨-1, by omega⟩
  · exact ⟨0, by omega⟩
theorem two_r {m r : Int} (hb : 2 * (r * r) < m) (hr : 1 ≤ r) : 2 * r < m := by
  have := mul_ge hr (by omega : (0 : Int) ≤ r)
  omega
/-- A denominator with a fraction has it here. -/
theorem Good.here {a m r n d : Int} (h : Good a m r n d) (hb : 2 * (r * r) < m) : n = nearR (a * d % m) r m := by
  have hr : 1 ≤ r := by have := h.dpos; have := h.dhi; omega
  have h2 := two_r hb hr
  have hu0 := Int.emod_nonneg (a * d) (show m ≠ 0 by omega)
  have hu1 := Int.emod_lt_of_pos (a * d) (show (0 : Int) < m by omega)
  have hd : m ∣ n - a * d % m := by
    have h3 : m ∣ a * d - a * d % m := Int.dvd_self_sub_emod
    have h4 := Int.dvd_add h.cong h3
    rwa [show n - d * a + (a * d - a * d % m) = n - a * d % m by rw [Int.mul_comm d a]; omega] at h4
  generalize a * d % m = u at *
  obtain ⟨t, ht⟩ := hd
  have hlo := h.nlo
  have hhi := h.nhi
  have ht0 : t < 1 := by
    rcases Int.lt_or_le t 1 with h5 | h5
    · exact h5
    · have := mul_ge h5 (show (0 : Int) ≤ m by omega)
      rw [Int.mul_comm] at this
      omega
  have ht1 : -2 < t := by
    rcases Int.lt_or_le (-2) t with h5 | h5
    · exact h5
    · have h6 := mul_ge (show 1 ≤ -(t + 1) by omega) (show (0 : Int) ≤ m by omega)
      rw [Int.neg_mul, Int.add_mul, Int.one_mul, Int.mul_comm t m] at h6
      omega
  rcases (show t = 0 ∨ t = -1 by omega) with rfl | rfl
  · rw [nearR_le (by omega)]; omega
  · rw [nearR_gt (by omega)]; omega
/-- What the search finds is such a fraction. -/
theorem good_of {a m r d : Int} (hd1 : 0 < d) (hd2 : d ≤ r) (hc : Nat.gcd d.natAbs m.natAbs = 1) (hn : ((nearR (a * d % m) r m).natAbs : Int) ≤ r) : Good a m r (Rat.divInt (nearR (a * d % m) r m) d).num ((Rat.divInt (nearR (a * d % m) r m) d).den : Int) := by
  have hdv : m ∣ nearR (a * d % m) r m - d * a := by
    have h3 : m ∣ a * d - a * d % m := Int.dvd_self_sub_emod
    have h4 := Int.dvd_sub (nearR_dvd (a * d % m) r m) h3
    rwa [show nearR (a * d % m) r m - a * d % m - (a * d - a * d % m) = nearR (a * d % m) r m - d * a by rw [Int.mul_comm d a]; omega] at h4
  generalize nearR (a * d % m) r m = n at *
  have hq : n * ((Rat.divInt n d).den : Int) = (Rat.divInt n d).num * d := by
    have := Rat.num_divInt_den (Rat.divInt n d)
    exact ((Rat.divInt_eq_divInt_iff (by have := (Rat.divInt n d).den_nz; omega) (by omega)).1 this).symm
  have hred := (Rat.divInt n d).reduced
  have hden := (Rat.divInt n d).den_nz
  generalize (Rat.divInt n d).num = p at *
  generalize (Rat.divInt n d).den = q at *
  have hqd : (q : Int) ∣ d := by
    have h1 : (q : Int) ∣ p * d := ⟨n, by rw [← hq, Int.mul_comm]⟩
    have h2 : Int.gcd (q : Int) p = 1 := by
      show Nat.gcd (q : Int).natAbs p.natAbs = 1
      rw [Int.natAbs_natCast, Nat.gcd_comm]
      exact hred
    exact idvd h1 h2
  obtain ⟨g, hg⟩ := hqd
  have hq0 : (0 : Int) < q := by omega
  have hg0 : 0 < g := by
    rcases Int.lt_or_le 0 g with h1 | h1
    · exact h1
    · have := Int.mul_nonneg (show (0 : Int) ≤ q by omega) (show 0 ≤ -g by omega)
      rw [Int.mul_neg] at this
      omega
  have hn' : n = p * g := by
    have h1 : (q : Int) * n = q * (p * g) := by
      rw [Int.mul_comm (q : Int) n, hq, hg]
      rw [← Int.mul_assoc, ← Int.mul_assoc, Int.mul_comm p]
    exact Int.eq_of_mul_eq_mul_left (by omega) h1
  have hgm : Int.gcd m g = 1 := by
    have h1 : Nat.gcd g.natAbs m.natAbs ∣ Nat.gcd d.natAbs m.natAbs := by
      refine Nat.gcd_dvd_gcd_of_dvd_left _ ?_
      rw [hg, Int.natAbs_mul]
      exact Nat.dvd_mul_left _ _
    rw [hc] at h1
    show Nat.gcd m.natAbs g.natAbs = 1
    rw [Nat.gcd_comm]
    exact Nat.dvd_one.1 h1
  have hqm : Int.gcd (q : Int) m = 1 := by
    have h1 : Nat.gcd (q : Int).natAbs m.natAbs ∣ Nat.gcd d.natAbs m.natAbs := by
      refine Nat.gcd_dvd_gcd_of_dvd_left _ ?_
      rw [hg, Int.natAbs_mul]
      exact Nat.dvd_mul_right _ _
    rw [hc] at h1
    exact Nat.dvd_one.1 h1
  have hpa : p.natAbs ≤ n.natAbs := by
    rw [hn', Int.natAbs_mul]
    exact Nat.le_mul_of_pos_right _ (by omega)
  refine ⟨?_, by omega, by omega, hq0, ?_, hqm⟩
  · have h1 : m ∣ g * (p - q * a) := by
      rw [hg, hn'] at hdv
      rwa [show g * (p - q * a) = p * g - q * g * a by rw [Int.mul_sub, Int.mul_comm g p, ← Int.mul_assoc, Int.mul_comm g q]]
    exact idvd h1 hgm
  · have := mul_ge (show 1 ≤ g by omega) (show (0 : Int) ≤ q by omega)
    rw [Int.mul_comm] at this
    omega
theorem Good.sameQ {a m r : Int} {q q' : Rat} (h : Good a m r q.num q.den) (h' : Good a m r q'.num q'.den) (hb : 2 * (r * r) < m) : q = q' := by
  have h1 := h.unique h' hb
  rw [← Rat.num_divInt_den q, ← Rat.num_divInt_den q']
  exact (Rat.divInt_eq_divInt_iff (by have := q.den_nz; omega) (by have := q'.den_nz; omega)).2 h1
end Go.Proofs.YtclmenpclkmfeaaDoor
