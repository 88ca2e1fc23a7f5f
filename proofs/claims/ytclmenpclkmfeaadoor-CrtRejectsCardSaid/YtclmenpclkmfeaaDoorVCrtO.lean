/- Mathematics of lists of residues in another order, and of their beginnings. -/
import Derived.Test.YtclmenpclkmfeaaDoorVCrtT
import Derived.Test.YtclmenpclkmfeaaDoorVCrtSan
namespace Go.Proofs.YtclmenpclkmfeaaDoor
open Go.RowKit Go.Maps
theorem ResL.take {w : World} {A : Option Addr} {n k : Nat} {L : List (Nat × Nat)} (h : ResL w A n L) (hk : k ≤ n) : ResL w A k (L.take k) :=
  ⟨by rw [List.length_take, h.len]; omega, (fun x hx => h.bd x (List.mem_of_mem_take hx)), fun h0 => by
    obtain ⟨b, o, e, hl, hc⟩ := h.rd (by omega)
    refine ⟨b, o, e, hl, fun j hj => ?_⟩
    have e1 : (L.take k).getD j (0, 0) = L.getD j (0, 0) := by
      rw [List.getD_eq_getElem?_getD, List.getD_eq_getElem?_getD, List.getElem?_take, if_pos hj]
    rw [e1]
    exact hc j (by omega)⟩
theorem getD_takeR {L : List (Nat × Nat)} {k j : Nat} (hj : j < k) : (L.take k).getD j (0, 0) = L.getD j (0, 0) := by
  rw [List.getD_eq_getElem?_getD, List.getD_eq_getElem?_getD, List.getElem?_take, if_pos hj]
theorem OkR.take {L : List (Nat × Nat)} (h : OkR L) (k : Nat) : OkR (L.take k) := fun j hj => by
  rw [List.length_take] at hj
  have h1 := h j (by omega)
  unfold OkAt at h1 ⊢
  rw [getD_takeR (by omega), List.take_take, show min j k = j by omega]
  exact h1
theorem PrL.take {L : List (Nat × Nat)} (h : PrL L) (k : Nat) : PrL (L.take k) := fun x hx => h x (List.mem_of_mem_take hx)
theorem Cons.take {L : List (Nat × Nat)} {z : Int} (h : Cons L z) (k : Nat) : Cons (L.take k) z := ⟨h.1.take k, fun j hj => by
  rw [List.length_take] at hj
  rw [getD_takeR (by omega)]
  exact h.2 j (by omega)⟩
/-- What makes a list acceptable, number by number. -/
theorem okR_iff {L : List (Nat × Nat)} : OkR L ↔ (∀ k, k < L.length → (L.getD k (0, 0)).2 < (L.getD k (0, 0)).1 ∧ primeF (L.getD k (0, 0)).1 = true) ∧ ∀ j k, j < k → k < L.length → (L.getD j (0, 0)).1 ≠ (L.getD k (0, 0)).1 := by
  refine ⟨fun h => ⟨fun k hk => (h k hk).2, fun j k hjk hk => (any_take (Nat.le_of_lt hk) _).1 (h k hk).1 j hjk⟩, fun h k hk => ⟨(any_take (Nat.le_of_lt hk) _).2 fun j hj => h.2 j k hj hk, h.1 k hk⟩⟩
/-- The list that begins elsewhere. -/
def turn (L : List (Nat × Nat)) (s k : Nat) : List (Nat × Nat) := (List.range k).map fun i => L.getD ((i + s) % L.length) (0, 0)
theorem turn_len (L : List (Nat × Nat)) (s k : Nat) : (turn L s k).length = k := by simp [turn]
theorem turn_succ (L : List (Nat × Nat)) (s k : Nat) : turn L s (k + 1) = turn L s k ++ [L.getD ((k + s) % L.length) (0, 0)] := by
  simp [turn, List.range_succ]
theorem turn_get {L : List (Nat × Nat)} {s k j : Nat} (hj : j < k) : (turn L s k).getD j (0, 0) = L.getD ((j + s) % L.length) (0, 0) := by
  unfold turn
  rw [List.getD_eq_getElem?_getD, List.getElem?_map, List.getElem?_range hj]
  rfl
theorem turn_mem {L : List (Nat × Nat)} {s k : Nat} (h0 : 0 < L.length) : ∀ x ∈ turn L s k, x ∈ L := fun x hx => by
  obtain ⟨i, _, rfl⟩ := List.mem_map.1 hx
  exact getD_mem (Nat.mod_lt _ h0)
theorem mem_turn {L : List (Nat × Nat)} {s : Nat} {x : Nat × Nat} (h : x ∈ L) : x ∈ turn L s L.length := by
  obtain ⟨i, hi, rfl⟩ := List.getElem_of_mem h
  have h0 : 0 < L.length := by omega
  refine List.mem_map.2 ⟨(i + (L.length - s % L.length)) % L.length, List.mem_range.2 (Nat.mod_lt _ h0), ?_⟩
  have e : ((i + (L.length - s % L.length)) % L.length + s) % L.length = i := by
    have h1 := Nat.mod_lt s h0
    rw [Nat.mod_add_mod]
    have h2 := Nat.div_add_mod s L.length
    rw [show i + (L.length - s % L.length) + s = i + L.length * (s / L.length + 1) by rw [Nat.mul_add, Nat.mul_one]; omega, Nat.add_mul_mod_self_left, Nat.mod_eq_of_lt hi]
  rw [e, List.getD_eq_getElem?_getD, List.getElem?_eq_getElem hi]
  rfl
theorem add_mod_inj {i j s n : Nat} (hi : i < n) (hj : j < n) (h : (i + s) % n = (j + s) % n) : i = j := by
  have h1 := Nat.div_add_mod (i + s) n
  have h2 := Nat.div_add_mod (j + s) n
  rw [h] at h1
  rcases Nat.lt_trichotomy ((i + s) / n) ((j + s) / n) with h3 | h3 | h3
  · have := Nat.mul_le_mul_left n h3
    rw [Nat.mul_succ] at this
    omega
  · rw [h3] at h1; omega
  · have := Nat.mul_le_mul_left n h3
    rw [Nat.mul_succ] at this
    omega
theorem OkR.turn {L : List (Nat × Nat)} (h : OkR L) (s : Nat) : OkR (turn L s L.length) := by
  rcases Nat.eq_zero_or_pos L.length with h0 | h0
  · intro k hk
    rw [turn_len] at hk
    omega
  obtain ⟨h1, h2⟩ := okR_iff.1 h
  refine okR_iff.2 ⟨fun k hk => ?_, fun j k hjk hk => ?_⟩
  · rw [turn_len] at hk
    rw [turn_get hk]
    exact h1 _ (Nat.mod_lt _ h0)
  · rw [turn_len] at hk
    rw [turn_get hk, turn_get (by omega)]
    have hne : (j + s) % L.length ≠ (k + s) % L.length := fun e => by
      have := add_mod_inj (by omega) hk e
      omega
    rcases Nat.lt_or_gt_of_ne hne with h3 | h3
    · exact h2 _ _ h3 (Nat.mod_lt _ h0)
    · exact (h2 _ _ h3 (Nat.mod_lt _ h0)).symm
theorem PrL.turn {L : List (Nat × Nat)} (h : PrL L) (s : Nat) : PrL (turn L s L.length) := by
  rcases Nat.eq_zero_or_pos L.length with h0 | h0
  · intro x hx
    rw [h0] at hx
    cases hx
  · exact fun x hx => h x (turn_mem h0 x hx)
theorem OkR.cops {L : List (Nat × Nat)} (h : OkR L) (hp : PrL L) : Cop L := by
  unfold Cop
  rw [List.pairwise_iff_getElem]
  intro i j hi hj hij
  have h2 := (okR_iff.1 h).2 i j hij hj
  rw [List.getD_eq_getElem?_getD, List.getElem?_eq_getElem hi, List.getD_eq_getElem?_getD, List.getElem?_eq_getElem hj] at h2
  exact prime_cop (hp _ (List.getElem_mem hi)).1 (hp _ (List.getElem_mem hj)).1 h2
/-- Two lists with the same members have the same product. -/
theorem prodP_same {L M : List (Nat × Nat)} (hL : Cop L) (hM : Cop M) (h1 : ∀ x ∈ L, x ∈ M) (h2 : ∀ x ∈ M, x ∈ L) : prodP L = prodP M := by
  have e1 := prod_dvd (z := ((prodP M : Nat) : Int)) hL fun x hx => Int.natCast_dvd_natCast.2 (prodP_dvd (h1 x hx))
  have e2 := prod_dvd (z := ((prodP L : Nat) : Int)) hM fun x hx => Int.natCast_dvd_natCast.2 (prodP_dvd (h2 x hx))
  exact Nat.dvd_antisymm (Int.natCast_dvd_natCast.1 e1) (Int.natCast_dvd_natCast.1 e2)
/-- Two lists with the same members have the same number. -/
theorem Cmb.same {L M : List (Nat × Nat)} {z z' : Int} (hz : Cmb L z) (hz' : Cmb M z') (hL : Cop L) (hM : Cop M) (h1 : ∀ x ∈ L, x ∈ M) (h2 : ∀ x ∈ M, x ∈ L) : z = z' := by
  have e := prodP_same hL hM h1 h2
  have hr := hz'.rg
  rw [← e] at hr
  refine range_uniq (prod_dvd hL fun x hx => ?_) hz.rg hr
  have := Int.dvd_sub (hz.res x hx) (hz'.res x (h1 x hx))
  rwa [show z - (x.2 : Int) - (z' - (x.2 : Int)) = z - z' by omega] at this
end Go.Proofs.YtclmenpclkmfeaaDoor
