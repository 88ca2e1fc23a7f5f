/- Contracts of modular.Symmetric, torsionref03.Symmetric, Primes and Made. -/
import Derived.Test.YtnlmdjbakcjhbaaDoorVModB
import Derived.Test.YtnlmdjbakcjhbaaDoorVG3Made
namespace Go.Proofs.YtnlmdjbakcjhbaaDoor
open Go.RowKit
/-- The representative around 0. -/
def symZ (p a : Nat) : Int := if p < 2 * a then (a : Int) - p else a
set_option maxHeartbeats 400000 in
theorem msym_any (p a : Nat) (w : World) (hp : p < 2147483648) (ha : a < p) :
    Calls Tryd.prog 40 #[.int .u64 (p : Int), .int .u64 (a : Int)] w (RetInt w (symZ p a)) := by
  have P0 := Slot2.new w (.bool false) (.slice none 0 0) 27
  have B0 := (Below.refl w.heap.size w).alloc (Nat.le_refl _) (.cells #[.bool false, .slice none 0 0] 27)
  have hw1 : wrap64 (a : Int) = a := by rw [w64, w_small (by rw [Int.natAbs_natCast]; omega)]
  have hw2 : wrap64 (p : Int) = p := by rw [w64, w_small (by rw [Int.natAbs_natCast]; omega)]
  have hw3 : wrap64 ((a : Int) - p) = a - p := by rw [w64, w_small (by omega)]
  by_cases h : p < 2 * a
  · have hz : symZ p a = (a : Int) - p := if_pos h
    rw [hz]
    clear hz
    go_enter Tryd.func40, Tryd.ntmps40
    go_wp2_with fail
    refine (of_any ((a : Int) - p) _ (by omega) (by omega)).mono ?_
    rintro e w2 ⟨neg2, A2, n2, c2, rfl, hi2, hb2⟩
    obtain ⟨k0, k1, f0, f1, _⟩ := P0.after hb2
    go_wp2
    exact bodyPost_ret (v := .agg #[.bool neg2, .slice A2 n2 c2]) (by simp [results, Tryd.results40, go_sem, k0, k1]) rfl
      (RetInt.stored hi2 B0 hb2 (by omega) k0 k1 rfl rfl)
  · have hz : symZ p a = (a : Int) := if_neg h
    rw [hz]
    clear hz
    go_enter Tryd.func40, Tryd.ntmps40
    go_wp2_with fail
    refine (of_any (a : Int) _ (by omega) (by omega)).mono ?_
    rintro e w2 ⟨neg2, A2, n2, c2, rfl, hi2, hb2⟩
    obtain ⟨k0, k1, f0, f1, _⟩ := P0.after hb2
    go_wp2
    exact bodyPost_ret (v := .agg #[.bool neg2, .slice A2 n2 c2]) (by simp [results, Tryd.results40, go_sem, k0, k1]) rfl
      (RetInt.stored hi2 B0 hb2 (by omega) k0 k1 rfl rfl)
set_option maxHeartbeats 400000 in
theorem qsym_any (p a : Nat) (w : World) (hp : p < 2147483648) (ha : a < p) :
    Calls Tryd.prog 41 #[.int .u64 (p : Int), .int .u64 (a : Int)] w (RetInt w (symZ p a)) := by
  have P0 := Slot2.new w (.bool false) (.slice none 0 0) 27
  have B0 := (Below.refl w.heap.size w).alloc (Nat.le_refl _) (.cells #[.bool false, .slice none 0 0] 27)
  have hw1 : wrap64 (a : Int) = a := by rw [w64, w_small (by rw [Int.natAbs_natCast]; omega)]
  have hw2 : wrap64 (p : Int) = p := by rw [w64, w_small (by rw [Int.natAbs_natCast]; omega)]
  have hw3 : wrap64 ((a : Int) - p) = a - p := by rw [w64, w_small (by omega)]
  have hw4 : IntKind.u64.wrap (2 * (a : Int)) = 2 * a := by rw [IntKind.wrap_u64]; omega
  by_cases h : p < 2 * a
  · have hz : symZ p a = (a : Int) - p := if_pos h
    rw [hz]
    clear hz
    go_enter Tryd.func41, Tryd.ntmps41
    go_wp2_with fail
    refine (rof_any ((a : Int) - p) _ (by omega) (by omega)).mono ?_
    rintro e w2 ⟨neg2, A2, n2, c2, rfl, hi2, hb2⟩
    obtain ⟨k0, k1, f0, f1, _⟩ := P0.after hb2
    go_wp2
    exact bodyPost_ret (v := .agg #[.bool neg2, .slice A2 n2 c2]) (by simp [results, Tryd.results41, go_sem, k0, k1]) rfl
      (RetInt.stored hi2 B0 hb2 (by omega) k0 k1 rfl rfl)
  · have hz : symZ p a = (a : Int) := if_neg h
    rw [hz]
    clear hz
    go_enter Tryd.func41, Tryd.ntmps41
    go_wp2_with fail
    refine (rof_any (a : Int) _ (by omega) (by omega)).mono ?_
    rintro e w2 ⟨neg2, A2, n2, c2, rfl, hi2, hb2⟩
    obtain ⟨k0, k1, f0, f1, _⟩ := P0.after hb2
    go_wp2
    exact bodyPost_ret (v := .agg #[.bool neg2, .slice A2 n2 c2]) (by simp [results, Tryd.results41, go_sem, k0, k1]) rfl
      (RetInt.stored hi2 B0 hb2 (by omega) k0 k1 rfl rfl)
/-- Where the 15 primes lie. -/
def PrimesAt (w : World) (b : Nat) : Prop := ∀ j, j < 15 → w.cell? ⟨b, j, none⟩ = some (.int .u64 ((primes15.getD j 0 : Nat) : Int))
set_option maxHeartbeats 400000 in
theorem primes_any (w : World) :
    Calls Tryd.prog 81 #[] w fun e w' => ∃ b, e = .returned (.slice (some ⟨b, 0, none⟩) 15 15) ∧ PrimesAt w' b ∧ Below w.heap.size w w' := by
  go_enter Tryd.func81, Tryd.ntmps81
  go_wp2_with fail
  go_ret
  refine ⟨w.heap.size, rfl, fun j hj => ?_, (Below.refl _ _).alloc (Nat.le_refl _) _⟩
  have hjs : j = 0 ∨ j = 1 ∨ j = 2 ∨ j = 3 ∨ j = 4 ∨ j = 5 ∨ j = 6 ∨ j = 7 ∨ j = 8 ∨ j = 9 ∨ j = 10 ∨ j = 11 ∨ j = 12 ∨ j = 13 ∨ j = 14 := by omega
  rcases hjs with rfl | rfl | rfl | rfl | rfl | rfl | rfl | rfl | rfl | rfl | rfl | rfl | rfl | rfl | rfl <;> simp [primes15]
set_option maxHeartbeats 400000 in
theorem pmade_any (k : Nat) (w : World) (hk : k < 256) :
    Calls Tryd.prog 29 #[.int .u8 (k : Int)] w fun e w' => ∃ p : Nat, e = .returned (.int .u64 (p : Int)) ∧ p ∈ primes15 ∧ Below w.heap.size w w' := by
  have hj : k % 15 < 15 := Nat.mod_lt _ (by decide)
  have e1 : (k : Int) % 15 = ((k % 15 : Nat) : Int) := by simp
  have e2 : wrap64 (k : Int) = k := by rw [w64, w_small (by rw [Int.natAbs_natCast]; omega)]
  go_enter Tryd.func29, Tryd.ntmps29
  go_wp2_with fail
  refine (primes_any _).mono ?_
  rintro e w2 ⟨b, rfl, hb, hb2⟩
  have hc := hb (k % 15) hj
  have hmem : primes15.getD (k % 15) 0 ∈ primes15 := by
    rw [List.getD_eq_getElem?_getD, List.getElem?_eq_getElem (show k % 15 < primes15.length from hj)]
    exact List.getElem_mem _
  generalize primes15.getD (k % 15) 0 = q at *
  generalize k % 15 = j at *
  go_wp2_with fail
  go_ret
  exact ⟨q, rfl, hmem, hb2⟩
end Go.Proofs.YtnlmdjbakcjhbaaDoor
