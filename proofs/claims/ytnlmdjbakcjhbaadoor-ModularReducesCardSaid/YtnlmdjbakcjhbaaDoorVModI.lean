/- The iterators of modular.Next and modular.Before: what they yield. -/
import Derived.RangeFuncNested
import Derived.RangeFuncBound
import Derived.RangeFuncCalls
import Derived.RangeFuncLeaves
import Derived.Shelf.Abstract
import Derived.Shelf.RegionOpen
import Derived.WalkKit
import Derived.OwnWalkIn
import Derived.TacticsInMore
import Derived.LoopNIn
import Derived.LoopIn
import Derived.Test.YtnlmdjbakcjhbaaDoorVModP
namespace Go.Proofs.YtnlmdjbakcjhbaaDoor
open Go.RowKit Go.Shelf
attribute [local go_sem] Oper.semAt_some
/-- A word of 64 bits. -/
def wr64 (x : Nat) : Nat := x % 18446744073709551616
theorem wr64_lt (x : Nat) : wr64 x < 18446744073709551616 := Nat.mod_lt _ (by decide)
theorem wr64_of {x : Nat} (h : x < 18446744073709551616) : wr64 x = x := Nat.mod_eq_of_lt h
/-- The first k values of f. -/
def upto (f : Nat → Nat) (k : Nat) : List Nat := (List.range k).map f
theorem upto_succ (f : Nat → Nat) (k : Nat) : upto f (k + 1) = upto f k ++ [f k] := by simp [upto, List.range_succ]
theorem upto_len (f : Nat → Nat) (k : Nat) : (upto f k).length = k := by simp [upto]
theorem upto_add (f : Nat → Nat) (j : Nat) : ∀ d, ∃ t, upto f (j + d) = upto f j ++ t
  | 0 => ⟨[], by simp⟩
  | d + 1 => by
    obtain ⟨t, ht⟩ := upto_add f j d
    exact ⟨t ++ [f (j + d)], by rw [← Nat.add_assoc, upto_succ, ht, List.append_assoc]⟩
theorem upto_pre (f : Nat → Nat) {j k : Nat} (h : j ≤ k) : upto f j <+: upto f k := by
  obtain ⟨t, ht⟩ := upto_add f j (k - j)
  exact ⟨t, by rw [← ht]; congr 1; omega⟩
set_option maxHeartbeats 1000000 in
theorem above_stops (F : Fence) (n : Nat) (hF : F.fn 121) (hro : F.round = none) (hn : 1 ≤ n) (B x m : Nat) (hm : m = min x 2147483648) (w : World) (hB : B < w.heap.size) (hc : w.cell? ⟨B, 0, none⟩ = some (.int .u64 (x : Int))) :
    SeqStopsK F n Tryd.prog 121 #[.pointer (some ⟨B, 0, none⟩)] (fun y : Nat => #[.int .u64 ((wr64 y : Nat) : Int)]) (fun _ _ => True) (fun xs => xs = upto (fun k => m + 1 + k) (2147483648 - (m + 1))) (fun pre => pre <+: upto (fun k => m + 1 + k) (2147483648 - (m + 1))) 2147483648 w := by
  intro l J Jx W hW _ _ hY h0
  have hBc : W.cell? ⟨B, 0, none⟩ = some (.int .u64 (x : Int)) := (hW.cell (p := ⟨B, 0, none⟩) hB).trans hc
  have e1 : min (x : Int) 2147483648 = (m : Int) := by omega
  have e2 : (if (2147483648 : Int) < x then (2147483648 : Int) else x) = (m : Int) := by split <;> omega
  have hml : m ≤ 2147483648 := by omega
  clear hm
  refine callsIn_of_wp Tryd.func121 rfl hF ?_ hro
  simp only [Tryd.ntmps121, List.size_toArray, List.length_cons, List.length_nil, Nat.reduceAdd, Nat.reduceSub, Array.replicate_succ, Array.replicate_zero, List.push_toArray, List.append_toArray, List.nil_append, List.cons_append]
  gi_wp2
  gi_loopw [3] (fun s3 wr => ∃ k : Nat, s3 = .int .u64 ((m : Int) + 1 + k) ∧ (k = 0 ∨ m + 1 + k ≤ 2147483648) ∧ J (upto (fun k => m + 1 + k) k) wr) (fun s3 _ => (2147483648 - intOf s3).toNat)
  case atStart => exact ⟨0, by simp, .inl rfl, h0⟩
  case round =>
    obtain ⟨k, rfl, hk, hJ⟩ := hrel
    by_cases hlt : m + 1 + k < 2147483648
    · have hwr : wr64 (m + 1 + k) = m + 1 + k := wr64_of (by omega)
      have hyy := hY _ (m + 1 + k) wr hJ (by rw [upto_len]; omega)
      have he : ((wr64 (m + 1 + k) : Nat) : Int) = (m : Int) + 1 + k := by rw [hwr]; omega
      rw [he] at hyy
      obtain ⟨fn, tmps, assign, body, hy, hR⟩ := hyy
      have hlt2 : (m : Int) + 1 + k < 2147483648 := by omega
      clear he hwr
      gi_wp2
      refine hR.mono ?_
      rintro e W3 (⟨rfl, hJ3, _⟩ | ⟨rfl, hJx3⟩)
      · gi_wp2
        refine ⟨⟨k + 1, retV (by omega), .inr (by omega), by rw [upto_succ]; exact hJ3⟩, ?_⟩
        simp only [intOf]; omega
      · gi_wp2
        exact bodyPost_ret (results_none rfl _ _ _) rfl ⟨⟨_, rfl⟩, .inr ⟨_, by rw [← upto_succ (fun k => m + 1 + k)]; exact upto_pre _ (by omega), hJx3⟩⟩
    · have hlt2 : ¬ (m : Int) + 1 + k < 2147483648 := by omega
      have hke : k = 2147483648 - (m + 1) := by omega
      rw [hke] at hJ
      have HK := Lib.hid hke
      clear hke
      gi_wp2
      rw [show 2147483648 - (m + 1) = 2147483647 - m by omega] at hJ
      exact bodyPost_end (results_none rfl _ _ _) rfl ⟨⟨_, rfl⟩, .inl hJ⟩
set_option maxHeartbeats 1000000 in
theorem below_stops (F : Fence) (n : Nat) (hF : F.fn 122) (hro : F.round = none) (hn : 1 ≤ n) (B x m : Nat) (hm : m = min x 2147483648) (w : World) (hB : B < w.heap.size) (hc : w.cell? ⟨B, 0, none⟩ = some (.int .u64 (x : Int))) :
    SeqStopsK F n Tryd.prog 122 #[.pointer (some ⟨B, 0, none⟩)] (fun y : Nat => #[.int .u64 ((wr64 y : Nat) : Int)]) (fun _ _ => True) (fun xs => xs = upto (fun k => m - 1 - k) (m - 1)) (fun pre => pre <+: upto (fun k => m - 1 - k) (m - 1)) 2147483648 w := by
  intro l J Jx W hW _ _ hY h0
  have hBc : W.cell? ⟨B, 0, none⟩ = some (.int .u64 (x : Int)) := (hW.cell (p := ⟨B, 0, none⟩) hB).trans hc
  have e1 : min (x : Int) 2147483648 = (m : Int) := by omega
  have e2 : (if (2147483648 : Int) < x then (2147483648 : Int) else x) = (m : Int) := by split <;> omega
  have hml : m ≤ 2147483648 := by omega
  clear hm
  refine callsIn_of_wp Tryd.func122 rfl hF ?_ hro
  simp only [Tryd.ntmps122, List.size_toArray, List.length_cons, List.length_nil, Nat.reduceAdd, Nat.reduceSub, Array.replicate_succ, Array.replicate_zero, List.push_toArray, List.append_toArray, List.nil_append, List.cons_append]
  gi_wp2
  gi_loopw [3] (fun s3 wr => ∃ k : Nat, s3 = .int .u64 ((m : Int) - k) ∧ k ≤ m ∧ (k = 0 ∨ k ≤ m - 1) ∧ J (upto (fun k => m - 1 - k) k) wr) (fun s3 _ => (intOf s3).toNat)
  case atStart => exact ⟨0, by simp, by omega, .inl rfl, h0⟩
  case round =>
    obtain ⟨k, rfl, hk, hk2, hJ⟩ := hrel
    by_cases hlt : 1 < m - k
    · have hwr : wr64 (m - 1 - k) = m - 1 - k := wr64_of (by omega)
      have hyy := hY _ (m - 1 - k) wr hJ (by rw [upto_len]; omega)
      have he : ((wr64 (m - 1 - k) : Nat) : Int) = (m : Int) - k - 1 := by rw [hwr]; omega
      rw [he] at hyy
      obtain ⟨fn, tmps, assign, body, hy, hR⟩ := hyy
      have hlt2 : 1 < (m : Int) - k := by omega
      clear he hwr
      gi_wp2
      refine hR.mono ?_
      rintro e W3 (⟨rfl, hJ3, _⟩ | ⟨rfl, hJx3⟩)
      · gi_wp2
        refine ⟨⟨k + 1, retV (by omega), by omega, .inr (by omega), by rw [upto_succ]; exact hJ3⟩, ?_⟩
        simp only [intOf]; omega
      · gi_wp2
        exact bodyPost_ret (results_none rfl _ _ _) rfl ⟨⟨_, rfl⟩, .inr ⟨_, by rw [← upto_succ (fun k => m - 1 - k)]; exact upto_pre _ (by omega), hJx3⟩⟩
    · have hlt2 : ¬ 1 < (m : Int) - k := by omega
      have hke : k = m - 1 := by omega
      rw [hke] at hJ
      have HK := Lib.hid hke
      clear hke
      gi_wp2
      exact bodyPost_end (results_none rfl _ _ _) rfl ⟨⟨_, rfl⟩, .inl hJ⟩
end Go.Proofs.YtnlmdjbakcjhbaaDoor
