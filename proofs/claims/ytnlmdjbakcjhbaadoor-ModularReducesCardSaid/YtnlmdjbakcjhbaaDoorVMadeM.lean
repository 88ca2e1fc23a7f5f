/- Contract of torsionlaw03.made. -/
import Derived.Test.YtnlmdjbakcjhbaaDoorVG3Made
import Derived.Test.YtnlmdjbakcjhbaaDoorVG1Int
namespace Go.Proofs.YtnlmdjbakcjhbaaDoor
open Go.RowKit
theorem frameNum (w : World) (a0 a1 : Value) : Below w.heap.size w ((w.alloc (.cells #[a0, a1] 59)).alloc (.cells #[.bool false, .slice none 0 0] 27)) ∧
    Slot2 ((w.alloc (.cells #[a0, a1] 59)).alloc (.cells #[.bool false, .slice none 0 0] 27)) w.heap.size a0 a1 ∧
    Slot2 ((w.alloc (.cells #[a0, a1] 59)).alloc (.cells #[.bool false, .slice none 0 0] 27)) (w.heap.size + 1) (.bool false) (.slice none 0 0) := by
  refine ⟨((Below.refl _ _).alloc (Nat.le_refl _) _).alloc (by simp) _, (Slot2.new w a0 a1 _).alloc _, ?_⟩
  have := Slot2.new (w.alloc (.cells #[a0, a1] 59)) (.bool false) (.slice none 0 0) 27
  rwa [World.size_alloc] at this
set_option maxHeartbeats 400000 in
theorem mkNum_any (neg : Bool) (A : Option Addr) (n c B : Nat) (xs : List Nat) (w : World) (ha : Lim w B A n c xs) (hB : B ≤ w.heap.size) :
    Calls Tryd.prog 42 #[.agg #[.slice A n c, .bool neg]] w (RetInt w (zOf neg (val (xs.take 4)))) := by
  have hcap := ha.cap
  have hnc : n ≤ c := by omega
  have hcm : c ≤ 9223372036854775807 := by omega
  clear hcap
  have HL := ha.len
  have H2 : ∀ k, k ≤ n → k ≤ 4 → (n ≤ 4 → k = n) → (4 ≤ n → k = 4) → ∀ W, Below w.heap.size w W → Calls Tryd.prog 16 #[.slice A k c, .bool neg] W (RetInt W (zOf neg (val (xs.take 4)))) := by
    intro k h1 h2 h3 h4 W hW
    have := Made_any neg A k c w.heap.size (xs.take k) W (((ha.take k h1).more hB).below hW) hW.size (by omega)
    have e : xs.take k = xs.take 4 := by
      rcases Nat.lt_or_ge n 4 with h | h
      · rw [h3 (by omega), List.take_of_length_le (by omega), List.take_of_length_le (by omega)]
      · rw [h4 h]
    rwa [e] at this
  have H2' := Lib.hid H2
  clear H2 HL ha
  obtain ⟨HB, P0, R0⟩ := frameNum w (.slice A n c) (.bool neg)
  by_cases hn : n ≤ 4
  · have i0 : (0 : Int) ≤ n := by omega
    have i1 : (n : Int) ≤ 4 := by omega
    have i2 : min (n : Int) 4 = n := by omega
    have i3 : (n : Int) ≤ c := by omega
    have i4 : ∀ (ts : Array TypeId) (t : TypeId) (W : World), (Builtin.min_ ts t #[.int .i64 (n : Int), .int .i64 4]).run Tryd.prog W = .ok (.int .i64 (n : Int)) W := fun ts t W => by
      rw [run_min_int2, if_neg (by omega)]
    go_enter Tryd.func42, Tryd.ntmps42
    go_wp2_with fail
    go_region_held3 (fun W => W.cell? ⟨w.heap.size, 0, none⟩ = some (.slice A n c) ∧ W.cell? ⟨w.heap.size, 1, none⟩ = some (.bool neg)) (first | go_keep | exact ⟨P1.1, P1.2.1⟩)
      (first | (go_at_call 16; refine (H2'.out _ ?_ ?_ ?_ ?_ _ ?_).mono ?_; omega; omega; omega; omega; (first | exact HB | exact HB.drew | exact Below.drewN' HB _); rintro e w2 ⟨neg2, A2, n2, c2, rfl, hi2, hb2⟩; have B1 := Below.trans (by first | exact HB | exact HB.drew | exact Below.drewN' HB _) (hb2.mono HB.size); have P1 := Slot2.after (by first | exact P0 | exact P0.drew | exact P0.drewN _) hb2; obtain ⟨k0, k1, f0, f1, _⟩ := Slot2.after (by first | exact R0 | exact R0.drew | exact R0.drewN _) hb2))
    go_wp2
    exact bodyPost_ret (v := .agg #[.bool neg2, .slice A2 n2 c2]) (by simp [results, Tryd.results42, go_sem, k0, k1]) rfl
      (RetInt.stored hi2 (by first | exact HB | exact HB.drew) hb2 (by omega) k0 k1 rfl rfl)
  · have i0 : (0 : Int) ≤ n := by omega
    have i1 : (4 : Int) < n := by omega
    have i2 : min (n : Int) 4 = 4 := by omega
    have i3 : (4 : Int) ≤ c := by omega
    go_enter Tryd.func42, Tryd.ntmps42
    go_wp2_with fail
    go_region_held3 (fun W => W.cell? ⟨w.heap.size, 0, none⟩ = some (.slice A n c) ∧ W.cell? ⟨w.heap.size, 1, none⟩ = some (.bool neg)) (first | go_keep | exact ⟨P1.1, P1.2.1⟩)
      (first | (go_at_call 16; refine (H2'.out _ ?_ ?_ ?_ ?_ _ ?_).mono ?_; omega; omega; omega; omega; (first | exact HB | exact HB.drew | exact Below.drewN' HB _); rintro e w2 ⟨neg2, A2, n2, c2, rfl, hi2, hb2⟩; have B1 := Below.trans (by first | exact HB | exact HB.drew | exact Below.drewN' HB _) (hb2.mono HB.size); have P1 := Slot2.after (by first | exact P0 | exact P0.drew | exact P0.drewN _) hb2; obtain ⟨k0, k1, f0, f1, _⟩ := Slot2.after (by first | exact R0 | exact R0.drew | exact R0.drewN _) hb2))
    go_wp2
    exact bodyPost_ret (v := .agg #[.bool neg2, .slice A2 n2 c2]) (by simp [results, Tryd.results42, go_sem, k0, k1]) rfl
      (RetInt.stored hi2 (by first | exact HB | exact HB.drew) hb2 (by omega) k0 k1 rfl rfl)
end Go.Proofs.YtnlmdjbakcjhbaaDoor
