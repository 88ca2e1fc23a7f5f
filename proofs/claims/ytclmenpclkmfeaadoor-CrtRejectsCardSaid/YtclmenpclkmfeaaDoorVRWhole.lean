/- Contract of torsionref04.whole below 2^32. -/
import Derived.Test.YtclmenpclkmfeaaDoorVRRoot
namespace Go.Proofs.YtclmenpclkmfeaaDoor
open Go.RowKit
theorem made_word (p g : Nat) (W : World) (hp : p < 4294967296) (h : Row W g [p, 0]) : Calls Tryd.prog 48 #[.slice (some ⟨g, 0, none⟩) 2 2, .bool false] W (RetInt W (p : Int)) := by
  have hL : Limbs [p, 0] := by
    intro x hx
    simp at hx
    omega
  have hl := h.len_lim hL 2 rfl (by omega)
  have := Made_any false (some ⟨g, 0, none⟩) 2 2 W.heap.size _ W hl (Nat.le_refl _) (by omega)
  have e : zOf false (val [p, 0]) = (p : Int) := by
    show ((val [p, 0] : Nat) : Int) = _
    simp [val]
  rwa [e] at this
set_option maxRecDepth 100000 in
set_option maxHeartbeats 1000000 in
theorem whole_z (p : Nat) (w : World) (hp : p < 4294967296) :
    Calls Tryd.prog 47 #[.int .u64 (p : Int)] w (RetInt w (p : Int)) := by
  have B0 := (Below.refl w.heap.size w).alloc (Nat.le_refl _) (.cells #[.bool false, .slice none 0 0] 28)
  have R0 := Slot2.new w (.bool false) (.slice none 0 0) 28
  have hw1 : IntKind.u32.wrap (p : Int) = (p : Int) := by rw [IntKind.wrap_u32]; omega
  have hw2 : (p : Int) / 4294967296 = 0 := by omega
  go_enter Tryd.func47, Tryd.ntmps47
  have a1 := (Below.refl _ (w.alloc (.cells #[.bool false, .slice none 0 0] 28))).alloc (Nat.le_refl _) (.cells #[.int .u32 (p : Int), .int .u32 0] 69)
  have rp : Row ((w.alloc (.cells #[.bool false, .slice none 0 0] 28)).alloc (.cells #[.int .u32 (p : Int), .int .u32 0] 69)) (w.heap.size + 1) [p, 0] := by
    have := row_new (w.alloc (.cells #[.bool false, .slice none 0 0] 28)) [p, 0] #[.int .u32 (p : Int), .int .u32 0] rfl
    rwa [World.size_alloc] at this
  go_wp2_with fail
  (with_reducible refine (made_word p _ _ hp rp).mono ?_)
  rintro e w1 ⟨g5, A5, n5, c5, rfl, i5, b5⟩
  have b6 := a1.trans (b5.mono a1.size)
  have R1 := R0.after b6
  have B1 := B0.trans (b6.mono B0.size)
  clear R0 B0 a1 b5 b6 rp
  have ⟨q0, q1, q2, q3, _⟩ := R1
  go_wp2
  exact bodyPost_ret (v := .agg #[.bool g5, .slice A5 n5 c5]) (by simp [results, Tryd.results47, go_sem, q0, q1]) rfl ⟨_, _, _, _, rfl, i5.stored q0 q1 rfl rfl _ _, Below.set2 B1 (by omega) _ _⟩
end Go.Proofs.YtclmenpclkmfeaaDoor
