/- Contract of integer.Cmp. -/
import Derived.Test.YtnlmdjbakcjhbaaDoorVAddA
import Derived.Test.YtnlmdjbakcjhbaaDoorVAdd
namespace Go.Proofs.YtnlmdjbakcjhbaaDoor
open Go.RowKit
theorem frame20 (w : World) (a0 a1 b0 b1 : Value) : Below w.heap.size w ((w.alloc (.cells #[a0, a1] 27)).alloc (.cells #[b0, b1] 27)) ∧
    Slot2 ((w.alloc (.cells #[a0, a1] 27)).alloc (.cells #[b0, b1] 27)) w.heap.size a0 a1 ∧
    Slot2 ((w.alloc (.cells #[a0, a1] 27)).alloc (.cells #[b0, b1] 27)) (w.heap.size + 1) b0 b1 := by
  refine ⟨((Below.refl _ _).alloc (Nat.le_refl _) _).alloc (by simp) _, (Slot2.new w a0 a1 _).alloc _, ?_⟩
  have := Slot2.new (w.alloc (.cells #[a0, a1] 27)) b0 b1 27
  rwa [World.size_alloc] at this
end Go.Proofs.YtnlmdjbakcjhbaaDoor
