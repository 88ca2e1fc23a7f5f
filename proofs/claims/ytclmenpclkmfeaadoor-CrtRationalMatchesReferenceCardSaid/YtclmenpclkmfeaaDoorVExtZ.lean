/- Contract of integer.Ext. -/
import Derived.Test.YtclmenpclkmfeaaDoorVG15DivModW
import Derived.Test.YtclmenpclkmfeaaDoorVG7AddB
namespace Go.Proofs.YtclmenpclkmfeaaDoor
open Go.RowKit
/-- The world behind 'a, b = tidy(a), tidy(b)', with three results. -/
def Tid3 (w wx : World) (x0 x1 y0 y1 : Value) : Prop := Below w.heap.size w wx ∧ Slot2 wx w.heap.size x0 x1 ∧ Slot2 wx (w.heap.size + 1) y0 y1 ∧ Slot2 wx (w.heap.size + 1 + 1) (.bool false) (.slice none 0 0) ∧ Slot2 wx (w.heap.size + 1 + 1 + 1) (.bool false) (.slice none 0 0) ∧ Slot2 wx (w.heap.size + 1 + 1 + 1 + 1) (.bool false) (.slice none 0 0)
theorem frame23 (w : World) (a0 a1 b0 b1 : Value) :
    Tid3 w (((((w.alloc (.cells #[a0, a1] 28)).alloc (.cells #[b0, b1] 28)).alloc (.cells #[.bool false, .slice none 0 0] 28)).alloc (.cells #[.bool false, .slice none 0 0] 28)).alloc (.cells #[.bool false, .slice none 0 0] 28)) a0 a1 b0 b1 := by
  obtain ⟨HB, P0, Q0, R0, S0⟩ := frame22 w a0 a1 b0 b1
  have h := Slot2.new ((((w.alloc (.cells #[a0, a1] 28)).alloc (.cells #[b0, b1] 28)).alloc (.cells #[.bool false, .slice none 0 0] 28)).alloc (.cells #[.bool false, .slice none 0 0] 28)) (.bool false) (.slice none 0 0) 28
  rw [World.size_alloc, World.size_alloc, World.size_alloc, World.size_alloc] at h
  exact ⟨HB.alloc HB.size _, P0.alloc _, Q0.alloc _, R0.alloc _, S0.alloc _, h⟩
end Go.Proofs.YtclmenpclkmfeaaDoor
