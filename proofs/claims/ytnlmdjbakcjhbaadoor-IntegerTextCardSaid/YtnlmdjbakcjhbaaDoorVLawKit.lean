/- Words for the laws' walks. -/
import Derived.Test.YtnlmdjbakcjhbaaDoorVG24Sz
import Derived.Test.YtnlmdjbakcjhbaaDoorVDivModZ
import Derived.Test.YtnlmdjbakcjhbaaDoorVG4DlOnce
import Derived.Test.YtnlmdjbakcjhbaaDoorVLawBase
import Derived.Test.YtnlmdjbakcjhbaaDoorVG3Made
import Derived.Test.YtnlmdjbakcjhbaaDoorVSanP
import Derived.Deep.DeepCutAuto
import Derived.Deep.RegionHeld3
namespace Go.Proofs.YtnlmdjbakcjhbaaDoor
open Go.RowKit
/-- The blocks of raw integers. -/
theorem frameR1 (w : World) (a0 a1 : Value) : Below w.heap.size w (w.alloc (.cells #[a0, a1] 24)) ∧ Slot2 (w.alloc (.cells #[a0, a1] 24)) w.heap.size a0 a1 := ⟨(Below.refl _ _).alloc (Nat.le_refl _) _, Slot2.new w a0 a1 _⟩
theorem frameR2 (w : World) (a0 a1 b0 b1 : Value) : Below w.heap.size w ((w.alloc (.cells #[a0, a1] 24)).alloc (.cells #[b0, b1] 24)) ∧ Slot2 ((w.alloc (.cells #[a0, a1] 24)).alloc (.cells #[b0, b1] 24)) w.heap.size a0 a1 ∧ Slot2 ((w.alloc (.cells #[a0, a1] 24)).alloc (.cells #[b0, b1] 24)) (w.heap.size + 1) b0 b1 := by
  have h1 := Slot2.new (w.alloc (.cells #[a0, a1] 24)) b0 b1 24
  rw [World.size_alloc] at h1
  exact ⟨((Below.refl _ _).alloc (Nat.le_refl _) _).alloc (by simp) _, (Slot2.new w a0 a1 _).alloc _, h1⟩
/-- Two new structs that hold integers. -/
theorem two_new {w : World} {g1 g2 : Bool} {A1 A2 : Option Addr} {n1 c1 n2 c2 : Nat} {q r : Int} (h1 : IsInt w g1 A1 n1 c1 q) (h2 : IsInt w g2 A2 n2 c2 r) :
    Bag ((w.alloc (.cells #[.bool g1, .slice A1 n1 c1] 27)).alloc (.cells #[.bool g2, .slice A2 n2 c2] 27)) [(w.heap.size, q), (w.heap.size + 1, r)] ∧
    Below w.heap.size w ((w.alloc (.cells #[.bool g1, .slice A1 n1 c1] 27)).alloc (.cells #[.bool g2, .slice A2 n2 c2] 27)) := by
  have D1 := (Below.refl w.heap.size w).alloc (Nat.le_refl _) (.cells #[.bool g1, .slice A1 n1 c1] 27)
  have e1 := IntAt.new h1
  have e2 := IntAt.new (h2.below D1)
  rw [World.size_alloc] at e2
  exact ⟨Bag.cons (e1.after ((Below.refl _ _).alloc (Nat.le_refl _) _)) (Bag.cons e2 (bag_nil _)), D1.alloc (by simp) _⟩
theorem sgn_ne' {z : Int} (h : z ≠ 0) : (sgn z == 0) = false := by
  unfold sgn
  split
  · rfl
  · split
    · rfl
    · omega
theorem isInt_zero' (w : World) : IsInt w false none 0 0 0 := ⟨by simp, by simpa [digs_zero] using Lim.none_ (by omega)⟩
end Go.Proofs.YtnlmdjbakcjhbaaDoor
