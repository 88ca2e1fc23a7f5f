/- Words for the laws' walks. -/
import Derived.Test.YtclmenpclkmfeaaDoorVG18Sz
import Derived.Test.YtclmenpclkmfeaaDoorVDivModZ
import Derived.Test.YtclmenpclkmfeaaDoorVG5MadeL
import Derived.Test.YtclmenpclkmfeaaDoorVLawBase
import Derived.Test.YtclmenpclkmfeaaDoorVG3Num2
import Derived.Test.YtclmenpclkmfeaaDoorVSanP
import Derived.Deep.DeepCutAuto
import Derived.Deep.RegionHeld3
namespace Go.Proofs.YtclmenpclkmfeaaDoor
open Go.RowKit
/-- Two new structs that hold integers. -/
theorem two_new {w : World} {g1 g2 : Bool} {A1 A2 : Option Addr} {n1 c1 n2 c2 : Nat} {q r : Int} (h1 : IsInt w g1 A1 n1 c1 q) (h2 : IsInt w g2 A2 n2 c2 r) :
    Bag ((w.alloc (.cells #[.bool g1, .slice A1 n1 c1] 28)).alloc (.cells #[.bool g2, .slice A2 n2 c2] 28)) [(w.heap.size, q), (w.heap.size + 1, r)] ∧
    Below w.heap.size w ((w.alloc (.cells #[.bool g1, .slice A1 n1 c1] 28)).alloc (.cells #[.bool g2, .slice A2 n2 c2] 28)) := by
  have D1 := (Below.refl w.heap.size w).alloc (Nat.le_refl _) (.cells #[.bool g1, .slice A1 n1 c1] 28)
  have e1 := IntAt.new h1
  have e2 := IntAt.new (h2.below D1)
  rw [World.size_alloc] at e2
  exact ⟨Bag.cons (e1.after ((Below.refl _ _).alloc (Nat.le_refl _) _)) (Bag.cons e2 (bag_nil _)), D1.alloc (by simp) _⟩
theorem sgn_ne' {z : Int} (h : z ≠ 0) : (sgn z == 0) = false := by
  unfold sgn
  split
  · rfl
  · split
    · rfl
    · omega
theorem isInt_zero' (w : World) : IsInt w false none 0 0 0 := ⟨by simp, by simpa [digs_zero] using Lim.none_ (by omega)⟩
end Go.Proofs.YtclmenpclkmfeaaDoor
