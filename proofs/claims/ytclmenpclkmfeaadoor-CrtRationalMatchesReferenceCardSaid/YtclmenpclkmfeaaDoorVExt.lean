/- Contract of integer.Ext. -/
import Derived.Test.YtclmenpclkmfeaaDoorVG15DivModW
import Derived.Test.YtclmenpclkmfeaaDoorVExtZ
namespace Go.Proofs.YtclmenpclkmfeaaDoor
open Go.RowKit
theorem Slot2.two {w : World} {g : Nat} {a b : Value} (h : Slot2 w g a b) : w.cell? ⟨g, 0, none⟩ = some a ∧ w.cell? ⟨g, 1, none⟩ = some b := ⟨h.1, h.2.1⟩
/-- A common divisor g and its coefficients come back. -/
def RetExt (w : World) (g : Nat) (neg neg' : Bool) (va vb : Nat) (e : Ending) (w' : World) : Prop := ∃ s t s' t' : Int, Ret3 w (g : Int) (if neg then -s else s) (if neg' then -t else t) e w' ∧ ExtInv va vb g 0 s s' t t'
end Go.Proofs.YtclmenpclkmfeaaDoor
