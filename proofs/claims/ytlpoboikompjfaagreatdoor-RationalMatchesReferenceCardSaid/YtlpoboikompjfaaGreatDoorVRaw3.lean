/- Structs of three cells: raw fractions. -/
import Derived.Test.YtlpoboikompjfaaGreatDoorVG1WordB
namespace Go.Proofs.YtlpoboikompjfaaGreatDoor
open Go.RowKit
def Slot3 (w : World) (g : Nat) (a0 a1 a2 : Value) : Prop := w.cell? ⟨g, 0, none⟩ = some a0 ∧ w.cell? ⟨g, 1, none⟩ = some a1 ∧ w.cell? ⟨g, 2, none⟩ = some a2 ∧ g < w.heap.size
theorem Slot3.new (w : World) (a0 a1 a2 : Value) (t : TypeId) : Slot3 (w.alloc (.cells #[a0, a1, a2] t)) w.heap.size a0 a1 a2 := by
  refine ⟨?_, ?_, ?_, ?_⟩ <;> simp
theorem Slot3.after {w w' : World} {g : Nat} {a0 a1 a2 : Value} (h : Slot3 w g a0 a1 a2) (hb : Below w.heap.size w w') : Slot3 w' g a0 a1 a2 := by
  obtain ⟨h0, h1, h2, hl⟩ := h
  exact ⟨(hb.cell (p := ⟨g, 0, none⟩) hl).trans h0, (hb.cell (p := ⟨g, 1, none⟩) hl).trans h1, (hb.cell (p := ⟨g, 2, none⟩) hl).trans h2, Nat.lt_of_lt_of_le hl hb.size⟩
theorem Slot3.alloc {w : World} {g : Nat} {a0 a1 a2 : Value} (h : Slot3 w g a0 a1 a2) (o : Obj) : Slot3 (w.alloc o) g a0 a1 a2 := h.after ((Below.refl _ _).alloc (Nat.le_refl _) o)
theorem Slot3.cells {w : World} {g : Nat} {a0 a1 a2 : Value} (h : Slot3 w g a0 a1 a2) : w.cell? ⟨g, 0, none⟩ = some a0 ∧ w.cell? ⟨g, 1, none⟩ = some a1 ∧ w.cell? ⟨g, 2, none⟩ = some a2 := ⟨h.1, h.2.1, h.2.2.1⟩
end Go.Proofs.YtlpoboikompjfaaGreatDoor
