/- Words for regions that write into structs that were there before. -/
import Derived.Test.YtnlmdjbakcjhbaaDoorVG3Made
namespace Go.Proofs.YtnlmdjbakcjhbaaDoor
open Go.RowKit
/-- The struct at block g: as it was (not yet written), or holding the integer z. -/
def BlkF (w : World) (g : Nat) (a0 a1 : Value) (st : Bool) (z : Int) : Prop := (st = false → Slot2 w g a0 a1) ∧ (st = true → IntAt w g z)
theorem BlkF.below {w w' : World} {g : Nat} {a0 a1 : Value} {st : Bool} {z : Int} (h : BlkF w g a0 a1 st z) (hb : Below w.heap.size w w') : BlkF w' g a0 a1 st z := ⟨fun e => (h.1 e).after hb, fun e => (h.2 e).after hb⟩
theorem BlkF.start {w : World} {g : Nat} {a0 a1 : Value} {z : Int} (h : Slot2 w g a0 a1) : BlkF w g a0 a1 false z := ⟨fun _ => h, (fun e => by cases e)⟩
theorem BlkF.far2 {w : World} {g : Nat} {a0 a1 : Value} {st : Bool} {z : Int} (h : BlkF w g a0 a1 st z) {g' : Nat} (hne : g ≠ g') {b0 b1 : Value} (hs : Slot2 w g' b0 b1) (n0 : noLimb b0 = true) (n1 : noLimb b1 = true) (u0 u1 : Value) : BlkF ((w.setCell ⟨g', 0, none⟩ u0).setCell ⟨g', 1, none⟩ u1) g a0 a1 st z :=
  ⟨fun e => (h.1 e).far2 hne u0 u1, fun e => (h.2 e).far2 hne hs n0 n1 u0 u1⟩
theorem BlkF.near {w : World} {g : Nat} {a0 a1 : Value} {z : Int} {neg : Bool} {A : Option Addr} {n c : Nat} (hi : IsInt w neg A n c z) (hs : Slot2 w g a0 a1) (n0 : noLimb a0 = true) (n1 : noLimb a1 = true) : BlkF ((w.setCell ⟨g, 0, none⟩ (.bool neg)).setCell ⟨g, 1, none⟩ (.slice A n c)) g a0 a1 true z :=
  ⟨(fun e => by cases e), fun _ => IntAt.near2 hi hs n0 n1⟩
/-- The same, where the struct holds an integer from the start. -/
def BlkI (w : World) (g : Nat) (neg : Bool) (A : Option Addr) (n c : Nat) (z0 : Int) (st : Bool) (z : Int) : Prop := (st = false → Slot2 w g (.bool neg) (.slice A n c) ∧ IsInt w neg A n c z0) ∧ (st = true → IntAt w g z)
section
variable {w w' : World} {g : Nat} {neg : Bool} {A : Option Addr} {n c : Nat} {z0 z : Int} {st : Bool}
theorem BlkI.below (h : BlkI w g neg A n c z0 st z) (hb : Below w.heap.size w w') : BlkI w' g neg A n c z0 st z := ⟨fun e => ⟨(h.1 e).1.after hb, (h.1 e).2.below hb⟩, fun e => (h.2 e).after hb⟩
theorem BlkI.start (h : Slot2 w g (.bool neg) (.slice A n c)) (hi : IsInt w neg A n c z0) : BlkI w.drew g neg A n c z0 false z := ⟨fun _ => ⟨h.drew, hi.below (Below.refl _ _).drew⟩, (fun e => by cases e)⟩
theorem BlkI.far2 (h : BlkI w g neg A n c z0 st z) {g' : Nat} (hne : g ≠ g') {b0 b1 : Value} (hs : Slot2 w g' b0 b1) (n0 : noLimb b0 = true) (n1 : noLimb b1 = true) (u0 u1 : Value) : BlkI ((w.setCell ⟨g', 0, none⟩ u0).setCell ⟨g', 1, none⟩ u1) g neg A n c z0 st z :=
  ⟨fun e => ⟨(h.1 e).1.far2 hne u0 u1, (h.1 e).2.set2 hs n0 n1 u0 u1⟩, fun e => (h.2 e).far2 hne hs n0 n1 u0 u1⟩
theorem BlkI.near {neg' : Bool} {A' : Option Addr} {n' c' : Nat} (hi : IsInt w neg' A' n' c' z) (hs : Slot2 w g (.bool neg) (.slice A n c)) : BlkI ((w.setCell ⟨g, 0, none⟩ (.bool neg')).setCell ⟨g, 1, none⟩ (.slice A' n' c')) g neg A n c z0 true z :=
  ⟨(fun e => by cases e), fun _ => IntAt.near2 hi hs rfl rfl⟩
theorem BlkI.at_ (h : BlkI w g neg A n c z0 false z) : IntAt w g z0 := ⟨neg, A, n, c, (h.1 rfl).1, (h.1 rfl).2⟩
end
end Go.Proofs.YtnlmdjbakcjhbaaDoor
