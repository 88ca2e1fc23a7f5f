/- Words for statements that assign fractions and integers at once. -/
import Derived.Test.YtlpoboikompjfaaGreatDoorVG25RatR
namespace Go.Proofs.YtlpoboikompjfaaGreatDoor
open Go.RowKit
theorem RatV.set2 {w : World} {g : Nat} {a0 a1 : Value} {v : Value} {q : Rat} (h : RatV w v q) (hs : Slot2 w g a0 a1) (n0 : noLimb a0 = true) (n1 : noLimb a1 = true) (u0 u1 : Value) : RatV ((w.setCell ⟨g, 0, none⟩ u0).setCell ⟨g, 1, none⟩ u1) v q := by
  obtain ⟨a, b, c, d, a', b', c', d', e, hi⟩ := h
  exact ⟨a, b, c, d, a', b', c', d', e, ⟨hi.num.set2 hs n0 n1 _ _, hi.den.set2 hs n0 n1 _ _⟩⟩
theorem TupQ.set2 {w : World} {g : Nat} {a0 a1 : Value} {v : Value} {q : Rat} {e : Int} (h : TupQ w v q e) (hs : Slot2 w g a0 a1) (n0 : noLimb a0 = true) (n1 : noLimb a1 = true) (u0 u1 : Value) : TupQ ((w.setCell ⟨g, 0, none⟩ u0).setCell ⟨g, 1, none⟩ u1) v q e := by
  obtain ⟨v1, e1, h1⟩ := h
  exact ⟨v1, e1, h1.set2 hs n0 n1 _ _⟩
theorem OwnQ.far2 {B : Nat} {w : World} {v : Value} {st : Bool} {q : Rat} (h : OwnQ B w v st q) {g : Nat} (hne : v ≠ .pointer (some ⟨g, 0, none⟩)) {a0 a1 : Value} (hs : Slot2 w g a0 a1) (n0 : noLimb a0 = true) (n1 : noLimb a1 = true) (u0 u1 : Value) :
    OwnQ B ((w.setCell ⟨g, 0, none⟩ u0).setCell ⟨g, 1, none⟩ u1) v st q := by
  obtain ⟨g', e, hg, b0, b1, b2, b3, hs', m0, m1, m2, m3, hi⟩ := h
  have hgg : g' ≠ g := fun h => hne (by rw [e, h])
  exact ⟨g', e, hg, b0, b1, b2, b3, hs'.far2 hgg _ _, m0, m1, m2, m3, fun h => (hi h).set2 hs n0 n1 _ _⟩
theorem OwnP.far4 {B : Nat} {w : World} {v : Value} {st : Bool} {z : Int} (h : OwnP B w v st z) {g : Nat} (hne : v ≠ .pointer (some ⟨g, 0, none⟩)) {a0 a1 a2 a3 : Value} (hs : Slot4 w g a0 a1 a2 a3) (n0 : noLimb a0 = true) (n1 : noLimb a1 = true) (n2 : noLimb a2 = true) (n3 : noLimb a3 = true) (u0 u1 u2 u3 : Value) :
    OwnP B ((((w.setCell ⟨g, 0, none⟩ u0).setCell ⟨g, 1, none⟩ u1).setCell ⟨g, 2, none⟩ u2).setCell ⟨g, 3, none⟩ u3) v st z := by
  obtain ⟨g', e, hg, b0, b1, hs', m0, m1, hi⟩ := h
  have hgg : g' ≠ g := fun h => hne (by rw [e, h])
  exact ⟨g', e, hg, b0, b1, hs'.far4 hgg _ _ _ _, m0, m1, fun h => (hi h).set4 hs n0 n1 n2 n3 _ _ _ _⟩
/-- A store of the zero value. -/
theorem OwnQ.near0 {B : Nat} {w : World} {g : Nat} {q : Rat} (hg : B ≤ g) {a0 a1 a2 a3 : Value} (hs : Slot4 w g a0 a1 a2 a3) (_n0 : noLimb a0 = true) (_n1 : noLimb a1 = true) (_n2 : noLimb a2 = true) (_n3 : noLimb a3 = true) :
    OwnQ B ((((w.setCell ⟨g, 0, none⟩ (.bool false)).setCell ⟨g, 1, none⟩ (.slice none 0 0)).setCell ⟨g, 2, none⟩ (.bool false)).setCell ⟨g, 3, none⟩ (.slice none 0 0)) (.pointer (some ⟨g, 0, none⟩)) false q :=
  ⟨g, rfl, hg, _, _, _, _, hs.near4 _ _ _ _, rfl, rfl, rfl, rfl, fun h => by cases h⟩
theorem OwnQ.ptr {B : Nat} {w : World} {v : Value} {st : Bool} {q : Rat} (h : OwnQ B w v st q) : ∃ g, v = .pointer (some ⟨g, 0, none⟩) ∧ B ≤ g := by
  obtain ⟨g, e, hg, _⟩ := h
  exact ⟨g, e, hg⟩
end Go.Proofs.YtlpoboikompjfaaGreatDoor
