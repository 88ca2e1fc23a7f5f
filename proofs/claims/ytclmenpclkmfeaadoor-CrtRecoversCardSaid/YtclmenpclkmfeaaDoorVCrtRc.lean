/- Words for statements that assign a row of residues together with integers. -/
import Derived.Test.YtclmenpclkmfeaaDoorVCrtMd
import Derived.Test.YtclmenpclkmfeaaDoorVG1CrtMap
namespace Go.Proofs.YtclmenpclkmfeaaDoor
open Go.RowKit Go.Maps
/-- The value is a row of residues as Made returns it. -/
def MadeV (B N : Nat) (w : World) (v : Value) : Prop := ∃ g n c L, v = .slice (some ⟨g, 0, none⟩) n c ∧ OwnR w B (.slice (some ⟨g, 0, none⟩) n c) n L ∧ n ≤ N ∧ Hid (OkR L ∧ PrL L)
theorem MadeV.below {B N : Nat} {w w' : World} {v : Value} (h : MadeV B N w v) (hb : Below w.heap.size w w') : MadeV B N w' v := by
  obtain ⟨g, n, c, L, e, hO, hn, hL⟩ := h
  exact ⟨g, n, c, L, e, hO.keep hb, hn, hL⟩
theorem OwnR.far2 {w : World} {base g n c g' : Nat} {L : List (Nat × Nat)} (hO : OwnR w base (.slice (some ⟨g, 0, none⟩) n c) n L) (hne : g ≠ g') (u0 u1 : Value) : OwnR ((w.setCell ⟨g', 0, none⟩ u0).setCell ⟨g', 1, none⟩ u1) base (.slice (some ⟨g, 0, none⟩) n c) n L := by
  refine ⟨hO.1, ?_⟩
  rcases hO.2 with ⟨e1, _⟩ | ⟨g2, cap, cur, e1, hb, hg, rest⟩
  · cases e1
  · cases e1
    exact .inr ⟨g, _, cur, rfl, hb, (Below.heap_setCell _ _ _ g hne).trans ((Below.heap_setCell _ _ _ g hne).trans hg), rest⟩
/-- The row does not lie where the pointer points. -/
def FarV (v p : Value) : Prop := ∀ g n c, v = .slice (some ⟨g, 0, none⟩) n c → p ≠ .pointer (some ⟨g, 0, none⟩)
theorem MadeV.set2 {B N : Nat} {w : World} {v : Value} (h : MadeV B N w v) {g' : Nat} {a0 a1 : Value} (_hs : Slot2 w g' a0 a1) (hf : FarV v (.pointer (some ⟨g', 0, none⟩))) (u0 u1 : Value) : MadeV B N ((w.setCell ⟨g', 0, none⟩ u0).setCell ⟨g', 1, none⟩ u1) v := by
  obtain ⟨g, n, c, L, e, hO, hn, hL⟩ := h
  have hne : g ≠ g' := fun e2 => hf g n c e (by rw [e2])
  refine ⟨g, n, c, L, e, ⟨hO.1, ?_⟩, hn, hL⟩
  rcases hO.2 with ⟨e1, _⟩ | ⟨g2, cap, cur, e1, hb, hg, rest⟩
  · cases e1
  · cases e1
    exact .inr ⟨g, _, cur, rfl, hb, (Below.heap_setCell _ _ _ g hne).trans ((Below.heap_setCell _ _ _ g hne).trans hg), rest⟩
theorem FarV.fresh {B N : Nat} {w : World} {v : Value} (h : MadeV B N w v) : FarV v (.pointer (some ⟨w.heap.size, 0, none⟩)) := by
  obtain ⟨g, n, c, L, rfl, hO, _, _⟩ := h
  intro g1 n1 c1 e e2
  have hlt := (World.ownsRow.lt hO g rfl).2
  injection e with e
  injection e with e
  injection e with e
  injection e2 with e2
  injection e2 with e2
  injection e2 with e2
  omega
theorem FarV.new {B g n c : Nat} {L : List (Nat × Nat)} {w w' : World} {p : Value} {st : Bool} {z : Int} (h : OwnR w' w.heap.size (.slice (some ⟨g, 0, none⟩) n c) n L) (hp : OwnP B w p st z) : FarV (.slice (some ⟨g, 0, none⟩) n c) p := by
  obtain ⟨g2, rfl, _, _, _, hs, _⟩ := hp
  intro g1 n1 c1 e e2
  have hlt := (World.ownsRow.lt h g rfl).1
  have := hs.2.2.2.2
  injection e with e
  injection e with e
  injection e with e
  injection e2 with e2
  injection e2 with e2
  injection e2 with e2
  omega
end Go.Proofs.YtclmenpclkmfeaaDoor
