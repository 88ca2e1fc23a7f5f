/- Words for the rows of layer 2: raw fractions as arguments. -/
import Derived.Test.YtlpoboikompjfaaGreatDoorVRowKit
namespace Go.Proofs.YtlpoboikompjfaaGreatDoor
open Go.ChangeShapes Go.WideShapes Go.ChangeAt Go.RowKit
set_option maxRecDepth 100000 in
theorem open_qraw {H : Type} {enc : TypeId × Value → H} {W : World} {base : Nat} {v : Value} {d : DataW H} {p : List MemPlace} (hv : Value.okWide Tryz.prog W .any base 24 v)
    (h : DataW.Trod enc Tryz.prog W 0 (fun _ => true) true 24 v d p) : ∃ A E n c m d neg xs ys, v = .agg #[.slice A n c, .slice E m d, .bool neg] ∧ Lim W W.heap.size A n c xs ∧ Lim W W.heap.size E m d ys := by
  obtain ⟨v0, v1, v2, y0, y1, y2, m, rfl, rfl, rfl, h0, h1, h2⟩ := Joins.open_agg3 Tryz.underlying24 (by kernel_rfl) (by kernel_rfl) hv h
  obtain ⟨b, hb⟩ : ∃ b, v2 = .bool b := by
    obtain ⟨b, hb, _⟩ := DataW.trod_bool Tryz.underlying4 h2
    exact ⟨b, by simpa using hb⟩
  have g0 : ∃ A n c xs, v0 = .slice A n c ∧ Lim W W.heap.size A n c xs := by
    rcases open_ints Tryz.underlying22 Tryz.underlying84 cellsU32 h0 with ⟨hc, _⟩ | ⟨a, len, cap, zs, hc, _, hl, hm, hz, _, hcell, hw⟩
    · cases hc
      exact ⟨none, 0, 0, [], rfl, Lim.none_ (by omega)⟩
    · cases hc
      obtain ⟨xs, hx⟩ := lim_of hl hm hz hcell hw
      exact ⟨_, _, _, xs, rfl, hx⟩
  have g1 : ∃ A n c xs, v1 = .slice A n c ∧ Lim W W.heap.size A n c xs := by
    rcases open_ints Tryz.underlying22 Tryz.underlying84 cellsU32 h1 with ⟨hc, _⟩ | ⟨a, len, cap, zs, hc, _, hl, hm, hz, _, hcell, hw⟩
    · cases hc
      exact ⟨none, 0, 0, [], rfl, Lim.none_ (by omega)⟩
    · cases hc
      obtain ⟨xs, hx⟩ := lim_of hl hm hz hcell hw
      exact ⟨_, _, _, xs, rfl, hx⟩
  obtain ⟨A, n, c, xs, e0, hx⟩ := g0
  obtain ⟨E, k, e, ys, e1, hy⟩ := g1
  exact ⟨A, E, n, c, k, e, b, xs, ys, by rw [e0, e1, hb], hx, hy⟩
end Go.Proofs.YtlpoboikompjfaaGreatDoor
