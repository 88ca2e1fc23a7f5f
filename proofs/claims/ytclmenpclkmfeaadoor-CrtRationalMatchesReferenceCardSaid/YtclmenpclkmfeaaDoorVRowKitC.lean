/- Words for the rows of layer 4: arguments that are limbs and a sign. -/
import Derived.Test.YtclmenpclkmfeaaDoorVRowKitM
namespace Go.Proofs.YtclmenpclkmfeaaDoor
open Go.ChangeShapes Go.WideShapes Go.ChangeAt Go.RowKit
set_option maxRecDepth 100000 in
theorem open_cnum {H : Type} {enc : TypeId × Value → H} {W : World} {base : Nat} {v : Value} {d : DataW H} {p : List MemPlace} (hv : Value.okWide Tryd.prog W .any base 45 v)
    (h : DataW.Trod enc Tryd.prog W 0 (fun _ => true) true 45 v d p) : ∃ A n c neg xs, v = .agg #[.slice A n c, .bool neg] ∧ Lim W W.heap.size A n c xs := by
  obtain ⟨v0, v1, y0, y1, m, rfl, rfl, rfl, h0, h1⟩ := Joins.open_agg2 Tryd.underlying45 (by kernel_rfl) (by kernel_rfl) hv h
  obtain ⟨b, hb⟩ : ∃ b, v1 = .bool b := by
    obtain ⟨b, hb, _⟩ := DataW.trod_bool Tryd.underlying4 h1
    exact ⟨b, by simpa using hb⟩
  rcases open_ints Tryd.underlying26 Tryd.underlying69 cellsU32 h0 with ⟨hc, _⟩ | ⟨a, len, cap, zs, hc, _, hl, hm, hz, _, hcell, hw⟩
  · cases hc
    exact ⟨none, 0, 0, b, [], by rw [hb], Lim.none_ (by omega)⟩
  · cases hc
    obtain ⟨xs, hx⟩ := lim_of hl hm hz hcell hw
    exact ⟨_, _, _, b, xs, by rw [hb], hx⟩
end Go.Proofs.YtclmenpclkmfeaaDoor
