/- Words for the rows of layer 2: any value of the type of fractions as an argument. -/
import Derived.Test.YtlpoboikompjfaaGreatDoorVRowKitQ
namespace Go.Proofs.YtlpoboikompjfaaGreatDoor
open Go.ChangeShapes Go.WideShapes Go.ChangeAt Go.RowKit
set_option maxRecDepth 100000 in
theorem open_intv {H : Type} {enc : TypeId × Value → H} {W : World} {fuel : Nat} {v0 v1 : Value} {y : DataW H × List MemPlace}
    (h : DataW.trod enc Tryz.prog W 0 (fun _ => true) true fuel 26 [v0, v1] = some y) : ∃ A n c neg xs, v0 = .bool neg ∧ v1 = .slice A n c ∧ Lim W W.heap.size A n c xs := by
  obtain ⟨z0, z1, m, _, _, k0, k1⟩ := trod_struct2 Tryz.underlying26 h
  have e1 : Tryz.prog.cellsOf 4 = 1 := by kernel_rfl
  have e2 : Tryz.prog.cellsOf 22 = 1 := by kernel_rfl
  rw [e1] at k0
  rw [e2] at k1
  obtain ⟨b, hb, _⟩ := DataW.trod_bool Tryz.underlying4 k0
  have hb' : v0 = .bool b := by simpa using hb
  have k1' : DataW.trod enc Tryz.prog W 0 (fun _ => true) true m 22 [v1] = some z1 := by simpa using k1
  rcases open_ints Tryz.underlying22 Tryz.underlying84 cellsU32 k1' with ⟨hc, _⟩ | ⟨a, len, cap, zs, hc, _, hl, hm, hz, _, hcell, hw⟩
  · cases hc
    exact ⟨none, 0, 0, b, [], hb', rfl, Lim.none_ (by omega)⟩
  · cases hc
    obtain ⟨xs, hx⟩ := lim_of hl hm hz hcell hw
    exact ⟨_, _, _, b, xs, hb', rfl, hx⟩
set_option maxRecDepth 100000 in
theorem open_rat {H : Type} {enc : TypeId × Value → H} {W : World} {base : Nat} {v : Value} {d : DataW H} {p : List MemPlace} (hv : Value.okWide Tryz.prog W .any base 28 v)
    (h : DataW.Trod enc Tryz.prog W 0 (fun _ => true) true 28 v d p) : ∃ gn A n c gd E m k xs ys, v = .agg #[.bool gn, .slice A n c, .bool gd, .slice E m k] ∧ Lim W W.heap.size A n c xs ∧ Lim W W.heap.size E m k ys := by
  obtain ⟨cs, rfl, hsz⟩ := okWide_struct Tryz.underlying28 hv
  have hC : Tryz.prog.cellsOf 28 = 4 := by kernel_rfl
  obtain ⟨c0, c1, c2, c3, rfl⟩ := Joins.array4 (hsz.trans hC)
  obtain ⟨fuel, hf⟩ := h
  obtain ⟨y0, y1, n, _, _, h0, h1⟩ := trod_struct2 Tryz.underlying28 hf
  have hI : Tryz.prog.cellsOf 26 = 2 := by kernel_rfl
  rw [hI] at h0 h1
  have g0 : DataW.trod enc Tryz.prog W 0 (fun _ => true) true n 26 [c0, c1] = some y0 := by simpa [Value.cells] using h0
  have g1 : DataW.trod enc Tryz.prog W 0 (fun _ => true) true n 26 [c2, c3] = some y1 := by simpa [Value.cells] using h1
  obtain ⟨A, l, c, b, xs, rfl, rfl, hx⟩ := open_intv g0
  obtain ⟨E, m, k, b', ys, rfl, rfl, hy⟩ := open_intv g1
  exact ⟨b, A, l, c, b', E, m, k, xs, ys, rfl, hx, hy⟩
end Go.Proofs.YtlpoboikompjfaaGreatDoor
